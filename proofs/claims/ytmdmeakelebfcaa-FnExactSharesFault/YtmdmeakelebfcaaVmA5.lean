/- A part of the proof of FnExactSharesFault: VmA5. -/
import Derived.Test.YtmdmeakelebfcaaVmA4
namespace Go.VM
open Go.RowKit
section
variable {cx : Cx} {P : Program}

theorem filter_sub_nodup {T : List (Tk cx.ty)} (q : Tk cx.ty → Bool) (h : (T.flatMap fun tk => vb tk.u ++ tk.fp).Nodup) : ((T.filter q).flatMap fun tk => vb tk.u ++ tk.fp).Nodup := by
  have : ∀ T : List (Tk cx.ty), List.Sublist ((T.filter q).flatMap fun tk => vb tk.u ++ tk.fp) (T.flatMap fun tk => vb tk.u ++ tk.fp) := by
    intro T
    induction T with
    | nil => exact List.Sublist.refl _
    | cons x r ih =>
      rw [List.filter_cons]
      split
      · rw [List.flatMap_cons, List.flatMap_cons]; exact (List.Sublist.refl _).append ih
      · rw [List.flatMap_cons]; exact ih.trans (List.sublist_append_right _ _)
  exact (this T).nodup h

/-- Some slices are owned no more: they are read alone from now on. -/
theorem good_frz (ok : cx.Ok) {c : Ct cx.ty} (h : Wf cx c) {nm0 : Nat} {fn r : List Nat} (hfn : ∀ n ∈ fn, Nm c n) (hsl : ∀ tk ∈ c.T, tk.nm ∈ fn → ∃ s, tk.c = .inl s) {v : V cx.ty} {u : Value}
    (hv : ∀ c' : Ct cx.ty, c'.w = c.w → Pres cx c c' → (∀ tk ∈ c.T, tk.nm ∈ fn → ∀ b ∈ vb tk.u, Rd c' b) → RepV cx c' v u) :
    Good cx c { v := v, dead := [], frz := fn, live := [], read := r } nm0 u c.w (c.T.filter (fun tk => !fn.contains tk.nm)) := by
  have hmem : ∀ tk, tk ∈ c.T.filter (fun tk => !fn.contains tk.nm) ↔ tk ∈ c.T ∧ tk.nm ∉ fn := fun tk => by simp [List.mem_filter]
  have hrd0 : ∀ b, Rd c b → Rd (c.nx { v := v, dead := [], frz := fn, live := [], read := r } c.w (c.T.filter (fun tk => !fn.contains tk.nm))) b :=
    fun b hb => ⟨hb.1, hb.2.1, fun tk ht => hb.2.2 tk ((hmem tk).1 ht).1⟩
  have hblk : ∀ tk ∈ c.T, tk.nm ∈ fn → ∀ b ∈ vb tk.u, Rd (c.nx { v := v, dead := [], frz := fn, live := [], read := r } c.w (c.T.filter (fun tk => !fn.contains tk.nm))) b := by
    intro tk ht hn b hb
    have hbd := h.bound tk ht b (List.mem_append.2 (.inl hb))
    refine ⟨hbd.2, .inr hbd.1, fun t2 ht2 hb2 => ?_⟩
    obtain ⟨h1, h2⟩ := (hmem t2).1 ht2
    exact disjoint_toks h ht h1 (fun e => h2 (e ▸ hn)) (List.mem_append.2 (.inl hb)) (List.mem_append.2 (.inl hb2))
  have hpres : Pres cx c (c.nx { v := v, dead := [], frz := fn, live := [], read := r } c.w (c.T.filter (fun tk => !fn.contains tk.nm))) := by
    refine ⟨fun b hb => ⟨hrd0 b hb, rfl⟩, fun n hn => hn, fun n hn => List.mem_append.2 (.inr hn), fun tk ht _ hF => (hmem tk).2 ⟨ht, fun hd => hF (List.mem_append.2 (.inl hd))⟩, fun tk ht l hl => (hmem tk).2 ⟨ht, fun hd => ?_⟩, fun tk ht s hs _ hF => ?_⟩
    · obtain ⟨s, hs⟩ := hsl tk ht hd
      rw [hl] at hs
      cases hs
    · rcases List.mem_append.1 hF with hF | hF
      · exact tok_any ok h ht hs hrd0 (hblk tk ht hF)
      · exact absurd hF (h.live tk ht).2
  refine ⟨⟨(List.Sublist.map _ List.filter_sublist).nodup h.names, filter_sub_nodup _ h.nodup, fun tk ht => h.bound tk ((hmem tk).1 ht).1, fun tk ht => ?_, h.start, fun tk ht => ?_, h.size⟩, hpres, hv _ rfl hpres hblk, Kept.refl _ _, fun n hn => ?_⟩
  · exact TokRep.pres cx hpres (fun _ _ => rfl) (h.rep tk ((hmem tk).1 ht).1)
  · obtain ⟨h1, h2⟩ := (hmem tk).1 ht
    refine ⟨(h.live tk h1).1, fun hF => ?_⟩
    rcases List.mem_append.1 hF with hF | hF
    · exact h2 hF
    · exact (h.live tk h1).2 hF
  · rcases hn with ⟨tk, ht, rfl⟩ | hn | hn
    · exact .inl (.inl ⟨tk, ((hmem tk).1 ht).1, rfl⟩)
    · exact .inl (.inr (.inl hn))
    · rcases List.mem_append.1 hn with hn | hn
      · exact .inl (hfn n hn)
      · exact .inl (.inr (.inr hn))

def getI {ty : Nat → Type} (slots : List (V ty)) (x : Option Operand) (d : Int) : Option Int :=
  match x with
  | none => some d
  | some x => match getV slots x with
    | .inl (.inl (some (.inl (.int _ i)))) => some i
    | _ => none

def evSlice {β : Type} (P : Program) (cx : Cx) (slots : List (V cx.ty)) (t : TypeId) (x : Operand) (lo hi mx : Option Operand) (k : Eff cx.ty → Option β) : Option β :=
  match mx, getV slots x, getI slots lo 0 with
  | none, .inl (.inl (some (.inr s))), some l => match getI slots hi s.xs.length, sliceElem P t with
    | some h, some e => if e == s.e && elemOk P cx e then
        bif decide (0 ≤ l) && decide (l ≤ h) && decide (h ≤ s.xs.length) then
          k { v := vs (ro s.e ((s.xs.take h.toNat).drop l.toNat)), dead := [], frz := rdn s, live := [], read := rdn s }
        else none
      else none
    | _, _ => none
  | none, .inl (.inl (some (.inl (.string str)))), some l => match getI slots hi str.size, P.underlying t with
    | some h, some .string => bif decide (0 ≤ l) && decide (l ≤ h) && decide (h ≤ str.size) then k (purR (vv (.string (str.extract l.toNat h.toNat))) []) else none
    | _, _ => none
  | _, _, _ => none

theorem getI_run {c : Ct cx.ty} {slots : List (V cx.ty)} {ρ : Operand → Value} {x : Option Operand} {d i : Int} (h : getI slots x d = some i) (hr : ∀ y, x = some y → RepV cx c (getV slots y) (ρ y)) : (x = none ∧ i = d) ∨ ∃ y k, x = some y ∧ ρ y = .int k i := by
  cases x with
  | none => simp only [getI, Option.some.injEq] at h; exact .inl ⟨rfl, h.symm⟩
  | some y =>
    simp only [getI] at h
    split at h
    · rename_i k j hy
      simp only [Option.some.injEq] at h
      subst h
      have := hr y rfl
      rw [hy] at this
      exact .inr ⟨y, k, rfl, this⟩
    · simp at h

theorem run_bounds {w : World} {isS : Bool} {len cap : Nat} {lo hi : Option Value} {l h : Int} (hl : (lo = none ∧ l = 0) ∨ ∃ k, lo = some (.int k l)) (hh : (hi = none ∧ h = len) ∨ ∃ k, hi = some (.int k h)) (h0 : 0 ≤ l) (h1 : l ≤ h) (h2 : h ≤ cap) :
    (Instr.sliceBounds isS len cap lo hi none).run P w = .ok (l.toNat, h.toNat, cap) w := by
  have hb : ∀ (k : IntKind) (j : Int) (y : Nat) code, 0 ≤ j → j ≤ y → (Instr.sliceBound (.int k j) y code).run P w = .ok j.toNat w := by
    intro k j y code a1 a2
    simp [Instr.sliceBound, asIntOf, a1, a2]
  unfold Instr.sliceBounds
  have hle : l ≤ (h.toNat : Int) := by omega
  rcases hh with ⟨rfl, rfl⟩ | ⟨k, rfl⟩ <;> rcases hl with ⟨rfl, rfl⟩ | ⟨k', rfl⟩
  · simp
  · simp only [Sem.run_bind, Sem.run_pure, Result.andThen_ok]
    rw [hb _ _ _ _ h0 (by omega)]
    simp
  · simp only [Sem.run_bind, Sem.run_pure, Result.andThen_ok]
    rw [hb _ _ _ _ (by omega) h2]
    simp
  · simp only [Sem.run_bind, Sem.run_pure, Result.andThen_ok]
    rw [hb _ _ _ _ (by omega) h2]
    simp only [Result.andThen_ok]
    rw [hb _ _ _ _ h0 hle]
    simp

theorem RepL_sub {w : World} {S : Nat → Prop} {n : Nat} {s : SlD cx.ty} {a : Option Addr} {k cap : Nat} (h : RepL cx w S n (some (.inr s)) (.slice a k cap)) {l hh : Nat} (h1 : l ≤ hh) (h2 : hh ≤ s.xs.length) :
    ∃ m, RepL cx w S m (some (.inr (ro s.e ((s.xs.take hh).drop l)))) (.slice (if cap = l then a else a.map (·.add (l * cx.size s.e))) (hh - l) (cap - l)) := by
  cases n with
  | zero => simp [RepL] at h
  | succ n =>
    obtain ⟨a', cap', hu, hcap, hcase⟩ := h
    simp only [Value.slice.injEq] at hu
    obtain ⟨rfl, rfl, rfl⟩ := hu
    have hlen : ((s.xs.take hh).drop l).length = hh - l := by simp; omega
    refine ⟨n + 1, _, cap - l, by rw [show (ro s.e ((s.xs.take hh).drop l)).xs.length = hh - l from hlen], by rw [show (ro s.e ((s.xs.take hh).drop l)).xs.length = hh - l from hlen]; omega, ?_⟩
    by_cases hlt : l < hh
    · rcases hcase with hx | ⟨b, off, rfl, hS, hc⟩
      · exact .inl (by simp [ro, hx])
      · have hne : ¬ cap = l := by omega
        refine .inr ⟨b, off + l * cx.size s.e, by simp [hne, Addr.add_lit], hS, fun i x hx j y hy => ?_⟩
        have hx1 : ((s.xs.take hh).drop l)[i]? = some x := hx
        rw [List.getElem?_drop, List.getElem?_take] at hx1
        split at hx1
        · obtain ⟨v, hv, hr⟩ := hc (l + i) x hx1 j y hy
          refine ⟨v, ?_, hr⟩
          rw [← hv]
          have : off + l * cx.size s.e + (i * cx.size (ro s.e ((s.xs.take hh).drop l)).e + j) = off + ((l + i) * cx.size s.e + j) := by
            show off + l * cx.size s.e + (i * cx.size s.e + j) = _
            rw [Nat.add_mul]; omega
          rw [this]
        · simp at hx1
    · refine .inl (List.eq_nil_of_length_eq_zero ?_)
      show ((s.xs.take hh).drop l).length = 0
      omega

theorem evSlice_ok (ok : cx.Ok) {β : Type} {o : Oper} {slots : List (V cx.ty)} {nm0 : Nat} {t : TypeId} {x : Operand} {lo hi mx : Option Operand} (ho : o.op = .slice t x lo hi mx) {k : Eff cx.ty → Option β} {r : β}
    (h : evSlice P cx slots t x lo hi mx k = some r) : ∃ ef, k ef = some r ∧ EffOK P cx o slots nm0 ef := by
  have hxm : x ∈ o.op.operands := by simp [ho, Op.operands]
  have hlm : ∀ y, lo = some y → y ∈ o.op.operands := fun y hy => by simp [ho, Op.operands, hy]
  have hhm : ∀ y, hi = some y → y ∈ o.op.operands := fun y hy => by simp [ho, Op.operands, hy]
  unfold evSlice at h
  split at h
  · rename_i s l hx hl
    split at h
    · rename_i hh e hhi he
      split at h
      · rename_i hc
        simp only [Bool.and_eq_true, beq_iff_eq] at hc
        obtain ⟨rfl, hel⟩ := hc
        obtain ⟨⟨d, hd⟩, hsz⟩ := elemOk_spec hel
        cases hb : (decide (0 ≤ l) && decide (l ≤ hh) && decide (hh ≤ s.xs.length)) with
        | false => rw [hb] at h; simp at h
        | true =>
          rw [hb] at h
          simp only [Bool.and_eq_true, decide_eq_true_eq] at hb
          obtain ⟨⟨h0, h1⟩, h2⟩ := hb
          refine ⟨_, h, ⟨fun c ρ hw hop _ hrd hf => ?_⟩⟩
          have hrx := hop x hxm; rw [hx] at hrx
          have hrx : RepLS cx c (some (.inr s)) (ρ x) := hrx
          have hlo := getI_run hl (fun y hy => hop y (hlm y hy))
          have hhi' := getI_run hhi (fun y hy => hop y (hhm y hy))
          have run : ∀ (a : Option Addr) (n cap : Nat), n = s.xs.length → s.xs.length ≤ cap → ρ x = .slice a n cap →
              (execOp ρ o).run P c.w = .ok (.value (.slice (if cap = l.toNat then a else a.map (·.add (l.toNat * cx.size s.e))) (hh.toNat - l.toNat) (cap - l.toNat))) c.w := by
            intro a n cap hn hcap hu
            have hbds := run_bounds (P := P) (w := c.w) (isS := true) (len := n) (cap := cap) (lo := lo.map ρ) (hi := hi.map ρ) (l := l) (h := hh) (by
              rcases hlo with ⟨a1, a2⟩ | ⟨y, kk, a1, a2⟩
              · exact .inl ⟨by rw [a1]; rfl, a2⟩
              · exact .inr ⟨kk, by rw [a1, Option.map_some, a2]⟩) (by
              rcases hhi' with ⟨a1, a2⟩ | ⟨y, kk, a1, a2⟩
              · exact .inl ⟨by rw [a1]; rfl, by rw [a2, hn]⟩
              · exact .inr ⟨kk, by rw [a1, Option.map_some, a2]⟩) h0 h1 (by omega)
            have hmx : (none : Option Operand).map ρ = none := rfl
            unfold execOp
            simp only [ho, Instr.sliceAt, Instr.slice, Sem.run_bind, run_underlying (sliceElem_eq he), Result.andThen_ok, hu, hmx, hbds, run_sizeOf' hd, hsz, Sem.run_pure]
          unfold RepLS at hrx
          by_cases h4 : s.own = 1
          · have hrn : rdn s = [s.nm] := by simp [rdn, h4]
            have h5 : s.nm ∉ c.D := hrd _ (by simp [hrn])
            simp only [h4, if_true, h5, if_false] at hrx
            obtain ⟨_, hrx⟩ := hrx
            unfold Runs
            by_cases h6 : s.nm ∈ c.F
            · simp only [h6, if_true] at hrx
              obtain ⟨n, hrx⟩ := hrx
              have hrx' := hrx
              cases n with
              | zero => simp [RepL] at hrx
              | succ n =>
                obtain ⟨a, cap, hu, hcap, _⟩ := hrx
                rw [run a _ cap rfl hcap hu]
                rw [hu] at hrx'
                obtain ⟨m, hm⟩ := RepL_sub hrx' (l := l.toNat) (hh := hh.toNat) (by omega) (by omega)
                refine ⟨_, good_frz ok hw (fun n hn => ?_) (fun tk ht hn => ?_) (fun c' hcw hp hbl => ?_)⟩
                · rw [hrn] at hn
                  simp only [List.mem_singleton] at hn
                  rw [hn]; exact .inr (.inr h6)
                · rw [hrn] at hn
                  simp only [List.mem_singleton] at hn
                  exact absurd (hn ▸ h6) (hw.live tk ht).2
                · exact (show RepLS cx c' (some (.inr _)) _ from repLS_ro (by simp [ro]) ⟨m, RepL.pres cx hp hm⟩)
            · simp only [h6, if_false] at hrx
              obtain ⟨tk, ht, hn, hcc, hu⟩ := hrx
              have hcapx : ∃ a cap, ρ x = .slice a s.xs.length cap ∧ s.xs.length ≤ cap := by
                rcases tok_el ok hw ht hcc with ⟨a1, a2⟩ | ⟨g, cap, a1, a2, _⟩
                · exact ⟨none, 0, by rw [← hu, a1, a2]; rfl, by rw [a2]; exact Nat.le_refl _⟩
                · exact ⟨_, cap, by rw [← hu, a1], a2⟩
              obtain ⟨a, cap, hua, hcap⟩ := hcapx
              rw [run a _ cap rfl hcap hua]
              have huniq : ∀ t2 ∈ c.T, t2.nm = s.nm → t2 = tk := by
                intro t2 ht2 hn2
                have hnd := hw.names
                rcases Classical.em (t2 = tk) with h | h
                · exact h
                · exfalso
                  obtain ⟨l1, l2, hl⟩ := List.append_of_mem ht
                  rw [hl] at hnd ht2
                  rw [List.map_append, List.map_cons, List.nodup_append] at hnd
                  rcases List.mem_append.1 ht2 with h3 | h3
                  · exact hnd.2.2 t2.nm (List.mem_map.2 ⟨t2, h3, rfl⟩) tk.nm (List.mem_cons_self ..) (by rw [hn2, hn])
                  · rcases List.mem_cons.1 h3 with h3 | h3
                    · exact h h3
                    · exact (List.nodup_cons.1 hnd.2.1).1 (List.mem_map.2 ⟨t2, h3, by rw [hn2, hn]⟩)
              refine ⟨_, good_frz ok hw (fun n hn' => ?_) (fun t2 ht2 hn2 => ?_) (fun c' hcw hp hbl => ?_)⟩
              · rw [hrn] at hn'
                simp only [List.mem_singleton] at hn'
                rw [hn']; exact .inl ⟨tk, ht, hn⟩
              · rw [hrn] at hn2
                simp only [List.mem_singleton] at hn2
                rw [huniq t2 ht2 hn2]
                exact ⟨s, hcc⟩
              · obtain ⟨n, hrx'⟩ := tok_any ok hw ht hcc (S := Rd c') (fun b hb => (hp.rd b hb).1) (hbl tk ht (by rw [hrn, hn]; exact List.mem_singleton.2 rfl))
                rw [hu, hua] at hrx'
                obtain ⟨m, hm⟩ := RepL_sub hrx' (l := l.toNat) (hh := hh.toNat) (by omega) (by omega)
                rw [← hcw] at hm
                exact (show RepLS cx c' (some (.inr _)) _ from repLS_ro (by simp [ro]) ⟨m, hm⟩)
          · have hrn : rdn s = [] := by simp [rdn, h4]
            simp only [h4, if_false] at hrx
            obtain ⟨n, hrx⟩ := hrx
            have hrx' := hrx
            cases n with
            | zero => simp [RepL] at hrx
            | succ n =>
              obtain ⟨a, cap, hu, hcap, _⟩ := hrx
              unfold Runs
              rw [run a _ cap rfl hcap hu]
              rw [hu] at hrx'
              obtain ⟨m, hm⟩ := RepL_sub hrx' (l := l.toNat) (hh := hh.toNat) (by omega) (by omega)
              rw [hrn]
              refine ⟨_, good_frz ok hw (fun n hn => by simp at hn) (fun tk ht hn => by simp at hn) (fun c' hcw hp hbl => ?_)⟩
              exact (show RepLS cx c' (some (.inr _)) _ from repLS_ro (by simp [ro]) ⟨m, RepL.pres cx hp hm⟩)
      · simp at h
    · simp at h
  · rename_i str l hx hl
    split at h
    · rename_i hh hhi he
      cases hb : (decide (0 ≤ l) && decide (l ≤ hh) && decide (hh ≤ str.size)) with
      | false => rw [hb] at h; simp at h
      | true =>
        rw [hb] at h
        simp only [Bool.and_eq_true, decide_eq_true_eq] at hb
        obtain ⟨⟨h0, h1⟩, h2⟩ := hb
        refine ⟨_, h, effok_pur fun c ρ hw hop _ => ?_⟩
        have hrx := hop x hxm; rw [hx] at hrx
        have hrx : ρ x = .string str := hrx
        have hlo := getI_run hl (fun y hy => hop y (hlm y hy))
        have hhi' := getI_run hhi (fun y hy => hop y (hhm y hy))
        have hbds := run_bounds (P := P) (w := c.w) (isS := false) (len := str.size) (cap := str.size) (lo := lo.map ρ) (hi := hi.map ρ) (l := l) (h := hh) (by
          rcases hlo with ⟨a1, a2⟩ | ⟨y, kk, a1, a2⟩
          · exact .inl ⟨by rw [a1]; rfl, a2⟩
          · exact .inr ⟨kk, by rw [a1, Option.map_some, a2]⟩) (by
          rcases hhi' with ⟨a1, a2⟩ | ⟨y, kk, a1, a2⟩
          · exact .inl ⟨by rw [a1]; rfl, a2⟩
          · exact .inr ⟨kk, by rw [a1, Option.map_some, a2]⟩) h0 h1 h2
        refine ⟨_, ?_, rfl⟩
        have hmx : (none : Option Operand).map ρ = none := rfl
        unfold execOp
        simp only [ho, Instr.sliceAt, Instr.slice, Sem.run_bind, run_underlying he, Result.andThen_ok, hrx, hmx, hbds, Sem.run_pure, Option.isSome_none, Bool.false_eq_true, if_false]
    · simp at h
  · simp at h

end
end Go.VM
