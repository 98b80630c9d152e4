/- A part of the proof of FnExactSpreadOf: VmD. -/
import Derived.Test.YtmdmeakelebfcaaVmC
namespace Go.VM
open Go.RowKit
section
variable {cx : Cx} {P : Program}

def ClosedL (ops : Array Oper) (listed : Array Bool) : Prop := ∀ i, listed.getD i false = true → ∀ x ∈ afterOf ops i, listed.getD x false = true

theorem clos_listed {ops : Array Oper} {listed : Array Bool} (hc : ClosedL ops listed) : ∀ (n : Nat) (l : List Nat), (∀ x ∈ l, listed.getD x false = true) → ∀ x ∈ clos ops n l, listed.getD x false = true
  | 0, l, h, x, hx => h x hx
  | n + 1, l, h, x, hx => by
    refine clos_listed hc n _ (fun y hy => ?_) x hx
    have hy := List.mem_eraseDups.1 hy
    rcases List.mem_append.1 hy with hy | hy
    · exact h y hy
    · obtain ⟨z, hz, hy⟩ := List.mem_flatMap.1 hy
      exact hc z (h z hz) y hy

theorem mem_afterOf {ops : Array Oper} {i : Nat} {o : Oper} (ho : ops[i]? = some o) {x : Nat} : x ∈ afterOf ops i ↔ ∃ e ∈ o.after, Region.binds .any e = true ∧ e.on = x := by
  simp only [afterOf, ho, List.mem_map, List.mem_filter, Array.mem_toList_iff]
  exact ⟨fun ⟨e, ⟨h1, h2⟩, h3⟩ => ⟨e, h1, h2, h3⟩, fun ⟨e, h1, h2, h3⟩ => ⟨e, ⟨h1, h2⟩, h3⟩⟩

theorem ready_iff {ops : Array Oper} {listed : Array Bool} {j : Nat} : j ∈ Region.ready .any ops listed ↔ listed.getD j true = false ∧ (∃ o, ops[j]? = some o) ∧ ∀ x ∈ afterOf ops j, listed.getD x false = true := by
  rw [mem_ready]
  constructor
  · rintro ⟨h1, o, ho, h2⟩
    refine ⟨h1, ⟨o, ho⟩, fun x hx => ?_⟩
    obtain ⟨e, he, hb, rfl⟩ := (mem_afterOf ho).1 hx
    exact h2 e he hb
  · rintro ⟨h1, ⟨o, ho⟩, h2⟩
    exact ⟨h1, o, ho, fun e he hb => h2 _ ((mem_afterOf ho).2 ⟨e, he, hb, rfl⟩)⟩

theorem getD_flip {listed : Array Bool} {j : Nat} (hj : j < listed.size) (b : Bool) : listed.getD j b = listed.getD j false := by
  simp [hj]

theorem getD_set_self {listed : Array Bool} {j : Nat} (hj : j < listed.size) (b : Bool) : (listed.setIfInBounds j true).getD j b = true := by
  simp [hj]

theorem early_after {ops : Array Oper} {p : Nat} (h : earlyB ops p = true) {j : Nat} (hj : j < ops.size) : ∀ i ∈ afterOf ops j, i < j := by
  simp only [earlyB, Bool.and_eq_true, List.all_eq_true, List.mem_range, decide_eq_true_eq] at h
  exact h.1 j hj

theorem early_pair {ops : Array Oper} {p : Nat} (h : earlyB ops p = true) {i j : Nat} (hj : j < p) (hi : i < j) {oi oj : Oper} (h1 : ops[i]? = some oi) (h2 : ops[j]? = some oj) : (i ∈ afterOf ops j ∨ oi.apart ops oj = true) ∧ oi.dst ≠ oj.dst := by
  simp only [earlyB, Bool.and_eq_true, List.all_eq_true, List.mem_range] at h
  have := h.2 j hj i hi
  simp only [h1, h2, Bool.and_eq_true, Bool.or_eq_true, bne_iff_ne, ne_eq] at this
  refine ⟨?_, this.2⟩
  rcases this.1 with h | h
  · exact .inl (by simpa using h)
  · exact .inr h

theorem late_all {ops : Array Oper} {p : Nat} (h : lateB ops p = true) {r : Nat} (hr : r < ops.size) (hp : p ≤ r) {i : Nat} (hi : i < r) : i ∈ clos ops 3 (afterOf ops r) := by
  simp only [lateB, List.all_eq_true, List.mem_range] at h
  have := h r hr
  simp only [Bool.or_eq_true, decide_eq_true_eq] at this
  rcases this with h | h
  · omega
  · simp only [List.all_eq_true, List.mem_range] at h
    simpa using h i hi

/-- The operations behind the first 'p': one order alone. -/
theorem suf_any (ok : cx.Ok) (hZ : cx.POk P) {Kc : Kt cx} (hK : KOk P cx Kc) {Kw : Kwt cx} (hKw : KwOk P cx Kw) {β : Type} {W : World} {S N : Nat → Prop} {KK : List (Nat × Value)} {ops : Array Oper} {p : Nat} (hearly : earlyB ops p = true) (hlate : lateB ops p = true) {Q : Exit → Act → World → Prop} {k : St cx.ty → Option β} {kt : Value → St cx.ty → Option β} {r : β}
    (hQt : ∀ v c st a, RS cx c st a → c.S = S → (c.N = N ∧ c.K = KK) → Kept N W c.w → kt v st = some r → Q (.panic [{ v := v, recovered := false }]) a c.w)
    (hQ : ∀ c st a, RS cx c st a → c.S = S → (c.N = N ∧ c.K = KK) → Kept N W c.w → k st = some r → Q .normal a c.w) :
    ∀ (l : List Oper) (i : Nat), p ≤ i → i + l.length = ops.size → (∀ j, l[j]? = ops[i + j]?) → ∀ (listed : Array Bool) (st : St cx.ty) (c : Ct cx.ty) (a : Act), listed.size = ops.size → (∀ x, x < ops.size → listed.getD x false = decide (x < i)) →
      RS cx c st a → c.S = S → (c.N = N ∧ c.K = KK) → Kept N W c.w → evSeq P Kc Kw kt ops k l st = some r → wpAny P .any ops Q l.length listed a c.w
  | [], i, hpi, hil, _, listed, st, c, a, hls, hl, h, hS, hb, hbl, he => by
    refine ⟨?_, hQ c st a h hS hb hbl he⟩
    rw [List.eq_nil_iff_forall_not_mem]
    intro j hj
    obtain ⟨h1, ⟨o, ho⟩, _⟩ := ready_iff.1 hj
    have hjs : j < ops.size := (Array.getElem?_eq_some_iff.1 ho).1
    rw [getD_flip (by omega), hl j hjs] at h1
    simp at hil
    simp at h1
    omega
  | o :: rest, i, hpi, hil, hll, listed, st, c, a, hls, hl, h, hS, hb, hbl, he => by
    have h0 : ops[i]? = some o := by simpa using (hll 0).symm
    have his : i < ops.size := (Array.getElem?_eq_some_iff.1 h0).1
    have hcl : ClosedL ops listed := by
      intro y hy x hx
      by_cases hys : y < ops.size
      · rw [hl y hys] at hy
        have hxy := early_after hearly hys x hx
        rw [hl x (by omega)]
        simp at hy ⊢
        omega
      · have : listed[y]? = none := Array.getElem?_eq_none (by omega)
        simp [Array.getD_eq_getD_getElem?, this] at hy
    refine ⟨fun hnil => ?_, fun j hj => ?_⟩
    · have : i ∈ Region.ready .any ops listed := by
        refine ready_iff.2 ⟨?_, ⟨o, h0⟩, fun x hx => ?_⟩
        · rw [getD_flip (by omega), hl i his]; simp
        · have := early_after hearly his x hx
          rw [hl x (by omega)]; simpa using this
      rw [hnil] at this
      cases this
    · obtain ⟨h1, ⟨oj, hoj⟩, h2⟩ := ready_iff.1 hj
      have hjs : j < ops.size := (Array.getElem?_eq_some_iff.1 hoj).1
      rw [getD_flip (by omega), hl j hjs] at h1
      have hij : i ≤ j := by simp at h1; omega
      have hji : j = i := by
        rcases Nat.lt_or_ge i j with hlt | hge
        · have h3 := clos_listed hcl 3 _ h2 i (late_all hlate hjs (by omega) hlt)
          rw [hl i his] at h3
          simp at h3
        · omega
      subst hji
      refine evSeq_step ok hZ hK hKw hQt h0 h hS hb hbl he fun c' st' a' k1 k2 k3 k4 k5 => ?_
      refine suf_any ok hZ hK hKw hearly hlate hQt hQ rest (j + 1) (by omega) (by simp at hil; omega) (fun x => by have := hll (x + 1); simpa [Nat.add_assoc, Nat.add_comm 1 x] using this) _ st' c' a' (by simpa using hls) (fun x hx => ?_) k1 k2 k3 k4 k5
      by_cases hxj : x = j
      · subst hxj
        rw [getD_set_self (by omega)]; simp
      · rw [getD_set_ne _ (Ne.symm hxj), hl x hx]
        simp only [decide_eq_decide]
        omega

theorem band_apart {ctr n : Nat} {d d' : Option Nat} (h1 : smallO d = true) (h2 : smallO d' = true) (hne : d ≠ d') (hb : nmOf ctr d ≤ n ∧ n < nmOf ctr d + 64) (hb' : nmOf ctr d' ≤ n ∧ n < nmOf ctr d' + 64) : False := by
  unfold nmOf at hb hb'
  cases d with
  | none =>
    cases d' with
    | none => exact hne rfl
    | some y =>
      have : y < 1000 := by simpa [smallO] using h2
      simp only at hb hb'
      omega
  | some x =>
    have h3 : x < 1000 := by simpa [smallO] using h1
    cases d' with
    | none => simp only at hb hb'; omega
    | some y =>
      have : x ≠ y := fun e => hne (by rw [e])
      simp only at hb hb'
      omega

structure SF (cx : Cx) (dst : Nat → Option Nat) (E : Nat → V cx.ty) (s0 : Nat → V cx.ty) (p len ctr lo : Nat) (D F : List Nat) (dd : Nat → List Nat) (X : Nat → Bool) (c : Ct cx.ty) (a : Act) : Prop where
  wf : Wf cx c
  size : a.tmps.size = len
  rep : ∀ t, RepV cx c (vOf dst E s0 p X t) (a.tmps.getD t undef)
  defers : a.defers = []
  dead : ∀ n, n ∈ c.D ↔ n ∈ D ∨ ∃ i, i < p ∧ X i = true ∧ n ∈ dd i
  frz : ∀ n, n ∈ c.F ↔ n ∈ F
  names : ∀ n, Nm c n → n < ctr * 65536 ∨ ∃ i, i < p ∧ X i = true ∧ nmOf ctr (dst i) ≤ n ∧ n < nmOf ctr (dst i) + 64
  kp : ∀ q u, (q, u) ∈ c.K → q < lo ∧ a.tmps.getD q undef = u

theorem exists_least {q : Nat → Prop} : ∀ (n : Nat), q n → ∃ m, m ≤ n ∧ q m ∧ ∀ k, k < m → ¬ q k := by
  intro n
  induction n using Nat.strongRecOn with
  | _ n ih =>
    intro h
    rcases Classical.em (∃ k, k < n ∧ q k) with ⟨k, hk, hq⟩ | hno
    · obtain ⟨m, h1, h2, h3⟩ := ih k hk hq
      exact ⟨m, by omega, h2, h3⟩
    · exact ⟨n, Nat.le_refl _, h, fun k hk hq => hno ⟨k, hk, hq⟩⟩

theorem count_flip (listed : Array Bool) (j : Nat) (hj : j < listed.size) (hf : listed.getD j false = false) : ∀ p, (List.range p).countP (fun i => !listed.getD i false) = (List.range p).countP (fun i => !(listed.setIfInBounds j true).getD i false) + (if j < p then 1 else 0)
  | 0 => by simp
  | p + 1 => by
    rw [List.range_succ, List.countP_append, List.countP_append, count_flip listed j hj hf p]
    by_cases h : j = p
    · subst h
      have e1 : (listed.setIfInBounds j true).getD j false = true := getD_set_self hj false
      simp only [List.countP_singleton, hf, e1, Bool.not_false, Bool.not_true, if_true, Nat.lt_irrefl, if_false, Nat.lt_succ_self, Nat.add_zero]
      simp
    · have e1 : (listed.setIfInBounds j true).getD p false = listed.getD p false := getD_set_ne false h
      rw [List.countP_singleton, List.countP_singleton, e1]
      have h2 : (j < p + 1) ↔ (j < p) := by omega
      simp only [h2]
      omega

/-- The first 'p' operations, in whatever order. -/
theorem pre_any {W : World} {S N : Nat → Prop} {KK : List (Nat × Value)} {ops : Array Oper} {p : Nat} (hp : p ≤ ops.size) (hearly : earlyB ops p = true) (hlate : lateB ops p = true) {Q : Exit → Act → World → Prop}
    {slots E : List (V cx.ty)} {dd : List (List Nat)} {ctr lo : Nat} {D F : List Nat} (hE : E.length = p)
    (hfact : ∀ (j : Nat) o v, (ops.toList.take p)[j]? = some o → E[j]? = some v → OpFact P cx ops D F ctr slots.length lo o (fillL ((ops.toList.take p).take j) (E.take j) slots) v (dd.getD j []) (fun n => ∃ i, i ≠ j ∧ n ∈ dd.getD i []))
    (hend : ∀ (listed : Array Bool) (c : Ct cx.ty) (a : Act), listed.size = ops.size → (∀ x, x < ops.size → listed.getD x false = decide (x < p)) → SF cx (fun i => ((ops.toList.take p)[i]?).bind (·.dst)) (fun i => E.getD i junk) (fun t => slots.getD t junk) p slots.length ctr lo D F (fun i => dd.getD i []) (fun i => listed.getD i false) c a →
      c.S = S → (c.N = N ∧ c.K = KK) → Kept N W c.w → wpAny P .any ops Q (ops.size - p) listed a c.w) :
    ∀ (m : Nat) (listed : Array Bool) (c : Ct cx.ty) (a : Act), listed.size = ops.size → ClosedL ops listed → (∀ i, p ≤ i → listed.getD i false = false) → (List.range p).countP (fun i => !listed.getD i false) = m →
      SF cx (fun i => ((ops.toList.take p)[i]?).bind (·.dst)) (fun i => E.getD i junk) (fun t => slots.getD t junk) p slots.length ctr lo D F (fun i => dd.getD i []) (fun i => listed.getD i false) c a → c.S = S → (c.N = N ∧ c.K = KK) → Kept N W c.w →
      wpAny P .any ops Q (m + (ops.size - p)) listed a c.w
  | 0, listed, c, a, hls, _, hbehind, hm, h, hS, hb, hbl => by
    rw [Nat.zero_add]
    refine hend listed c a hls (fun x hx => ?_) h hS hb hbl
    by_cases hxp : x < p
    · have := List.countP_eq_zero.1 hm x (List.mem_range.2 hxp)
      simpa [hxp] using this
    · rw [hbehind x (by omega)]
      simpa using hxp
  | m + 1, listed, c, a, hls, hcl, hbehind, hm, h, hS, hb, hbl => by
    have hops : ∀ j, j < p → ∃ o, ops[j]? = some o ∧ (ops.toList.take p)[j]? = some o := by
      intro j hj
      have hjs : j < ops.size := by omega
      exact ⟨ops[j], Array.getElem?_eq_getElem hjs, by rw [List.getElem?_take, if_pos hj]; simp [hjs]⟩
    have hl0 : (ops.toList.take p).length = p := by simp; omega
    have hdist : ∀ t i j, i < p → j < p → ((ops.toList.take p)[i]?).bind (·.dst) = some t → ((ops.toList.take p)[j]?).bind (·.dst) = some t → i = j := by
      have key : ∀ t i j, i < j → j < p → ((ops.toList.take p)[i]?).bind (·.dst) = some t → ((ops.toList.take p)[j]?).bind (·.dst) = some t → False := by
        intro t i j hij hj h1 h2
        obtain ⟨oi, a1, a2⟩ := hops i (by omega)
        obtain ⟨oj, b1, b2⟩ := hops j hj
        rw [a2] at h1
        rw [b2] at h2
        have h1 : oi.dst = some t := h1
        have h2 : oj.dst = some t := h2
        exact (early_pair hearly hj hij a1 b1).2 (by rw [h1, h2])
      intro t i j hi hj h1 h2
      rcases Nat.lt_trichotomy i j with hlt | heq | hgt
      · exact (key t i j hlt hj h1 h2).elim
      · exact heq
      · exact (key t j i hgt hi h2 h1).elim
    -- one is left
    have hex : ∃ i, i < p ∧ listed.getD i false = false := by
      have hpos : 0 < (List.range p).countP (fun i => !listed.getD i false) := by omega
      obtain ⟨i, hi, hi2⟩ := List.countP_pos_iff.1 hpos
      exact ⟨i, List.mem_range.1 hi, by simpa using hi2⟩
    obtain ⟨i0, hi0, hu0⟩ := hex
    rw [show m + 1 + (ops.size - p) = (m + (ops.size - p)) + 1 by omega]
    refine ⟨fun hnil => ?_, fun j hj => ?_⟩
    · obtain ⟨i1, hle, ⟨hi1, hu1⟩, hleast⟩ := exists_least (q := fun i => i < p ∧ listed.getD i false = false) i0 ⟨hi0, hu0⟩
      obtain ⟨o1, ho1, _⟩ := hops i1 hi1
      have : i1 ∈ Region.ready .any ops listed := by
        refine ready_iff.2 ⟨by rw [getD_flip (by omega)]; exact hu1, ⟨o1, ho1⟩, fun x hx => ?_⟩
        have hx1 := early_after hearly (by omega) x hx
        rcases hxx : listed.getD x false with _ | _
        · exact absurd ⟨by omega, hxx⟩ (hleast x hx1)
        · rfl
      rw [hnil] at this
      cases this
    · obtain ⟨h1, ⟨oj, hoj⟩, h2⟩ := ready_iff.1 hj
      have hjs : j < ops.size := (Array.getElem?_eq_some_iff.1 hoj).1
      rw [getD_flip (by omega)] at h1
      have hjp : j < p := by
        rcases Nat.lt_or_ge j p with hlt | hge
        · exact hlt
        · have h3 := clos_listed hcl 3 _ h2 i0 (late_all hlate hjs hge (by omega))
          rw [hu0] at h3
          cases h3
      obtain ⟨oj', hoj', hlj⟩ := hops j hjp
      rw [hoj] at hoj'
      simp only [Option.some.injEq] at hoj'
      subst hoj'
      obtain ⟨v, hv⟩ : ∃ v, E[j]? = some v := ⟨_, List.getElem?_eq_getElem (by omega)⟩
      have hf := hfact j oj v hlj hv
      obtain ⟨hsm, hlo, hdl, hf⟩ := hf
      -- the slots that it looks at are as in the text's order
      have hlook : ∀ t, t ∈ oj.looksAt ops → vOf (fun i => ((ops.toList.take p)[i]?).bind (·.dst)) (fun i => E.getD i junk) (fun t => slots.getD t junk) p (fun i => listed.getD i false) t =
          (fillL ((ops.toList.take p).take j) (E.take j) slots).getD t junk := by
        intro t ht
        have hfv := fill_vOf (l := ops.toList.take p) (E := E) (s := slots) (by omega) (fun x o d e1 e2 => by
          have hx : x < p := by have := (List.getElem?_eq_some_iff.1 e1).1; omega
          obtain ⟨vx, hvx⟩ : ∃ v, E[x]? = some v := ⟨_, List.getElem?_eq_getElem (by omega)⟩
          exact (hfact x o vx e1 hvx).2.2.1 d e2) (fun t a b ha hb => hdist t a b (by omega) (by omega)) j (by omega) t
        rw [hl0] at hfv
        rw [hfv]
        apply vOf_congr
        intro i hi hti
        obtain ⟨oi, ho1, ho2⟩ := hops i hi
        rw [ho2] at hti
        have hti : oi.dst = some t := hti
        rcases Nat.lt_trichotomy i j with hlt | heq | hgt
        · have hpair := (early_pair hearly hjp hlt ho1 hoj).1
          rcases hpair with hp1 | hp1
          · rw [h2 i hp1]; simp [hlt]
          · exact absurd ht ((Oper.apart_spec hp1).1 t hti)
        · subst heq
          rw [h1]; simp
        · have hpair := (early_pair hearly hi hgt hoj ho1).1
          rcases hpair with hp1 | hp1
          · have hnl : listed.getD i false = false := by
              rcases hli : listed.getD i false with _ | _
              · rfl
              · have := hcl i hli j hp1
                rw [h1] at this
                cases this
            rw [hnl]; simp; omega
          · exact absurd ht ((Oper.apart_spec hp1).2.2 t hti)
      -- behind it
      have step : ∀ (c' : Ct cx.ty) (a' : Act), Wf cx c' → a'.tmps.size = slots.length → a'.defers = [] → (∀ n, n ∈ c'.D ↔ n ∈ dd.getD j [] ∨ n ∈ c.D) → (∀ n, n ∈ c'.F ↔ n ∈ F) → c'.S = S → (c'.N = N ∧ c'.K = KK) → Kept N W c'.w →
          (∀ n, Nm c' n → Nm c n ∨ (nmOf ctr oj.dst ≤ n ∧ n < nmOf ctr oj.dst + 64)) →
          (∀ t, RepV cx c' (if oj.dst = some t then v else vOf (fun i => ((ops.toList.take p)[i]?).bind (·.dst)) (fun i => E.getD i junk) (fun t => slots.getD t junk) p (fun i => listed.getD i false) t) (a'.tmps.getD t undef)) → (∀ q u, (q, u) ∈ c'.K → q < lo ∧ a'.tmps.getD q undef = u) →
          wpAny P .any ops Q (m + (ops.size - p)) (listed.setIfInBounds j true) a' c'.w := by
        intro c' a' k1 k2 k3 k4 k5 k6 k7 k8 k9 k10 k11
        refine pre_any hp hearly hlate hE hfact hend m _ c' a' (by simpa using hls) ?_ ?_ ?_ ⟨k1, k2, fun t => ?_, k3, fun n => ?_, k5, fun n hn => ?_, k11⟩ k6 k7 k8
        · intro y hy x hx
          by_cases hyj : y = j
          · subst hyj
            exact getD_set_true (h2 x hx)
          · rw [getD_set_ne false (Ne.symm hyj)] at hy
            exact getD_set_true (hcl y hy x hx)
        · intro i hi
          rw [getD_set_ne false (by omega)]
          exact hbehind i hi
        · have := count_flip listed j (by omega) h1 p
          rw [if_pos hjp] at this
          omega
        · have hk := k10 t
          by_cases hd : oj.dst = some t
          · rw [if_pos hd] at hk
            rw [vOf_hit (i := j) (fun a b ha hb => hdist t a b ha hb) hjp (getD_set_self (by omega) false) (by rw [hlj]; exact hd)]
            simpa [List.getD, hv] using hk
          · rw [if_neg hd] at hk
            have : vOf (fun i => ((ops.toList.take p)[i]?).bind (·.dst)) (fun i => E.getD i junk) (fun t => slots.getD t junk) p (fun i => (listed.setIfInBounds j true).getD i false) t =
                vOf (fun i => ((ops.toList.take p)[i]?).bind (·.dst)) (fun i => E.getD i junk) (fun t => slots.getD t junk) p (fun i => listed.getD i false) t := by
              apply vOf_congr
              intro i hi hti
              have hij : i ≠ j := by
                intro e
                subst e
                rw [hlj] at hti
                exact hd hti
              exact getD_set_ne false (Ne.symm hij)
            rw [this]
            exact hk
        · rw [k4 n, h.dead n]
          constructor
          · rintro (hn | hn | ⟨i, hi, hX, hn⟩)
            · exact .inr ⟨j, hjp, getD_set_self (by omega) false, hn⟩
            · exact .inl hn
            · exact .inr ⟨i, hi, getD_set_true hX, hn⟩
          · rintro (hn | ⟨i, hi, hX, hn⟩)
            · exact .inr (.inl hn)
            · by_cases hij : i = j
              · subst hij
                exact .inl hn
              · rw [getD_set_ne false (Ne.symm hij)] at hX
                exact .inr (.inr ⟨i, hi, hX, hn⟩)
        · rcases k9 n hn with hn | hn
          · rcases h.names n hn with hn | ⟨i, hi, hX, hn⟩
            · exact .inl hn
            · exact .inr ⟨i, hi, getD_set_true hX, hn⟩
          · exact .inr ⟨j, hjp, getD_set_self (by omega) false, by rw [hlj]; exact hn⟩
      have hrep : ∀ t, RepV cx c (vOf (fun i => ((ops.toList.take p)[i]?).bind (·.dst)) (fun i => E.getD i junk) (fun t => slots.getD t junk) p (fun i => listed.getD i false) t) (a.tmps.getD t undef) := h.rep
      have put : ∀ {c' : Ct cx.ty} {u : Value}, (∀ t, RepV cx c' (vOf (fun i => ((ops.toList.take p)[i]?).bind (·.dst)) (fun i => E.getD i junk) (fun t => slots.getD t junk) p (fun i => listed.getD i false) t) (a.tmps.getD t undef)) → RepV cx c' v u →
          ∀ t, RepV cx c' (if oj.dst = some t then v else vOf (fun i => ((ops.toList.take p)[i]?).bind (·.dst)) (fun i => E.getD i junk) (fun t => slots.getD t junk) p (fun i => listed.getD i false) t) ((a.put oj.dst u).tmps.getD t undef) := by
        intro c' u g1 g2 t
        cases hd : oj.dst with
        | none => simpa [Act.put] using g1 t
        | some d =>
          by_cases hdt : d = t
          · subst hdt
            have hdd := hdl d hd
            have e2 : (a.put (some d) u).tmps.getD d undef = u := by simp [Act.put, h.size, hdd]
            rw [if_pos rfl, e2]
            exact g2
          · have e2 : (a.put (some d) u).tmps.getD t undef = a.tmps.getD t undef := by simp [Act.put, Array.getElem?_setIfInBounds_ne hdt]
            rw [if_neg (by simpa using hdt), e2]
            exact g1 t
      have psize : ∀ u, (a.put oj.dst u).tmps.size = slots.length := by
        intro u
        cases oj.dst <;> simp [Act.put, h.size]
      have hguard : ∀ g want b, oj.guard = some (g, want) → guardV ops (fillL ((ops.toList.take p).take j) (E.take j) slots) g = some b → yielded ops a.tmps g = some b := by
        intro g want b hg hb'
        unfold guardV at hb'
        cases hd : (ops[g]?).bind (·.dst) with
        | none => simp [hd] at hb'
        | some d =>
          simp only [hd] at hb'
          have hl := hlook d (mem_looks_guard hg hd)
          rw [← hl] at hb'
          have hr := hrep d
          split at hb'
          · rename_i b' hbb
            simp only [Option.some.injEq] at hb'
            subst hb'
            rw [hbb] at hr
            have hr : a.tmps.getD d undef = .bool b' := hr
            unfold yielded
            simp only [hd, Option.bind_some]
            cases ht : a.tmps[d]? with
            | none => simp [Array.getD_eq_getD_getElem?, ht, undef] at hr
            | some x =>
              have hx : x = .bool b' := by simpa [Array.getD_eq_getD_getElem?, ht] using hr
              rw [hx]
          · simp at hb'
      have hguardU : ∀ g want, oj.guard = some (g, want) → guardU ops (fillL ((ops.toList.take p).take j) (E.take j) slots) g = true → yielded ops a.tmps g = none := by
        intro g want hg hb'
        unfold guardU at hb'
        cases hd : (ops[g]?).bind (·.dst) with
        | none => simp [hd] at hb'
        | some d =>
          simp only [hd] at hb'
          have hl := hlook d (mem_looks_guard hg hd)
          rw [← hl] at hb'
          have hr := hrep d
          split at hb'
          · simp at hb'
          · rename_i v hnb hv
            rw [hv] at hr
            have hr : a.tmps.getD d undef = v := hr
            unfold yielded
            simp only [hd, Option.bind_some]
            cases ht : a.tmps[d]? with
            | none => rfl
            | some x =>
              have hx : x = v := by simpa [Array.getD_eq_getD_getElem?, ht] using hr
              subst hx
              cases x with
              | bool b => exact absurd rfl (hnb b)
              | _ => rfl
          · simp at hb'
      unfold wpOp
      simp only [hoj]
      have hnd : ∀ n, n ∉ D → (¬ ∃ i, i ≠ j ∧ n ∈ dd.getD i []) → n ∉ c.D := fun n q1 q2 q3 => by
        rcases (h.dead n).1 q3 with q3 | ⟨i, hi, hX, q3⟩
        · exact q1 q3
        · refine q2 ⟨i, fun e => ?_, q3⟩
          subst e
          rw [h1] at hX
          cases hX
      rcases hf with ⟨ef, hgo, heff, rfl, hfz, hdj, hrd, hlv⟩ | ⟨hvj, hdj, g, want, hg, hnw⟩
      · have hwant : Region.wanted oj (yielded ops a.tmps) = true := by
          unfold guardOk at hgo
          unfold Region.wanted
          split at hgo
          · rename_i hg; rw [hg]
          · rename_i g want hg
            obtain ⟨b, hb', hbw⟩ := hgo
            rw [hg]
            simp only
            rw [hguard g want b hg hb']
            simpa using hbw
        rw [if_pos hwant]
        refine .inl (Oper.wp_of_runs ?_)
        have hrun := heff.go c a.eval h.wf (fun x hx => ?_) (fun n hn => ⟨hnd n (hlv n hn).1.1 (hlv n hn).2, fun hF => (hlv n hn).1.2 ((h.frz n).1 hF)⟩) (fun n hn => hnd n (hrd n hn).1 (hrd n hn).2) (fun n hn hband => ?_)
        · refine hrun.mono fun u w' ⟨T', hg⟩ => ?_
          exact step (c.nx ef w' T') _ hg.wf (psize u) (by rw [put_defers]; exact h.defers) (fun n => by rw [← hdj]; exact List.mem_append) (fun n => by show n ∈ ef.frz ++ c.F ↔ n ∈ F; rw [hfz]; exact h.frz n) hS hb (hbl.trans (by rw [← hb.1]; exact hg.below)) hg.names
            (put (fun t => RepV.pres cx hg.pres (hrep t)) hg.rep) (fun q u' hq => ⟨(h.kp q u' hq).1, (put_lo hlo u (h.kp q u' hq).1).trans (h.kp q u' hq).2⟩)
        · cases x with
          | tmp t =>
            have := hlook t (mem_looks_operand hx)
            show RepV cx c ((fillL ((ops.toList.take p).take j) (E.take j) slots).getD t junk) (a.tmps.getD t undef)
            rw [← this]
            exact hrep t
          | const v => exact rfl
          | global g => trivial
          | func f => exact rfl
        · rcases h.names n hn with hlt | ⟨i, hi, hX, hb1, hb2⟩
          · have : ctr * 65536 ≤ nmOf ctr oj.dst := Nat.le_add_right _ _
            omega
          · obtain ⟨oi, ho1, ho2⟩ := hops i hi
            rw [ho2] at hb1 hb2
            have hb1 : nmOf ctr oi.dst ≤ n := hb1
            have hb2 : n < nmOf ctr oi.dst + 64 := hb2
            have hij : i ≠ j := by
              intro e
              subst e
              rw [h1] at hX
              cases hX
            have hne : oi.dst ≠ oj.dst := by
              rcases Nat.lt_or_gt_of_ne hij with hlt | hgt
              · exact (early_pair hearly hjp hlt ho1 hoj).2
              · exact fun e => (early_pair hearly hi hgt hoj ho1).2 e.symm
            obtain ⟨vi, hvi⟩ : ∃ v, E[i]? = some v := ⟨_, List.getElem?_eq_getElem (by omega)⟩
            have hsi := (hfact i oi vi ho2 hvi).1
            exact band_apart hsi hsm hne ⟨hb1, hb2⟩ hband
      · have hwant : Region.wanted oj (yielded ops a.tmps) = false := by
          unfold Region.wanted
          rw [hg]
          simp only
          rcases hnw with ⟨b, hb', hbw⟩ | hu
          · rw [hguard g want b hg hb']
            simpa using hbw
          · rw [hguardU g want hg hu]
            rfl
        rw [if_neg (by simp [hwant])]
        refine step c _ h.wf (psize undef) (by rw [put_defers]; exact h.defers) (fun n => by rw [hdj]; simp) h.frz hS hb hbl (fun n hn => .inl hn) (put hrep (by rw [hvj]; exact rfl)) (fun q u' hq => ⟨(h.kp q u' hq).1, (put_lo hlo undef (h.kp q u' hq).1).trans (h.kp q u' hq).2⟩)

end
end Go.VM
