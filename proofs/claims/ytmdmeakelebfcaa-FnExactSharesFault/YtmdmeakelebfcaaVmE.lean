/- A part of the proof of FnExactSharesFault: VmE. -/
import Derived.Test.YtmdmeakelebfcaaVmD
namespace Go.VM
open Go.RowKit
section
variable {cx : Cx} {P : Program}

def goods (ops : Array Oper) : List Bool := (List.range ops.size).map fun r => (List.range r).all fun i => (clos ops 3 (afterOf ops r)).contains i

def cutP (ops : Array Oper) : Nat := ops.size - ((goods ops).reverse.takeWhile (fun b => b)).length

def evRegion {β : Type} (P : Program) (Kc : Kt cx) (Kw : Kwt cx) (kt : Value → St cx.ty → Option β) (ops : Array Oper) (draw : Bool) (k : St cx.ty → Option β) (st : St cx.ty) : Option β :=
  if draw then
    if decide (cutP ops ≤ ops.size) && earlyB ops (cutP ops) && lateB ops (cutP ops) then
      evPre P Kc ops st.ctr st.slots.length st.lo st.F (fun slots D' => evSeq P Kc Kw kt ops k (ops.toList.drop (cutP ops)) { slots := slots, D := D', F := st.F, ctr := st.ctr + 1, lo := st.lo }) (ops.toList.take (cutP ops)) st.slots st.D []
    else none
  else evSeq P Kc Kw kt ops k ops.toList st

/-- The same table in a world whose blocks are the same. -/
def Ct.inw {ty : Nat → Type} (c : Ct ty) (w' : World) : Ct ty := { c with w := w' }

theorem pres_inw {c : Ct cx.ty} (h : Wf cx c) {w' : World} (hh : w'.heap = c.w.heap) : Pres cx c (c.inw w') := by
  refine ⟨fun b hb => ⟨⟨by show b < w'.heap.size; rw [hh]; exact hb.1, hb.2.1, hb.2.2⟩, by show w'.heap[b]? = _; rw [hh]⟩, fun _ h => h, fun _ h => h, fun _ h _ _ => h, fun _ h _ _ => h, fun tk ht _ _ _ hf => absurd hf (h.live tk ht).2⟩

theorem wf_inw {c : Ct cx.ty} (h : Wf cx c) {w' : World} (hh : w'.heap = c.w.heap) : Wf cx (c.inw w') :=
  ⟨h.names, h.nodup, fun tk ht b hb => ⟨(h.bound tk ht b hb).1, by show b < w'.heap.size; rw [hh]; exact (h.bound tk ht b hb).2⟩,
    fun tk ht => TokRep.pres cx (pres_inw h hh) (fun b _ => by show w'.heap[b]? = _; rw [hh]) (h.rep tk ht), h.start, h.live, fun b hb => h.size b (by rw [← hh]; exact hb)⟩

theorem RS.inw {c : Ct cx.ty} {st : St cx.ty} {a : Act} (h : RS cx c st a) {w' : World} (hh : w'.heap = c.w.heap) : RS cx (c.inw w') st a :=
  ⟨wf_inw h.wf hh, h.size, fun t => RepV.pres cx (pres_inw h.wf hh) (h.rep t), h.defers, h.dead, h.frz, h.names, h.kp⟩

theorem evRegion_ok (ok : cx.Ok) (hZ : cx.POk P) {Kc : Kt cx} (hK : KOk P cx Kc) {Kw : Kwt cx} (hKw : KwOk P cx Kw) (hm : P.follows .mixedOrders = true) {β : Type} {W : World} {S N : Nat → Prop} {KK : List (Nat × Value)} {id : Nat} {ops : Array Oper} {draw : Bool} {Q : Exit → Act → World → Prop} {k : St cx.ty → Option β} {kt : Value → St cx.ty → Option β} {r : β}
    (hQt : ∀ v c st a, RS cx c st a → c.S = S → (c.N = N ∧ c.K = KK) → Kept N W c.w → kt v st = some r → Q (.panic [{ v := v, recovered := false }]) a c.w)
    (hQ : ∀ c st a, RS cx c st a → c.S = S → (c.N = N ∧ c.K = KK) → Kept N W c.w → k st = some r → Q .normal a c.w)
    {st : St cx.ty} {c : Ct cx.ty} {a : Act} (h : RS cx c st a) (hS : c.S = S) (hb : (c.N = N ∧ c.K = KK)) (hbl : Kept N W c.w) (he : evRegion P Kc Kw kt ops draw k st = some r) : (Code.region id ops draw).wp P Q a c.w := by
  unfold evRegion at he
  cases draw with
  | false =>
    simp only [Bool.false_eq_true, if_false] at he
    have := evSeq_ok ok hZ hK hKw hQt hQ ops.toList 0 (fun j => by simp) st c a h hS hb hbl he
    refine wp_region ?_
    rw [List.range_eq_range']
    simpa using this
  | true =>
    simp only [if_true] at he
    split at he
    · rename_i hc
      simp only [Bool.and_eq_true, decide_eq_true_eq] at hc
      obtain ⟨⟨hp, hearly⟩, hlate⟩ := hc
      obtain ⟨E, dd, D', hE, hk, hD', _, hfact⟩ := evPre_facts ok hZ hK _ _ _ _ he
      have hE : E.length = cutP ops := by rw [hE]; simp; omega
      refine wp_region_any hm ?_
      have hbl' : Kept N W ({ c.w with drawn := c.w.drawn + 1 } : World) := Kept.drew hbl
      have h' : RS cx (c.inw { c.w with drawn := c.w.drawn + 1 }) st a := h.inw rfl
      have hdead0 : ∀ n, n ∈ (c.inw { c.w with drawn := c.w.drawn + 1 }).D ↔ n ∈ st.D ∨ ∃ i, i < cutP ops ∧ (Array.replicate ops.size false).getD i false = true ∧ n ∈ dd.getD i [] := fun n => by
        rw [h'.dead n]
        refine ⟨Or.inl, fun hn => hn.elim (fun h => h) ?_⟩
        rintro ⟨i, _, hX, _⟩
        exfalso
        have h0 : ∀ i, (Array.replicate ops.size false).getD i false = false := fun i => by simp [Array.getD_eq_getD_getElem?, Array.getElem?_replicate]; split <;> rfl
        rw [h0 i] at hX
        cases hX
      have hstart := pre_any (dd := dd) (Q := Q) (W := W) (S := S) hp hearly hlate (slots := st.slots) (ctr := st.ctr) (lo := st.lo) (KK := KK) (N := N) (D := st.D) (F := st.F) hE hfact (fun listed c' a' hls hl hsf h1 h2 h3 => ?_)
      · have := hstart (cutP ops) (Array.replicate ops.size false) (c.inw { c.w with drawn := c.w.drawn + 1 }) a (by simp) (fun i hi => by simp [Array.getD_eq_getD_getElem?, Array.getElem?_replicate] at hi; split at hi <;> simp at hi)
          (fun i _ => by simp [Array.getD_eq_getD_getElem?, Array.getElem?_replicate]; split <;> rfl)
          (by
            have : ∀ p, (List.range p).countP (fun i => !(Array.replicate ops.size false).getD i false) = p := by
              intro p
              have h0 : ∀ i, (Array.replicate ops.size false).getD i false = false := fun i => by simp [Array.getD_eq_getD_getElem?, Array.getElem?_replicate]; split <;> rfl
              simp [h0]
            exact this _)
          ⟨h'.wf, h'.size, fun t => by
            have h0 : ∀ i, (Array.replicate ops.size false).getD i false = false := fun i => by simp [Array.getD_eq_getD_getElem?, Array.getElem?_replicate]; split <;> rfl
            rw [vOf_miss (fun i _ hX => by rw [h0 i] at hX; cases hX)]
            exact h'.rep t, h'.defers, hdead0, h'.frz, fun n hn => .inl (h'.names n hn), h'.kp⟩ hS hb hbl'
        rw [show cutP ops + (ops.size - cutP ops) = ops.size by omega] at this
        exact this
      · have hlen : (ops.toList.drop (cutP ops)).length = ops.size - cutP ops := by simp
        rw [← hlen]
        refine suf_any ok hZ hK hKw hearly hlate hQt hQ (ops.toList.drop (cutP ops)) (cutP ops) (Nat.le_refl _) (by simp; omega) (fun j => by simp) listed _ c' a' hls hl ?_ h1 h2 h3 hk
        have hops : ∀ j, j < cutP ops → ∃ o, ops[j]? = some o ∧ (ops.toList.take (cutP ops))[j]? = some o := by
          intro j hj
          have hjs : j < ops.size := by omega
          exact ⟨ops[j], Array.getElem?_eq_getElem hjs, by rw [List.getElem?_take, if_pos hj]; simp [hjs]⟩
        have hl0 : (ops.toList.take (cutP ops)).length = cutP ops := by simp; omega
        refine ⟨hsf.wf, by rw [hsf.size, fillL_length], fun t => ?_, hsf.defers, fun n => ?_, hsf.frz, fun n hn => ?_, hsf.kp⟩
        · have hfv := fill_vOf (l := ops.toList.take (cutP ops)) (E := E) (s := st.slots) (by omega) (fun x o d e1 e2 => by
            have hx : x < cutP ops := by have := (List.getElem?_eq_some_iff.1 e1).1; omega
            obtain ⟨vx, hvx⟩ : ∃ v, E[x]? = some v := ⟨_, List.getElem?_eq_getElem (by omega)⟩
            exact (hfact x o vx e1 hvx).2.2.1 d e2) (fun t i j hi hj e1 e2 => by
              have key : ∀ i j, i < j → j < cutP ops → ((ops.toList.take (cutP ops))[i]?).bind (·.dst) = some t → ((ops.toList.take (cutP ops))[j]?).bind (·.dst) = some t → False := by
                intro i j hij hj h1 h2
                obtain ⟨oi, a1, a2⟩ := hops i (by omega)
                obtain ⟨oj, b1, b2⟩ := hops j hj
                rw [a2] at h1
                rw [b2] at h2
                have h1 : oi.dst = some t := h1
                have h2 : oj.dst = some t := h2
                exact (early_pair hearly hj hij a1 b1).2 (by rw [h1, h2])
              rcases Nat.lt_trichotomy i j with hlt | heq | hgt
              · exact (key i j hlt (by omega) e1 e2).elim
              · exact heq
              · exact (key j i hgt (by omega) e2 e1).elim) (cutP ops) (by omega) t
          have e1 : (ops.toList.take (cutP ops)).take (cutP ops) = ops.toList.take (cutP ops) := List.take_of_length_le (by omega)
          have e2 : E.take (cutP ops) = E := List.take_of_length_le (by omega)
          rw [e1, e2, hl0] at hfv
          show RepV cx c' ((fillL (ops.toList.take (cutP ops)) E st.slots).getD t junk) _
          rw [hfv]
          have := hsf.rep t
          rwa [vOf_congr (Y := fun i => decide (i < cutP ops)) (fun i hi _ => by simp only [hl i (by omega)])] at this
        · show n ∈ c'.D ↔ n ∈ D'
          rw [hsf.dead n, hD' n, hl0]
          constructor
          · rintro (hn | ⟨i, hi, _, hn⟩)
            · exact .inl hn
            · exact .inr ⟨i, hi, hn⟩
          · rintro (hn | ⟨i, hi, hn⟩)
            · exact .inl hn
            · exact .inr ⟨i, hi, by rw [hl i (by omega)]; simpa using hi, hn⟩
        · rcases hsf.names n hn with hn | ⟨i, hi, _, hb1⟩
          · exact Nat.lt_of_lt_of_le hn (Nat.mul_le_mul_right _ (Nat.le_succ _))
          · obtain ⟨o, ho1, ho2⟩ := hops i hi
            obtain ⟨vi, hvi⟩ : ∃ v, E[i]? = some v := ⟨_, List.getElem?_eq_getElem (by omega)⟩
            have hsm := (hfact i o vi ho2 hvi).1
            rw [ho2] at hb1
            exact band_lt hsm hb1
    · simp at he

end
end Go.VM
