/- A part of the proof of FnExactSharesFault: VmA12. -/
import Derived.Test.YtmdmeakelebfcaaVmA11
namespace Go.VM
open Go.RowKit
section
variable {cx : Cx} {P : Program}

/-- append of a thing that is owned to another one: both go into what comes of it. -/
def evAppendOwn {β : Type} (P : Program) (cx : Cx) (slots : List (V cx.ty)) (t : TypeId) (x y : Operand) (nm0 : Nat) (k : Eff cx.ty → Option β) : Option β :=
  match sliceElem P t with
  | some e => if rowFit P cx e then
      match getV slots y with
      | .inl (.inl (some (.inr s2))) => if s2.e == e && s2.own == 1 && s2.o then
          match getV slots x with
          | .inl (.inl (some (.inr s))) => if s.e == e && s.own == 1 && s.o && s.nm != s2.nm then
              bif decide (s.xs.length + s2.xs.length ≤ 1000000000) then
                k { v := tokV nm0 e (castXs e s ++ castXs e s2), dead := [s.nm, s2.nm], frz := [], live := [s.nm, s2.nm], read := [] }
              else none
            else none
          | _ => none
        else none
      | _ => none
    else none
  | none => none

theorem evAppendOwn_ok (ok : cx.Ok) {β : Type} {o : Oper} {slots : List (V cx.ty)} {nm0 : Nat} {t : TypeId} {x y : Operand} (ho : o.op = .call { callee := .builtin .append, args := #[x, y], argTypes := #[t, t] }) {k : Eff cx.ty → Option β} {r : β}
    (h : evAppendOwn P cx slots t x y nm0 k = some r) : ∃ ef, k ef = some r ∧ EffOK P cx o slots nm0 ef := by
  unfold evAppendOwn at h
  split at h
  · rename_i e he
    split at h
    · rename_i hfit
      obtain ⟨i, z, hi, hz, hsz, hzs, hpos, hby⟩ := rowFit_spec hfit
      have hxm : x ∈ o.op.operands := by simp [ho, Op.operands, Call.operands]
      have hym : y ∈ o.op.operands := by simp [ho, Op.operands, Call.operands]
      have execEq : ∀ (ρ : Operand → Value) (w : World) v' w', (Builtin.append_ #[t, t] o.type #[ρ x, ρ y]).run P w = .ok v' w' → (execOp ρ o).run P w = .ok (.value v') w' := by
        intro ρ w v' w' hr
        unfold execOp
        simp only [ho, resolve, invoke, builtin, Sem.run_bind, Sem.run_pure, Result.andThen_ok, List.map_toArray, List.map_cons, List.map_nil, hr]
      split at h
      · rename_i s2 hy
        split at h
        · rename_i hc2
          simp only [Bool.and_eq_true, beq_iff_eq] at hc2
          obtain ⟨⟨rfl, hown2⟩, hso2⟩ := hc2
          split at h
          · rename_i s hx
            split at h
            · rename_i hc1
              simp only [Bool.and_eq_true, beq_iff_eq, bne_iff_ne, ne_eq] at hc1
              obtain ⟨⟨⟨hse, hown1⟩, hso⟩, hne⟩ := hc1
              cases hb : decide (s.xs.length + s2.xs.length ≤ 1000000000) with
              | false => rw [hb] at h; simp at h
              | true =>
                rw [hb] at h
                have hb : s.xs.length + s2.xs.length ≤ 1000000000 := by simpa using hb
                refine ⟨_, h, ⟨fun c ρ hw hop hlive _ hf => ?_⟩⟩
                have hrx := hop x hxm; rw [hx] at hrx
                have hrx : RepLS cx c (some (.inr s)) (ρ x) := hrx
                have hry := hop y hym; rw [hy] at hry
                have hry : RepLS cx c (some (.inr s2)) (ρ y) := hry
                obtain ⟨tk, ht, hn, hc, hu, hvb, n1, us1, fpl1, r1, fp1, l1, m1, o1⟩ := own_parts hw hown1 hso (hlive s.nm (by simp)) hrx
                obtain ⟨tk2, ht2, hn2, hcc2, hu2, hvb2, n2, us2, fpl2, r2, fp2, l2, m2, o2⟩ := own_parts hw hown2 hso2 (hlive s2.nm (by simp)) hry
                obtain ⟨ow, nmx, ex, ox, xs⟩ := s
                simp only at hse hown1 hso hn hne l1 o1 r1 hb
                subst hse
                have hcx : castXs s2.e ({ own := ow, nm := nmx, e := s2.e, o := ox, xs := xs } : SlD cx.ty) = xs := by simp [castXs]
                have hcy : castXs s2.e s2 = s2.xs := by simp [castXs]
                rw [hcx, hcy]
                have hfl1 := flat_len (cx.enc s2.e true) (cx.size s2.e) (fun x => ok.len s2.e true x) xs
                have hfl2 := flat_len (cx.enc s2.e true) (cx.size s2.e) (fun x => ok.len s2.e true x) s2.xs
                have hnt : tk ≠ tk2 := fun h => hne (by rw [← hn, ← hn2, h])
                have hones : ∀ u ∈ us2, u.oneCell' = true := by
                  intro u hu'
                  obtain ⟨j, hj⟩ := List.getElem?_of_mem hu'
                  have hjl : j < (s2.xs.flatMap (cx.enc s2.e true)).length := by rw [← l2]; exact (List.getElem?_eq_some_iff.1 hj).1
                  have hjf : j < fpl2.length := by rw [m2]; exact (List.getElem?_eq_some_iff.1 hj).1
                  have hl := List.getElem_mem hjl
                  obtain ⟨z, _, hz2⟩ := List.mem_flatMap.1 hl
                  exact own_one ok hz2 (o2 j _ u _ (List.getElem?_eq_getElem hjl) hj (List.getElem?_eq_getElem hjf))
                obtain ⟨a2, cap2, hau, hcells⟩ : ∃ a cap, ρ y = .slice a s2.xs.length cap ∧ (s2.xs.length = 0 ∨ ∃ ad, a = some ad ∧ ∀ (j : Nat) u, us2[j]? = some u → c.w.cell? (ad.add j) = some u) := by
                  rcases r2.2 with ⟨hv, h0⟩ | ⟨g, cap, cur, hv, _⟩
                  · exact ⟨none, 0, by rw [hv, h0], .inl h0⟩
                  · exact ⟨some ⟨g, 0, none⟩, cap, hv, .inr ⟨_, rfl, r2.cells (g := g) (by rw [hv]; rfl)⟩⟩
                obtain ⟨v', w', hr, k1, k2, k3, k4⟩ := run_append_any (P := P) (w := c.w) (ty := o.type) (sliceElem_eq he) hi hz hsz hzs hpos r1 (a := a2) (m := s2.xs.length) (cap := cap2) (news := us2) (by rw [l2, hfl2]) hcells hones (by simp [maxLen]; omega) (Nat.le_trans (Nat.mul_le_mul hb hby) (by omega))
                rw [← hau] at hr
                unfold Runs
                rw [execEq ρ c.w v' w' hr]
                have hvb' : vb v' = v'.ownBlock.toList := by
                  obtain ⟨a, n, cc, rfl⟩ := k4
                  rcases k1.2 with ⟨hv, _⟩ | ⟨g, cap', cur, hv, _⟩
                  · rw [hv]; rfl
                  · rw [hv]; rfl
                have hvbm : ∀ b, b ∈ vb v' → v'.ownBlock = some b := fun b hb' => by rw [hvb'] at hb'; simpa using hb'
                have hbx : ∀ g, (ρ x).ownBlock = some g ↔ g ∈ vb tk.u := fun g => by rw [hu, hvb]; cases (ρ x).ownBlock <;> simp [eq_comm]
                have hnd1 : (vb tk.u ++ tk.fp).Nodup := by
                  have hnd := hw.nodup
                  obtain ⟨p1, p2, hp⟩ := List.append_of_mem ht
                  rw [hp] at hnd
                  simp only [List.flatMap_append, List.flatMap_cons] at hnd
                  exact (List.nodup_append.1 (List.nodup_append.1 hnd).2.1).1
                have hnd2 : (vb tk2.u ++ tk2.fp).Nodup := by
                  have hnd := hw.nodup
                  obtain ⟨p1, p2, hp⟩ := List.append_of_mem ht2
                  rw [hp] at hnd
                  simp only [List.flatMap_append, List.flatMap_cons] at hnd
                  exact (List.nodup_append.1 (List.nodup_append.1 hnd).2.1).1
                have hdis : ∀ b ∈ blocks tk, b ∉ blocks tk2 := fun b h1 h2 => disjoint_toks hw ht ht2 (fun e => hne (by rw [← hn, ← hn2]; exact e)) h1 h2
                have hsame : ∀ b, b ∈ tk.fp ++ tk2.fp → w'.heap[b]? = c.w.heap[b]? := by
                  intro b hb'
                  have hlt : b < c.w.heap.size := by
                    rcases List.mem_append.1 hb' with h1 | h1
                    · exact (hw.bound tk ht b (List.mem_append.2 (.inr h1))).2
                    · exact (hw.bound tk2 ht2 b (List.mem_append.2 (.inr h1))).2
                  refine k2.block b hlt (fun hg => ?_)
                  have hg := (hbx b).1 hg.symm
                  rcases List.mem_append.1 hb' with h1 | h1
                  · exact (List.nodup_append.1 hnd1).2.2 b hg b h1 rfl
                  · exact hdis b (List.mem_append.2 (.inl hg)) (List.mem_append.2 (.inr h1))
                refine ⟨_, good_into hw hf (fun tk' ht' hn' => ?_) (fun n hn' => ?_) (s' := { own := 1, nm := nm0, e := s2.e, o := true, xs := xs ++ s2.xs }) (fp' := tk.fp ++ tk2.fp) ⟨rfl, rfl⟩ (fun b hb' => ?_) (fun b hb' => ?_) ?_ (fun b hb' hno => ?_) k2.size ⟨k2.os, k2.tape, k2.output, k2.size, fun q hq => k2.block q (Wf.lt cx hw hq) ?_⟩ (fun c' hcw => ?_) k4⟩
                · rcases List.mem_cons.1 hn' with h1 | h1
                  · have := uniq_tok hw ht' ht (h1.trans hn.symm); subst this; exact ⟨_, hc⟩
                  · have := uniq_tok hw ht' ht2 ((List.mem_singleton.1 h1).trans hn2.symm); subst this; exact ⟨_, hcc2⟩
                · rcases List.mem_cons.1 hn' with h1 | h1
                  · exact ⟨tk, ht, by rw [h1]; exact hn⟩
                  · exact ⟨tk2, ht2, by rw [List.mem_singleton.1 h1]; exact hn2⟩
                · rcases List.mem_append.1 hb' with h1 | h1
                  · rcases k3 b (hvbm b h1) with h2 | h2
                    · exact .inl ⟨tk, ht, by simp [hn], List.mem_append.2 (.inl ((hbx b).1 h2))⟩
                    · refine .inr ⟨h2, ?_⟩
                      exact (World.ownsRow.lt k1 b (hvbm b h1)).2
                  · rcases List.mem_append.1 h1 with h2 | h2
                    · exact .inl ⟨tk, ht, by simp [hn], List.mem_append.2 (.inr h2)⟩
                    · exact .inl ⟨tk2, ht2, by simp [hn2], List.mem_append.2 (.inr h2)⟩
                · rcases k3 b (hvbm b hb') with h2 | h2
                  · exact .inl ⟨tk, ht, by simp [hn], (hbx b).1 h2⟩
                  · exact .inr h2
                · rw [List.nodup_append]
                  refine ⟨vb_nodup v', ?_, fun a ha b hb' he => ?_⟩
                  · rw [List.nodup_append]
                    refine ⟨(List.nodup_append.1 hnd1).2.1, (List.nodup_append.1 hnd2).2.1, fun a ha b hb' he => ?_⟩
                    subst he
                    exact hdis a (List.mem_append.2 (.inr ha)) (List.mem_append.2 (.inr hb'))
                  · subst he
                    rcases k3 a (hvbm a ha) with h2 | h2
                    · have h2 := (hbx a).1 h2
                      rcases List.mem_append.1 hb' with h3 | h3
                      · exact (List.nodup_append.1 hnd1).2.2 a h2 a h3 rfl
                      · exact hdis a (List.mem_append.2 (.inl h2)) (List.mem_append.2 (.inr h3))
                    · rcases List.mem_append.1 hb' with h3 | h3
                      · have := (hw.bound tk ht a (List.mem_append.2 (.inr h3))).2; omega
                      · have := (hw.bound tk2 ht2 a (List.mem_append.2 (.inr h3))).2; omega
                · exact k2.block b hb' (fun hg => hno tk ht (by simp [hn]) ((hbx b).1 hg.symm))
                · intro hg
                  exact hq (hw.bound tk ht q (List.mem_append.2 (.inl ((hbx q).1 hg.symm)))).1
                · subst hcw
                  unfold TokRep
                  simp only [if_true]
                  refine ⟨hvb', n1 + n2 + 1, us1 ++ us2, fpl1 ++ fpl2, ?_, ?_, ?_, by simp [m1, m2], fun j l v f g1 g2 g3 => ?_⟩
                  · simp only [List.length_append]; exact k1
                  · rw [hvb', List.flatten_append, fp1, fp2]
                  · rw [List.flatMap_append, List.length_append, List.length_append, l1, l2]
                  · have lu1 : us1.length = fpl1.length := m1.symm
                    rw [List.flatMap_append] at g1
                    have sub1 : ∀ b, b ∈ f → (b ∈ tk.fp ++ tk2.fp) := by
                      intro b hb'
                      have : f ∈ fpl1 ++ fpl2 := List.mem_of_getElem? g3
                      rcases List.mem_append.1 this with h1 | h1
                      · exact List.mem_append.2 (.inl (by rw [fp1]; exact List.mem_flatten.2 ⟨f, h1, hb'⟩))
                      · exact List.mem_append.2 (.inr (by rw [fp2]; exact List.mem_flatten.2 ⟨f, h1, hb'⟩))
                    refine OwnL_mono cx _ _ _ _ (fun b hb' => hsame b (sub1 b hb')) ?_
                    by_cases hj : j < us1.length
                    · rw [List.getElem?_append_left (by rw [← l1]; exact hj)] at g1
                      rw [List.getElem?_append_left hj] at g2
                      rw [List.getElem?_append_left (by rw [m1]; exact hj)] at g3
                      exact OwnL_up n2 (o1 j l v f g1 g2 g3)
                    · rw [List.getElem?_append_right (by rw [← l1]; omega), ← l1] at g1
                      rw [List.getElem?_append_right (by omega)] at g2
                      rw [List.getElem?_append_right (by rw [m1]; omega), m1] at g3
                      rw [Nat.add_comm n1 n2]
                      exact OwnL_up n1 (o2 _ l v f g1 g2 g3)
            · simp at h
          · simp at h
        · simp at h
      · simp at h
    · simp at h
  · simp at h

end
end Go.VM
