/- A part of the proof of FnExactWithoutShare: VmA10. -/
import Derived.Test.YtmdmeakelebfcaaVmA9
namespace Go.VM
open Go.RowKit
section
variable {cx : Cx} {P : Program}

/-! ### Bytes as a string -/
def byteOf : Value → Int
  | .int _ n => n
  | _ => 0

def strV (vs : List Value) : ByteArray := (vs.map byteOf).foldl (fun r n => r.push (UInt8.ofNat n.toNat)) ByteArray.empty

def isU8 (P : Program) (e : TypeId) : Bool := match P.underlying e with
  | some (.int .u8) => true
  | _ => false

def isStr (P : Program) (t : TypeId) : Bool := match P.underlying t with
  | some .string => true
  | _ => false

theorem isU8_eq {e : TypeId} (h : isU8 P e = true) : P.underlying e = some (.int .u8) := by
  unfold isU8 at h
  split at h
  · assumption
  · simp at h

theorem isStr_eq {e : TypeId} (h : isStr P e = true) : P.underlying e = some .string := by
  unfold isStr at h
  split at h
  · assumption
  · simp at h

def evConv {β : Type} (P : Program) (cx : Cx) (o : Oper) (slots : List (V cx.ty)) (src dst : TypeId) (x : Operand) (k : Eff cx.ty → Option β) : Option β :=
  match getV slots x, sliceElem P src with
  | .inl (.inl (some (.inr s))), some e => if isU8 P e && isStr P dst && s.e == e && cx.dom e && cx.flat e then k (purR (vv (.string (strV (flatVals cx s.e s.xs)))) (rdn s)) else none
  | _, _ => evGen P o slots k

theorem evConv_ok (ok : cx.Ok) (hZ : cx.POk P) {β : Type} {o : Oper} {slots : List (V cx.ty)} {nm0 : Nat} {src dst : TypeId} {x : Operand} (ho : o.op = .convert src dst x) {k : Eff cx.ty → Option β} {r : β}
    (h : evConv P cx o slots src dst x k = some r) : ∃ ef, k ef = some r ∧ EffOK P cx o slots nm0 ef := by
  unfold evConv at h
  split at h
  · rename_i s e hx he
    split at h
    · rename_i hc
      simp only [Bool.and_eq_true, beq_iff_eq] at hc
      obtain ⟨⟨⟨⟨hu, hst⟩, rfl⟩, hdom⟩, hflat⟩ := hc
      have hu := isU8_eq hu
      have hst := isStr_eq hst
      refine ⟨_, h, effok_pur fun c ρ hw hop hrd => ?_⟩
      have hr := hop x (by simp [ho, Op.operands])
      rw [hx] at hr
      have hsz : cx.size s.e = 1 := by
        obtain ⟨n, hn⟩ := hZ.u8 s.e hdom hu true (cx.dflt s.e)
        rw [← ok.len s.e true (cx.dflt s.e), hn]
        rfl
      have hr : RepLS cx c (some (.inr s)) (ρ x) := hr
      obtain ⟨a, cap, hu2, hcells⟩ := rep_cells ok hw hflat (by omega) hr hrd
      have hmap : (((flatVals cx s.e s.xs).map byteOf).map (Value.int .u8)) = flatVals cx s.e s.xs := by
        rw [List.map_map]
        have hall : ∀ v ∈ flatVals cx s.e s.xs, (Value.int .u8 ∘ byteOf) v = v := by
          intro v hv
          unfold flatVals at hv
          obtain ⟨l, hl, hlv⟩ := List.mem_filterMap.1 hv
          obtain ⟨y, hy, hly⟩ := List.mem_flatMap.1 hl
          obtain ⟨n, hn⟩ := hZ.u8 s.e hdom hu true y
          rw [hn] at hly
          simp only [List.mem_singleton] at hly
          subst hly
          simp only [lv, leafVal, Option.some.injEq] at hlv
          subst hlv
          rfl
        exact (List.map_congr_left hall).trans (List.map_id _)
      refine ⟨.string (strV (flatVals cx s.e s.xs)), ?_, rfl⟩
      have hlen := flatVals_len ok hflat s.xs
      have hb : (Conv.bytesToString (.slice a s.xs.length cap)).run P c.w = .ok (.string (strV (flatVals cx s.e s.xs))) c.w := by
        cases a with
        | none =>
          rcases hcells with h0 | ⟨ad, had, _⟩
          · have : flatVals cx s.e s.xs = [] := List.eq_nil_of_length_eq_zero (by rw [hlen, h0]; simp)
            rw [this]
            simp [Conv.bytesToString, strV]
          · cases had
        | some ad =>
          have hload : (loadCells ad s.xs.length).run P c.w = .ok (((flatVals cx s.e s.xs).map byteOf).map (Value.int .u8)).toArray c.w := by
            rw [hmap]
            have := run_loadCells_list (P := P) c.w ad (flatVals cx s.e s.xs) (fun j v hj => by
              rcases hcells with h0 | ⟨ad2, had, hc2⟩
              · have : flatVals cx s.e s.xs = [] := List.eq_nil_of_length_eq_zero (by rw [hlen, h0]; simp)
                rw [this] at hj
                simp at hj
              · simp only [Option.some.injEq] at had
                subst had
                exact hc2 j v hj)
            rw [hlen, hsz, Nat.mul_one] at this
            exact this
          exact run_bytesToString c.w ad _ cap _ hload
      unfold execOp
      simp only [ho, Sem.run_bind]
      rw [hu2, run_convert_bytes_string c.w src dst s.e a _ cap (sliceElem_eq he) hu hst, hb]
      rfl
    · simp at h
  · exact evGen_ok h

end
end Go.VM
