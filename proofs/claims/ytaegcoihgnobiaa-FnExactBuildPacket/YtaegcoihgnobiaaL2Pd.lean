/- A part of the proof of FnExactBuildPacket: L2Pd. -/
import Derived.Test.YtaegcoihgnobiaaL2Pc
import Derived.Test.YtaegcoihgnobiaaL2Fd
set_option maxHeartbeats 0
set_option linter.unusedVariables false
set_option linter.unusedSimpArgs false
namespace Go.Proofs.Try
open Go Go.VM Go.RowKit

/-! heads -/
theorem m64_two (n : Int) : m64 (n, 2) = some (numB n 2) := rfl
theorem m64_four (n : Int) : m64 (n, 4) = some (numB n 4) := rfl
theorem m79_two (n : Int) : m79 (n, 2) = some (numB n 2) := rfl
theorem m79_four (n : Int) : m79 (n, 4) = some (numB n 4) := rfl
theorem u8_in (n : Int) : 0 ≤ IntKind.wrap .u8 n ∧ IntKind.wrap .u8 n ≤ 255 := by
  show 0 ≤ n % 256 ∧ n % 256 ≤ 255
  omega
theorem numB_okB (n : Int) (z : Nat) : okB (numB n z) = true := by
  unfold okB numB
  rw [List.all_eq_true]
  intro x hx
  obtain ⟨i, _, rfl⟩ := List.mem_map.1 hx
  have := u8_in (Int.fdiv n ((2 : Int) ^ (8 * (z - 1 - i))))
  simp [this]
theorem okB_app {a b : List Int} (ha : okB a = true) (hb : okB b = true) : okB (a ++ b) = true := by
  unfold okB at ha hb ⊢
  rw [List.all_append, ha, hb]; rfl

def hdA (pr n : Int) : List Int := [69, 0] ++ numB (20 + n) 2 ++ [0, 0, 0, 0, 64, IntKind.wrap .u8 pr]
def hdE (f t : Int) : List Int := numB f 4 ++ numB t 4
def headL (pr f t n : Int) : List Int := hdA pr n ++ numB (sumW (hdA pr n ++ [0, 0] ++ hdE f t)) 2 ++ hdE f t
theorem hdA_len (pr n : Int) : (hdA pr n).length = 10 := by simp [hdA, numB_len]
theorem hdE_len (f t : Int) : (hdE f t).length = 8 := by simp [hdE, numB_len]
theorem headL_len (pr f t n : Int) : (headL pr f t n).length = 20 := by simp only [headL, List.length_append, hdA_len, hdE_len, numB_len]
theorem bare_ok (pr f t n : Int) : okB (hdA pr n ++ [0, 0] ++ hdE f t) = true := by
  have h1 : okB [(0 : Int), 0, 0, 0, 64, IntKind.wrap .u8 pr] = true := by
    have := u8_in pr
    simp [okB, this]
  exact okB_app (okB_app (okB_app (okB_app rfl (numB_okB _ _)) h1) rfl) (okB_app (numB_okB _ _) (numB_okB _ _))
theorem bare_len (pr f t n : Int) : (hdA pr n ++ [0, 0] ++ hdE f t).length = 20 := by simp only [List.length_append, hdA_len, hdE_len, List.length_cons, List.length_nil]
theorem sumW_in {a : List Int} (h : okB a = true) : 0 ≤ sumW a ∧ sumW a ≤ 65535 := by
  have := sw_bound a 0 h (by omega) (by omega)
  unfold sumW
  omega

/-! the specification's -/
def m71 (x : Int × Int × Int × Int) : Option (List Int) := if 0 ≤ x.2.2.2 ∧ x.2.2.2 ≤ 1000000 then some (headL x.1 x.2.1 x.2.2.1 x.2.2.2) else none
theorem sat71 : Sat prog cxT 71 (c71 m71) := s71 m79 m73 sat79 sat73 m71 fun x t h => by
  obtain ⟨pr, f, tt, n⟩ := x
  unfold m71 at h
  split at h
  · rename_i hc
    simp only at hc
    cases h
    refine ⟨0, ?_⟩
    unfold g71
    simp only
    have e1 : IntKind.wrap .i64 (20 + n) = 20 + n := by simp (disch := omega) only [wi]
    have l1 := numB_len (20 + n) 2
    have l2 := numB_len f 4
    have l3 := numB_len tt 4
    have e73 : m73 (hdA pr n ++ [0, 0] ++ hdE f tt) = some (sumW (hdA pr n ++ [0, 0] ++ hdE f tt)) := if_pos ⟨bare_ok pr f tt n, by rw [bare_len]; omega⟩
    have l4 := numB_len (sumW (hdA pr n ++ [0, 0] ++ hdE f tt)) 2
    rw [e1, m79_two, tst_some, m79_four, tst_some, m79_four, tst_some]
    have e73' : m73 ((([] : List Int) ++ (([69, 0] ++ numB (20 + n) 2) ++ [0, 0, 0, 0, 64, IntKind.wrap .u8 pr])) ++ [0, 0] ++ (numB f 4 ++ numB tt 4)) = some (sumW (hdA pr n ++ [0, 0] ++ hdE f tt)) := e73
    rw [e73', tst_some, m79_two, tst_some]
    simp only [List.length_append, List.length_cons, List.length_nil, l1, l2, l3, l4, Nat.reduceAdd, Nat.reduceLeDiff, decide_true, cond_true]
    rfl
  · cases h

/-! the program's -/
abbrev T20 := Int × Int × Int × Int × Int × Int × Int × Int × Int × Int × Int × Int × Int × Int × Int × Int × Int × Int × Int × Int
def l20 (x : T20) : List Int := [x.1, x.2.1, x.2.2.1, x.2.2.2.1, x.2.2.2.2.1, x.2.2.2.2.2.1, x.2.2.2.2.2.2.1, x.2.2.2.2.2.2.2.1, x.2.2.2.2.2.2.2.2.1, x.2.2.2.2.2.2.2.2.2.1, x.2.2.2.2.2.2.2.2.2.2.1, x.2.2.2.2.2.2.2.2.2.2.2.1, x.2.2.2.2.2.2.2.2.2.2.2.2.1, x.2.2.2.2.2.2.2.2.2.2.2.2.2.1, x.2.2.2.2.2.2.2.2.2.2.2.2.2.2.1, x.2.2.2.2.2.2.2.2.2.2.2.2.2.2.2.1, x.2.2.2.2.2.2.2.2.2.2.2.2.2.2.2.2.1, x.2.2.2.2.2.2.2.2.2.2.2.2.2.2.2.2.2.1, x.2.2.2.2.2.2.2.2.2.2.2.2.2.2.2.2.2.2.1, x.2.2.2.2.2.2.2.2.2.2.2.2.2.2.2.2.2.2.2]
def tup20 (l : List Int) : T20 := (l.getD 0 0, l.getD 1 0, l.getD 2 0, l.getD 3 0, l.getD 4 0, l.getD 5 0, l.getD 6 0, l.getD 7 0, l.getD 8 0, l.getD 9 0, l.getD 10 0, l.getD 11 0, l.getD 12 0, l.getD 13 0, l.getD 14 0, l.getD 15 0, l.getD 16 0, l.getD 17 0, l.getD 18 0, l.getD 19 0)
theorem l20_tup {l : List Int} (h : l.length = 20) : l20 (tup20 l) = l := by
  match l, h with
  | [a0, a1, a2, a3, a4, a5, a6, a7, a8, a9, a10, a11, a12, a13, a14, a15, a16, a17, a18, a19], _ => rfl
/-- A head with its sum at its place. -/
def summed (l : List Int) : List Int := l.take 10 ++ numB (sumW l) 2 ++ l.drop 12
def m78 (x : T20) : Option T20 := if okB (l20 x) = true then some (tup20 (summed (l20 x))) else none
theorem sat78 : Sat prog cxT 78 (c78 m78) := s78 m83 m64 sat83 sat64 m78 fun x t h => by
  unfold m78 at h
  split at h
  · rename_i hc
    cases h
    refine ⟨0, ?_⟩
    unfold g78
    have e83 : m83 (l20 x) = some (sumW (l20 x)) := if_pos ⟨hc, by show (20 : Nat) ≤ _; omega⟩
    have hs := sumW_in hc
    have ew : IntKind.wrap .u64 (sumW (l20 x)) = sumW (l20 x) := by simp (disch := omega) only [wu]
    show tst (m83 (l20 x)) _ _ = _
    rw [e83, tst_some, ew, m64_two, tst_some]
    rfl
  · cases h

def m52 (x : Int × Int × Int × Int) : Option T20 := if (0 ≤ x.2.1 ∧ x.2.1 ≤ 4294967295) ∧ (0 ≤ x.2.2.1 ∧ x.2.2.1 ≤ 4294967295) ∧ 0 ≤ x.2.2.2 ∧ x.2.2.2 ≤ 1000000 then some (tup20 (headL x.1 x.2.1 x.2.2.1 x.2.2.2)) else none
theorem sat52 : Sat prog cxT 52 (c52 m52) := s52 m64 m78 sat64 sat78 m52 fun x t h => by
  obtain ⟨pr, f, tt, n⟩ := x
  unfold m52 at h
  split at h
  · rename_i hc
    simp only at hc
    cases h
    refine ⟨0, ?_⟩
    unfold g52
    simp only
    have e1 : IntKind.wrap .u64 (IntKind.wrap .i64 (20 + n)) = 20 + n := by simp (disch := omega) only [wi, wu]
    have e2 : IntKind.wrap .u64 f = f := by simp (disch := omega) only [wu]
    have e3 : IntKind.wrap .u64 tt = tt := by simp (disch := omega) only [wu]
    rw [e1, e2, e3, m64_two, tst_some, m64_four, tst_some, m64_four, tst_some]
    have eb : l20 (tup20 (hdA pr n ++ [0, 0] ++ hdE f tt)) = hdA pr n ++ [0, 0] ++ hdE f tt := l20_tup (bare_len pr f tt n)
    have e78 : m78 (tup20 (hdA pr n ++ [0, 0] ++ hdE f tt)) = some (tup20 (headL pr f tt n)) := by
      unfold m78
      rw [eb, if_pos (bare_ok pr f tt n)]
      congr 1
    refine Eq.trans ?_ e78
    show tst (m78 (tup20 (hdA pr n ++ [0, 0] ++ hdE f tt))) _ _ = _
    rw [e78, tst_some]
  · cases h
end Go.Proofs.Try
