/- A part of the proof of FnExactApplyCmd: LpQgb, LpQgc, LpQgd, LpQge, LpQc. -/
import Derived.Test.YtfncedbejffggaaGreatLpLd
import Derived.Test.YtfncedbejffggaaGreatVmPl
import Derived.Test.YtfncedbejffggaaGreatLpFc
set_option linter.unusedSimpArgs false
set_option linter.unusedVariables false
namespace Go.Proofs.Tryz
open Go Go.VM Go.RowKit
section
attribute [local go_sem] Oper.semAt_some
theorem cY {w w1:World}{t:TypeId}{v0 v1 v2 v3 v4 v5:Value}(h:Below (w.alloc (.cells #[v0,v1,v2,v3,v4,v5] t)).heap.size (w.alloc (.cells #[v0,v1,v2,v3,v4,v5] t)) w1) :
  w1.cell? ⟨w.heap.size,0,none⟩=some v0/\w1.cell? ⟨w.heap.size,1,none⟩=some v1/\w1.cell? ⟨w.heap.size,2,none⟩=some v2/\w1.cell? ⟨w.heap.size,3,none⟩=some v3/\w1.cell? ⟨w.heap.size,4,none⟩=some v4/\w1.cell? ⟨w.heap.size,5,none⟩=some v5:=by
 have q:=(h.block w.heap.size (by simp)).trans (World.alloc_heap_new w _);refine⟨?_,?_,?_,?_,?_,?_⟩<;>simp[World.cell?,q]
set_option maxRecDepth 100000 in
set_option maxHeartbeats 8000000 in
theorem aIt (k b c d e f:Int)(z0 z1:Bool)(hz:(b != -1)=z0)(h105:CB 34 #[.int .i64 k,.int .i64 1,.int .i64 9] (.bool true))(h90:CB 35 #[.int .i64 k] (.tuple #[.bool true,.bool false,.bool true,.bool false]))(h99:CB 31 #[.int .i64 b] (.bool z1))(z2:Bool)(h106:CB 36 #[.int .i64 c] (.bool z2))(z4:Bool)(h108:CB 38 #[.agg #[.int .i64 k,.int .i64 b,.int .i64 c,.int .i64 d,.int .i64 e,.int .i64 f]] (.bool z4))(r:Int)(hr:(bif (z0&&!z1) || !z2 || !z4 then 3 else if d≠0\/f≠0 then 1 else 0)=r)(w:World) :
  Calls prog 17 #[.agg #[.int .i64 k,.int .i64 b,.int .i64 c,.int .i64 d,.int .i64 e,.int .i64 f]] w λe' w'=>e'=.returned (.int .i64 r)/\Below w.heap.size w w':=by
 have hB:=Below.refl (w.alloc (.cells #[.int .i64 k,.int .i64 b,.int .i64 c,.int .i64 d,.int .i64 e,.int .i64 f] 37)).heap.size (w.alloc (.cells #[.int .i64 k,.int .i64 b,.int .i64 c,.int .i64 d,.int .i64 e,.int .i64 f] 37))
 go_enter func17,ntmps17
 by_cases hb:b=-1
 ·subst hb;have hz0:z0=false:=by rw[<-hz];rfl
  subst hz0;cases z2
  case false=>
   go_wp2_with (first | (go_at_call 34;refine(h105 _).mono ?_;clear h105;rintro _ wn ⟨rfl,hbn⟩;replace hB:=hB.trans (hbn.mono hB.size);obtain⟨k0,k1,k2,k3,k4,k5⟩:=cY hB) | (go_at_call 35;refine(h90 _).mono ?_;clear h90;rintro _ wn ⟨rfl,hbn⟩;replace hB:=hB.trans (hbn.mono hB.size);obtain⟨k0,k1,k2,k3,k4,k5⟩:=cY hB) | (go_at_call 31;refine(h99 _).mono ?_;clear h99;rintro _ wn ⟨rfl,hbn⟩;replace hB:=hB.trans (hbn.mono hB.size);obtain⟨k0,k1,k2,k3,k4,k5⟩:=cY hB) | (go_at_call 36;refine(h106 _).mono ?_;clear h106;rintro _ wn ⟨rfl,hbn⟩;replace hB:=hB.trans (hbn.mono hB.size);obtain⟨k0,k1,k2,k3,k4,k5⟩:=cY hB) | (go_at_call 38;refine(h108 _).mono ?_;clear h108;rintro _ wn ⟨rfl,hbn⟩;replace hB:=hB.trans (hbn.mono hB.size);obtain⟨k0,k1,k2,k3,k4,k5⟩:=cY hB))
   go_ret
   exact⟨by rw[<-hr];simp,((Below.refl _ w).alloc (aK _) _).trans (hB.mono (by simp))⟩
  case true=>
   cases z4
   case false=>
    go_wp2_with (first | (go_at_call 34;refine(h105 _).mono ?_;clear h105;rintro _ wn ⟨rfl,hbn⟩;replace hB:=hB.trans (hbn.mono hB.size);obtain⟨k0,k1,k2,k3,k4,k5⟩:=cY hB) | (go_at_call 35;refine(h90 _).mono ?_;clear h90;rintro _ wn ⟨rfl,hbn⟩;replace hB:=hB.trans (hbn.mono hB.size);obtain⟨k0,k1,k2,k3,k4,k5⟩:=cY hB) | (go_at_call 31;refine(h99 _).mono ?_;clear h99;rintro _ wn ⟨rfl,hbn⟩;replace hB:=hB.trans (hbn.mono hB.size);obtain⟨k0,k1,k2,k3,k4,k5⟩:=cY hB) | (go_at_call 36;refine(h106 _).mono ?_;clear h106;rintro _ wn ⟨rfl,hbn⟩;replace hB:=hB.trans (hbn.mono hB.size);obtain⟨k0,k1,k2,k3,k4,k5⟩:=cY hB) | (go_at_call 38;refine(h108 _).mono ?_;clear h108;rintro _ wn ⟨rfl,hbn⟩;replace hB:=hB.trans (hbn.mono hB.size);obtain⟨k0,k1,k2,k3,k4,k5⟩:=cY hB))
    go_ret
    exact⟨by rw[<-hr];simp,((Below.refl _ w).alloc (aK _) _).trans (hB.mono (by simp))⟩
   case true=>
    by_cases hv1:d=0
    ·subst hv1;by_cases hv3:f=0
     ·subst hv3
      go_wp2_with (first | (go_at_call 34;refine(h105 _).mono ?_;clear h105;rintro _ wn ⟨rfl,hbn⟩;replace hB:=hB.trans (hbn.mono hB.size);obtain⟨k0,k1,k2,k3,k4,k5⟩:=cY hB) | (go_at_call 35;refine(h90 _).mono ?_;clear h90;rintro _ wn ⟨rfl,hbn⟩;replace hB:=hB.trans (hbn.mono hB.size);obtain⟨k0,k1,k2,k3,k4,k5⟩:=cY hB) | (go_at_call 31;refine(h99 _).mono ?_;clear h99;rintro _ wn ⟨rfl,hbn⟩;replace hB:=hB.trans (hbn.mono hB.size);obtain⟨k0,k1,k2,k3,k4,k5⟩:=cY hB) | (go_at_call 36;refine(h106 _).mono ?_;clear h106;rintro _ wn ⟨rfl,hbn⟩;replace hB:=hB.trans (hbn.mono hB.size);obtain⟨k0,k1,k2,k3,k4,k5⟩:=cY hB) | (go_at_call 38;refine(h108 _).mono ?_;clear h108;rintro _ wn ⟨rfl,hbn⟩;replace hB:=hB.trans (hbn.mono hB.size);obtain⟨k0,k1,k2,k3,k4,k5⟩:=cY hB))
      go_ret
      exact⟨by rw[<-hr];simp,((Below.refl _ w).alloc (aK _) _).trans (hB.mono (by simp))⟩
     ·skip
      go_wp2_with (first | (go_at_call 34;refine(h105 _).mono ?_;clear h105;rintro _ wn ⟨rfl,hbn⟩;replace hB:=hB.trans (hbn.mono hB.size);obtain⟨k0,k1,k2,k3,k4,k5⟩:=cY hB) | (go_at_call 35;refine(h90 _).mono ?_;clear h90;rintro _ wn ⟨rfl,hbn⟩;replace hB:=hB.trans (hbn.mono hB.size);obtain⟨k0,k1,k2,k3,k4,k5⟩:=cY hB) | (go_at_call 31;refine(h99 _).mono ?_;clear h99;rintro _ wn ⟨rfl,hbn⟩;replace hB:=hB.trans (hbn.mono hB.size);obtain⟨k0,k1,k2,k3,k4,k5⟩:=cY hB) | (go_at_call 36;refine(h106 _).mono ?_;clear h106;rintro _ wn ⟨rfl,hbn⟩;replace hB:=hB.trans (hbn.mono hB.size);obtain⟨k0,k1,k2,k3,k4,k5⟩:=cY hB) | (go_at_call 38;refine(h108 _).mono ?_;clear h108;rintro _ wn ⟨rfl,hbn⟩;replace hB:=hB.trans (hbn.mono hB.size);obtain⟨k0,k1,k2,k3,k4,k5⟩:=cY hB))
      go_ret
      exact⟨by rw[<-hr];simp[hv3],((Below.refl _ w).alloc (aK _) _).trans (hB.mono (by simp))⟩
    ·skip
     go_wp2_with (first | (go_at_call 34;refine(h105 _).mono ?_;clear h105;rintro _ wn ⟨rfl,hbn⟩;replace hB:=hB.trans (hbn.mono hB.size);obtain⟨k0,k1,k2,k3,k4,k5⟩:=cY hB) | (go_at_call 35;refine(h90 _).mono ?_;clear h90;rintro _ wn ⟨rfl,hbn⟩;replace hB:=hB.trans (hbn.mono hB.size);obtain⟨k0,k1,k2,k3,k4,k5⟩:=cY hB) | (go_at_call 31;refine(h99 _).mono ?_;clear h99;rintro _ wn ⟨rfl,hbn⟩;replace hB:=hB.trans (hbn.mono hB.size);obtain⟨k0,k1,k2,k3,k4,k5⟩:=cY hB) | (go_at_call 36;refine(h106 _).mono ?_;clear h106;rintro _ wn ⟨rfl,hbn⟩;replace hB:=hB.trans (hbn.mono hB.size);obtain⟨k0,k1,k2,k3,k4,k5⟩:=cY hB) | (go_at_call 38;refine(h108 _).mono ?_;clear h108;rintro _ wn ⟨rfl,hbn⟩;replace hB:=hB.trans (hbn.mono hB.size);obtain⟨k0,k1,k2,k3,k4,k5⟩:=cY hB))
     go_ret
     exact⟨by rw[<-hr];simp[hv1],((Below.refl _ w).alloc (aK _) _).trans (hB.mono (by simp))⟩
 ·have hz0:z0=true:=by rw[<-hz];simpa using hb
  subst hz0;cases z1
  case false=>
   go_wp2_with (first | (go_at_call 34;refine(h105 _).mono ?_;clear h105;rintro _ wn ⟨rfl,hbn⟩;replace hB:=hB.trans (hbn.mono hB.size);obtain⟨k0,k1,k2,k3,k4,k5⟩:=cY hB) | (go_at_call 35;refine(h90 _).mono ?_;clear h90;rintro _ wn ⟨rfl,hbn⟩;replace hB:=hB.trans (hbn.mono hB.size);obtain⟨k0,k1,k2,k3,k4,k5⟩:=cY hB) | (go_at_call 31;refine(h99 _).mono ?_;clear h99;rintro _ wn ⟨rfl,hbn⟩;replace hB:=hB.trans (hbn.mono hB.size);obtain⟨k0,k1,k2,k3,k4,k5⟩:=cY hB) | (go_at_call 36;refine(h106 _).mono ?_;clear h106;rintro _ wn ⟨rfl,hbn⟩;replace hB:=hB.trans (hbn.mono hB.size);obtain⟨k0,k1,k2,k3,k4,k5⟩:=cY hB) | (go_at_call 38;refine(h108 _).mono ?_;clear h108;rintro _ wn ⟨rfl,hbn⟩;replace hB:=hB.trans (hbn.mono hB.size);obtain⟨k0,k1,k2,k3,k4,k5⟩:=cY hB))
   go_ret
   exact⟨by rw[<-hr];simp,((Below.refl _ w).alloc (aK _) _).trans (hB.mono (by simp))⟩
  case true=>
   cases z2
   case false=>
    go_wp2_with (first | (go_at_call 34;refine(h105 _).mono ?_;clear h105;rintro _ wn ⟨rfl,hbn⟩;replace hB:=hB.trans (hbn.mono hB.size);obtain⟨k0,k1,k2,k3,k4,k5⟩:=cY hB) | (go_at_call 35;refine(h90 _).mono ?_;clear h90;rintro _ wn ⟨rfl,hbn⟩;replace hB:=hB.trans (hbn.mono hB.size);obtain⟨k0,k1,k2,k3,k4,k5⟩:=cY hB) | (go_at_call 31;refine(h99 _).mono ?_;clear h99;rintro _ wn ⟨rfl,hbn⟩;replace hB:=hB.trans (hbn.mono hB.size);obtain⟨k0,k1,k2,k3,k4,k5⟩:=cY hB) | (go_at_call 36;refine(h106 _).mono ?_;clear h106;rintro _ wn ⟨rfl,hbn⟩;replace hB:=hB.trans (hbn.mono hB.size);obtain⟨k0,k1,k2,k3,k4,k5⟩:=cY hB) | (go_at_call 38;refine(h108 _).mono ?_;clear h108;rintro _ wn ⟨rfl,hbn⟩;replace hB:=hB.trans (hbn.mono hB.size);obtain⟨k0,k1,k2,k3,k4,k5⟩:=cY hB))
    go_ret
    exact⟨by rw[<-hr];simp,((Below.refl _ w).alloc (aK _) _).trans (hB.mono (by simp))⟩
   case true=>
    cases z4
    case false=>
     go_wp2_with (first | (go_at_call 34;refine(h105 _).mono ?_;clear h105;rintro _ wn ⟨rfl,hbn⟩;replace hB:=hB.trans (hbn.mono hB.size);obtain⟨k0,k1,k2,k3,k4,k5⟩:=cY hB) | (go_at_call 35;refine(h90 _).mono ?_;clear h90;rintro _ wn ⟨rfl,hbn⟩;replace hB:=hB.trans (hbn.mono hB.size);obtain⟨k0,k1,k2,k3,k4,k5⟩:=cY hB) | (go_at_call 31;refine(h99 _).mono ?_;clear h99;rintro _ wn ⟨rfl,hbn⟩;replace hB:=hB.trans (hbn.mono hB.size);obtain⟨k0,k1,k2,k3,k4,k5⟩:=cY hB) | (go_at_call 36;refine(h106 _).mono ?_;clear h106;rintro _ wn ⟨rfl,hbn⟩;replace hB:=hB.trans (hbn.mono hB.size);obtain⟨k0,k1,k2,k3,k4,k5⟩:=cY hB) | (go_at_call 38;refine(h108 _).mono ?_;clear h108;rintro _ wn ⟨rfl,hbn⟩;replace hB:=hB.trans (hbn.mono hB.size);obtain⟨k0,k1,k2,k3,k4,k5⟩:=cY hB))
     go_ret
     exact⟨by rw[<-hr];simp,((Below.refl _ w).alloc (aK _) _).trans (hB.mono (by simp))⟩
    case true=>
     by_cases hv1:d=0
     ·subst hv1;by_cases hv3:f=0
      ·subst hv3
       go_wp2_with (first | (go_at_call 34;refine(h105 _).mono ?_;clear h105;rintro _ wn ⟨rfl,hbn⟩;replace hB:=hB.trans (hbn.mono hB.size);obtain⟨k0,k1,k2,k3,k4,k5⟩:=cY hB) | (go_at_call 35;refine(h90 _).mono ?_;clear h90;rintro _ wn ⟨rfl,hbn⟩;replace hB:=hB.trans (hbn.mono hB.size);obtain⟨k0,k1,k2,k3,k4,k5⟩:=cY hB) | (go_at_call 31;refine(h99 _).mono ?_;clear h99;rintro _ wn ⟨rfl,hbn⟩;replace hB:=hB.trans (hbn.mono hB.size);obtain⟨k0,k1,k2,k3,k4,k5⟩:=cY hB) | (go_at_call 36;refine(h106 _).mono ?_;clear h106;rintro _ wn ⟨rfl,hbn⟩;replace hB:=hB.trans (hbn.mono hB.size);obtain⟨k0,k1,k2,k3,k4,k5⟩:=cY hB) | (go_at_call 38;refine(h108 _).mono ?_;clear h108;rintro _ wn ⟨rfl,hbn⟩;replace hB:=hB.trans (hbn.mono hB.size);obtain⟨k0,k1,k2,k3,k4,k5⟩:=cY hB))
       go_ret
       exact⟨by rw[<-hr];simp,((Below.refl _ w).alloc (aK _) _).trans (hB.mono (by simp))⟩
      ·skip
       go_wp2_with (first | (go_at_call 34;refine(h105 _).mono ?_;clear h105;rintro _ wn ⟨rfl,hbn⟩;replace hB:=hB.trans (hbn.mono hB.size);obtain⟨k0,k1,k2,k3,k4,k5⟩:=cY hB) | (go_at_call 35;refine(h90 _).mono ?_;clear h90;rintro _ wn ⟨rfl,hbn⟩;replace hB:=hB.trans (hbn.mono hB.size);obtain⟨k0,k1,k2,k3,k4,k5⟩:=cY hB) | (go_at_call 31;refine(h99 _).mono ?_;clear h99;rintro _ wn ⟨rfl,hbn⟩;replace hB:=hB.trans (hbn.mono hB.size);obtain⟨k0,k1,k2,k3,k4,k5⟩:=cY hB) | (go_at_call 36;refine(h106 _).mono ?_;clear h106;rintro _ wn ⟨rfl,hbn⟩;replace hB:=hB.trans (hbn.mono hB.size);obtain⟨k0,k1,k2,k3,k4,k5⟩:=cY hB) | (go_at_call 38;refine(h108 _).mono ?_;clear h108;rintro _ wn ⟨rfl,hbn⟩;replace hB:=hB.trans (hbn.mono hB.size);obtain⟨k0,k1,k2,k3,k4,k5⟩:=cY hB))
       go_ret
       exact⟨by rw[<-hr];simp[hv3],((Below.refl _ w).alloc (aK _) _).trans (hB.mono (by simp))⟩
     ·skip
      go_wp2_with (first | (go_at_call 34;refine(h105 _).mono ?_;clear h105;rintro _ wn ⟨rfl,hbn⟩;replace hB:=hB.trans (hbn.mono hB.size);obtain⟨k0,k1,k2,k3,k4,k5⟩:=cY hB) | (go_at_call 35;refine(h90 _).mono ?_;clear h90;rintro _ wn ⟨rfl,hbn⟩;replace hB:=hB.trans (hbn.mono hB.size);obtain⟨k0,k1,k2,k3,k4,k5⟩:=cY hB) | (go_at_call 31;refine(h99 _).mono ?_;clear h99;rintro _ wn ⟨rfl,hbn⟩;replace hB:=hB.trans (hbn.mono hB.size);obtain⟨k0,k1,k2,k3,k4,k5⟩:=cY hB) | (go_at_call 36;refine(h106 _).mono ?_;clear h106;rintro _ wn ⟨rfl,hbn⟩;replace hB:=hB.trans (hbn.mono hB.size);obtain⟨k0,k1,k2,k3,k4,k5⟩:=cY hB) | (go_at_call 38;refine(h108 _).mono ?_;clear h108;rintro _ wn ⟨rfl,hbn⟩;replace hB:=hB.trans (hbn.mono hB.size);obtain⟨k0,k1,k2,k3,k4,k5⟩:=cY hB))
      go_ret
      exact⟨by rw[<-hr];simp[hv1],((Below.refl _ w).alloc (aK _) _).trans (hB.mono (by simp))⟩
end
section
attribute [local go_sem] Oper.semAt_some
theorem dO {w w1:World}{t:TypeId}{v0 v1 v2 v3 v4 v5:Value}(h:Below (w.alloc (.cells #[v0,v1,v2,v3,v4,v5] t)).heap.size (w.alloc (.cells #[v0,v1,v2,v3,v4,v5] t)) w1) :
  w1.cell? ⟨w.heap.size,0,none⟩=some v0/\w1.cell? ⟨w.heap.size,1,none⟩=some v1/\w1.cell? ⟨w.heap.size,2,none⟩=some v2/\w1.cell? ⟨w.heap.size,3,none⟩=some v3/\w1.cell? ⟨w.heap.size,4,none⟩=some v4/\w1.cell? ⟨w.heap.size,5,none⟩=some v5:=by
 have q:=(h.block w.heap.size (by simp)).trans (World.alloc_heap_new w _);refine⟨?_,?_,?_,?_,?_,?_⟩<;>simp[World.cell?,q]
set_option maxRecDepth 100000 in
set_option maxHeartbeats 8000000 in
theorem aRM (k b c d e f:Int)(z0 z1:Bool)(hz:(b != -1)=z0)(h105:CB 34 #[.int .i64 k,.int .i64 1,.int .i64 9] (.bool true))(h90:CB 35 #[.int .i64 k] (.tuple #[.bool true,.bool false,.bool false,.bool false]))(h99:CB 31 #[.int .i64 b] (.bool z1))(z2:Bool)(h106:CB 36 #[.int .i64 c] (.bool z2))(r:Int)(hr:(bif (z0&&!z1) || !z2 then 3 else if d≠0\/e≠0\/f≠0 then 1 else 0)=r)(w:World) :
  Calls prog 17 #[.agg #[.int .i64 k,.int .i64 b,.int .i64 c,.int .i64 d,.int .i64 e,.int .i64 f]] w λe' w'=>e'=.returned (.int .i64 r)/\Below w.heap.size w w':=by
 have hB:=Below.refl (w.alloc (.cells #[.int .i64 k,.int .i64 b,.int .i64 c,.int .i64 d,.int .i64 e,.int .i64 f] 37)).heap.size (w.alloc (.cells #[.int .i64 k,.int .i64 b,.int .i64 c,.int .i64 d,.int .i64 e,.int .i64 f] 37))
 go_enter func17,ntmps17
 by_cases hb:b=-1
 ·subst hb;have hz0:z0=false:=by rw[<-hz];rfl
  subst hz0;cases z2
  case false=>
   go_wp2_with (first | (go_at_call 34;refine(h105 _).mono ?_;clear h105;rintro _ wn ⟨rfl,hbn⟩;replace hB:=hB.trans (hbn.mono hB.size);obtain⟨k0,k1,k2,k3,k4,k5⟩:=dO hB) | (go_at_call 35;refine(h90 _).mono ?_;clear h90;rintro _ wn ⟨rfl,hbn⟩;replace hB:=hB.trans (hbn.mono hB.size);obtain⟨k0,k1,k2,k3,k4,k5⟩:=dO hB) | (go_at_call 31;refine(h99 _).mono ?_;clear h99;rintro _ wn ⟨rfl,hbn⟩;replace hB:=hB.trans (hbn.mono hB.size);obtain⟨k0,k1,k2,k3,k4,k5⟩:=dO hB) | (go_at_call 36;refine(h106 _).mono ?_;clear h106;rintro _ wn ⟨rfl,hbn⟩;replace hB:=hB.trans (hbn.mono hB.size);obtain⟨k0,k1,k2,k3,k4,k5⟩:=dO hB))
   go_ret
   exact⟨by rw[<-hr];simp,((Below.refl _ w).alloc (aK _) _).trans (hB.mono (by simp))⟩
  case true=>
   by_cases hv1:d=0
   ·subst hv1;by_cases hv2:e=0
    ·subst hv2;by_cases hv3:f=0
     ·subst hv3
      go_wp2_with (first | (go_at_call 34;refine(h105 _).mono ?_;clear h105;rintro _ wn ⟨rfl,hbn⟩;replace hB:=hB.trans (hbn.mono hB.size);obtain⟨k0,k1,k2,k3,k4,k5⟩:=dO hB) | (go_at_call 35;refine(h90 _).mono ?_;clear h90;rintro _ wn ⟨rfl,hbn⟩;replace hB:=hB.trans (hbn.mono hB.size);obtain⟨k0,k1,k2,k3,k4,k5⟩:=dO hB) | (go_at_call 31;refine(h99 _).mono ?_;clear h99;rintro _ wn ⟨rfl,hbn⟩;replace hB:=hB.trans (hbn.mono hB.size);obtain⟨k0,k1,k2,k3,k4,k5⟩:=dO hB) | (go_at_call 36;refine(h106 _).mono ?_;clear h106;rintro _ wn ⟨rfl,hbn⟩;replace hB:=hB.trans (hbn.mono hB.size);obtain⟨k0,k1,k2,k3,k4,k5⟩:=dO hB))
      go_ret
      exact⟨by rw[<-hr];simp,((Below.refl _ w).alloc (aK _) _).trans (hB.mono (by simp))⟩
     ·skip
      go_wp2_with (first | (go_at_call 34;refine(h105 _).mono ?_;clear h105;rintro _ wn ⟨rfl,hbn⟩;replace hB:=hB.trans (hbn.mono hB.size);obtain⟨k0,k1,k2,k3,k4,k5⟩:=dO hB) | (go_at_call 35;refine(h90 _).mono ?_;clear h90;rintro _ wn ⟨rfl,hbn⟩;replace hB:=hB.trans (hbn.mono hB.size);obtain⟨k0,k1,k2,k3,k4,k5⟩:=dO hB) | (go_at_call 31;refine(h99 _).mono ?_;clear h99;rintro _ wn ⟨rfl,hbn⟩;replace hB:=hB.trans (hbn.mono hB.size);obtain⟨k0,k1,k2,k3,k4,k5⟩:=dO hB) | (go_at_call 36;refine(h106 _).mono ?_;clear h106;rintro _ wn ⟨rfl,hbn⟩;replace hB:=hB.trans (hbn.mono hB.size);obtain⟨k0,k1,k2,k3,k4,k5⟩:=dO hB))
      go_ret
      exact⟨by rw[<-hr];simp[hv3],((Below.refl _ w).alloc (aK _) _).trans (hB.mono (by simp))⟩
    ·skip
     go_wp2_with (first | (go_at_call 34;refine(h105 _).mono ?_;clear h105;rintro _ wn ⟨rfl,hbn⟩;replace hB:=hB.trans (hbn.mono hB.size);obtain⟨k0,k1,k2,k3,k4,k5⟩:=dO hB) | (go_at_call 35;refine(h90 _).mono ?_;clear h90;rintro _ wn ⟨rfl,hbn⟩;replace hB:=hB.trans (hbn.mono hB.size);obtain⟨k0,k1,k2,k3,k4,k5⟩:=dO hB) | (go_at_call 31;refine(h99 _).mono ?_;clear h99;rintro _ wn ⟨rfl,hbn⟩;replace hB:=hB.trans (hbn.mono hB.size);obtain⟨k0,k1,k2,k3,k4,k5⟩:=dO hB) | (go_at_call 36;refine(h106 _).mono ?_;clear h106;rintro _ wn ⟨rfl,hbn⟩;replace hB:=hB.trans (hbn.mono hB.size);obtain⟨k0,k1,k2,k3,k4,k5⟩:=dO hB))
     go_ret
     exact⟨by rw[<-hr];simp[hv2],((Below.refl _ w).alloc (aK _) _).trans (hB.mono (by simp))⟩
   ·skip
    go_wp2_with (first | (go_at_call 34;refine(h105 _).mono ?_;clear h105;rintro _ wn ⟨rfl,hbn⟩;replace hB:=hB.trans (hbn.mono hB.size);obtain⟨k0,k1,k2,k3,k4,k5⟩:=dO hB) | (go_at_call 35;refine(h90 _).mono ?_;clear h90;rintro _ wn ⟨rfl,hbn⟩;replace hB:=hB.trans (hbn.mono hB.size);obtain⟨k0,k1,k2,k3,k4,k5⟩:=dO hB) | (go_at_call 31;refine(h99 _).mono ?_;clear h99;rintro _ wn ⟨rfl,hbn⟩;replace hB:=hB.trans (hbn.mono hB.size);obtain⟨k0,k1,k2,k3,k4,k5⟩:=dO hB) | (go_at_call 36;refine(h106 _).mono ?_;clear h106;rintro _ wn ⟨rfl,hbn⟩;replace hB:=hB.trans (hbn.mono hB.size);obtain⟨k0,k1,k2,k3,k4,k5⟩:=dO hB))
    go_ret
    exact⟨by rw[<-hr];simp[hv1],((Below.refl _ w).alloc (aK _) _).trans (hB.mono (by simp))⟩
 ·have hz0:z0=true:=by rw[<-hz];simpa using hb
  subst hz0;cases z1
  case false=>
   go_wp2_with (first | (go_at_call 34;refine(h105 _).mono ?_;clear h105;rintro _ wn ⟨rfl,hbn⟩;replace hB:=hB.trans (hbn.mono hB.size);obtain⟨k0,k1,k2,k3,k4,k5⟩:=dO hB) | (go_at_call 35;refine(h90 _).mono ?_;clear h90;rintro _ wn ⟨rfl,hbn⟩;replace hB:=hB.trans (hbn.mono hB.size);obtain⟨k0,k1,k2,k3,k4,k5⟩:=dO hB) | (go_at_call 31;refine(h99 _).mono ?_;clear h99;rintro _ wn ⟨rfl,hbn⟩;replace hB:=hB.trans (hbn.mono hB.size);obtain⟨k0,k1,k2,k3,k4,k5⟩:=dO hB) | (go_at_call 36;refine(h106 _).mono ?_;clear h106;rintro _ wn ⟨rfl,hbn⟩;replace hB:=hB.trans (hbn.mono hB.size);obtain⟨k0,k1,k2,k3,k4,k5⟩:=dO hB))
   go_ret
   exact⟨by rw[<-hr];simp,((Below.refl _ w).alloc (aK _) _).trans (hB.mono (by simp))⟩
  case true=>
   cases z2
   case false=>
    go_wp2_with (first | (go_at_call 34;refine(h105 _).mono ?_;clear h105;rintro _ wn ⟨rfl,hbn⟩;replace hB:=hB.trans (hbn.mono hB.size);obtain⟨k0,k1,k2,k3,k4,k5⟩:=dO hB) | (go_at_call 35;refine(h90 _).mono ?_;clear h90;rintro _ wn ⟨rfl,hbn⟩;replace hB:=hB.trans (hbn.mono hB.size);obtain⟨k0,k1,k2,k3,k4,k5⟩:=dO hB) | (go_at_call 31;refine(h99 _).mono ?_;clear h99;rintro _ wn ⟨rfl,hbn⟩;replace hB:=hB.trans (hbn.mono hB.size);obtain⟨k0,k1,k2,k3,k4,k5⟩:=dO hB) | (go_at_call 36;refine(h106 _).mono ?_;clear h106;rintro _ wn ⟨rfl,hbn⟩;replace hB:=hB.trans (hbn.mono hB.size);obtain⟨k0,k1,k2,k3,k4,k5⟩:=dO hB))
    go_ret
    exact⟨by rw[<-hr];simp,((Below.refl _ w).alloc (aK _) _).trans (hB.mono (by simp))⟩
   case true=>
    by_cases hv1:d=0
    ·subst hv1;by_cases hv2:e=0
     ·subst hv2;by_cases hv3:f=0
      ·subst hv3
       go_wp2_with (first | (go_at_call 34;refine(h105 _).mono ?_;clear h105;rintro _ wn ⟨rfl,hbn⟩;replace hB:=hB.trans (hbn.mono hB.size);obtain⟨k0,k1,k2,k3,k4,k5⟩:=dO hB) | (go_at_call 35;refine(h90 _).mono ?_;clear h90;rintro _ wn ⟨rfl,hbn⟩;replace hB:=hB.trans (hbn.mono hB.size);obtain⟨k0,k1,k2,k3,k4,k5⟩:=dO hB) | (go_at_call 31;refine(h99 _).mono ?_;clear h99;rintro _ wn ⟨rfl,hbn⟩;replace hB:=hB.trans (hbn.mono hB.size);obtain⟨k0,k1,k2,k3,k4,k5⟩:=dO hB) | (go_at_call 36;refine(h106 _).mono ?_;clear h106;rintro _ wn ⟨rfl,hbn⟩;replace hB:=hB.trans (hbn.mono hB.size);obtain⟨k0,k1,k2,k3,k4,k5⟩:=dO hB))
       go_ret
       exact⟨by rw[<-hr];simp,((Below.refl _ w).alloc (aK _) _).trans (hB.mono (by simp))⟩
      ·skip
       go_wp2_with (first | (go_at_call 34;refine(h105 _).mono ?_;clear h105;rintro _ wn ⟨rfl,hbn⟩;replace hB:=hB.trans (hbn.mono hB.size);obtain⟨k0,k1,k2,k3,k4,k5⟩:=dO hB) | (go_at_call 35;refine(h90 _).mono ?_;clear h90;rintro _ wn ⟨rfl,hbn⟩;replace hB:=hB.trans (hbn.mono hB.size);obtain⟨k0,k1,k2,k3,k4,k5⟩:=dO hB) | (go_at_call 31;refine(h99 _).mono ?_;clear h99;rintro _ wn ⟨rfl,hbn⟩;replace hB:=hB.trans (hbn.mono hB.size);obtain⟨k0,k1,k2,k3,k4,k5⟩:=dO hB) | (go_at_call 36;refine(h106 _).mono ?_;clear h106;rintro _ wn ⟨rfl,hbn⟩;replace hB:=hB.trans (hbn.mono hB.size);obtain⟨k0,k1,k2,k3,k4,k5⟩:=dO hB))
       go_ret
       exact⟨by rw[<-hr];simp[hv3],((Below.refl _ w).alloc (aK _) _).trans (hB.mono (by simp))⟩
     ·skip
      go_wp2_with (first | (go_at_call 34;refine(h105 _).mono ?_;clear h105;rintro _ wn ⟨rfl,hbn⟩;replace hB:=hB.trans (hbn.mono hB.size);obtain⟨k0,k1,k2,k3,k4,k5⟩:=dO hB) | (go_at_call 35;refine(h90 _).mono ?_;clear h90;rintro _ wn ⟨rfl,hbn⟩;replace hB:=hB.trans (hbn.mono hB.size);obtain⟨k0,k1,k2,k3,k4,k5⟩:=dO hB) | (go_at_call 31;refine(h99 _).mono ?_;clear h99;rintro _ wn ⟨rfl,hbn⟩;replace hB:=hB.trans (hbn.mono hB.size);obtain⟨k0,k1,k2,k3,k4,k5⟩:=dO hB) | (go_at_call 36;refine(h106 _).mono ?_;clear h106;rintro _ wn ⟨rfl,hbn⟩;replace hB:=hB.trans (hbn.mono hB.size);obtain⟨k0,k1,k2,k3,k4,k5⟩:=dO hB))
      go_ret
      exact⟨by rw[<-hr];simp[hv2],((Below.refl _ w).alloc (aK _) _).trans (hB.mono (by simp))⟩
    ·skip
     go_wp2_with (first | (go_at_call 34;refine(h105 _).mono ?_;clear h105;rintro _ wn ⟨rfl,hbn⟩;replace hB:=hB.trans (hbn.mono hB.size);obtain⟨k0,k1,k2,k3,k4,k5⟩:=dO hB) | (go_at_call 35;refine(h90 _).mono ?_;clear h90;rintro _ wn ⟨rfl,hbn⟩;replace hB:=hB.trans (hbn.mono hB.size);obtain⟨k0,k1,k2,k3,k4,k5⟩:=dO hB) | (go_at_call 31;refine(h99 _).mono ?_;clear h99;rintro _ wn ⟨rfl,hbn⟩;replace hB:=hB.trans (hbn.mono hB.size);obtain⟨k0,k1,k2,k3,k4,k5⟩:=dO hB) | (go_at_call 36;refine(h106 _).mono ?_;clear h106;rintro _ wn ⟨rfl,hbn⟩;replace hB:=hB.trans (hbn.mono hB.size);obtain⟨k0,k1,k2,k3,k4,k5⟩:=dO hB))
     go_ret
     exact⟨by rw[<-hr];simp[hv1],((Below.refl _ w).alloc (aK _) _).trans (hB.mono (by simp))⟩
end
section
attribute [local go_sem] Oper.semAt_some
theorem cI {w w1:World}{t:TypeId}{v0 v1 v2 v3 v4 v5:Value}(h:Below (w.alloc (.cells #[v0,v1,v2,v3,v4,v5] t)).heap.size (w.alloc (.cells #[v0,v1,v2,v3,v4,v5] t)) w1) :
  w1.cell? ⟨w.heap.size,0,none⟩=some v0/\w1.cell? ⟨w.heap.size,1,none⟩=some v1/\w1.cell? ⟨w.heap.size,2,none⟩=some v2/\w1.cell? ⟨w.heap.size,3,none⟩=some v3/\w1.cell? ⟨w.heap.size,4,none⟩=some v4/\w1.cell? ⟨w.heap.size,5,none⟩=some v5:=by
 have q:=(h.block w.heap.size (by simp)).trans (World.alloc_heap_new w _);refine⟨?_,?_,?_,?_,?_,?_⟩<;>simp[World.cell?,q]
set_option maxRecDepth 100000 in
set_option maxHeartbeats 8000000 in
theorem aLu (k b c d e f:Int)(z0 z1:Bool)(hz:(b != -1)=z0)(h105:CB 34 #[.int .i64 k,.int .i64 1,.int .i64 9] (.bool true))(h90:CB 35 #[.int .i64 k] (.tuple #[.bool false,.bool true,.bool true,.bool true]))(h99:CB 31 #[.int .i64 b] (.bool z1))(z3:Bool)(h107:CB 37 #[.int .i64 d] (.bool z3))(z4:Bool)(h108:CB 38 #[.agg #[.int .i64 k,.int .i64 b,.int .i64 c,.int .i64 d,.int .i64 e,.int .i64 f]] (.bool z4))(z5:Bool)(h109:CB 39 #[.int .i64 f] (.bool z5))(r:Int)(hr:(bif (z0&&!z1) || !z3 || !z4 || !z5 then 3 else if c≠0 then 1 else 0)=r)(w:World) :
  Calls prog 17 #[.agg #[.int .i64 k,.int .i64 b,.int .i64 c,.int .i64 d,.int .i64 e,.int .i64 f]] w λe' w'=>e'=.returned (.int .i64 r)/\Below w.heap.size w w':=by
 have hB:=Below.refl (w.alloc (.cells #[.int .i64 k,.int .i64 b,.int .i64 c,.int .i64 d,.int .i64 e,.int .i64 f] 37)).heap.size (w.alloc (.cells #[.int .i64 k,.int .i64 b,.int .i64 c,.int .i64 d,.int .i64 e,.int .i64 f] 37))
 go_enter func17,ntmps17
 by_cases hb:b=-1
 ·subst hb;have hz0:z0=false:=by rw[<-hz];rfl
  subst hz0;cases z3
  case false=>
   go_wp2_with (first | (go_at_call 34;refine(h105 _).mono ?_;clear h105;rintro _ wn ⟨rfl,hbn⟩;replace hB:=hB.trans (hbn.mono hB.size);obtain⟨k0,k1,k2,k3,k4,k5⟩:=cI hB) | (go_at_call 35;refine(h90 _).mono ?_;clear h90;rintro _ wn ⟨rfl,hbn⟩;replace hB:=hB.trans (hbn.mono hB.size);obtain⟨k0,k1,k2,k3,k4,k5⟩:=cI hB) | (go_at_call 31;refine(h99 _).mono ?_;clear h99;rintro _ wn ⟨rfl,hbn⟩;replace hB:=hB.trans (hbn.mono hB.size);obtain⟨k0,k1,k2,k3,k4,k5⟩:=cI hB) | (go_at_call 37;refine(h107 _).mono ?_;clear h107;rintro _ wn ⟨rfl,hbn⟩;replace hB:=hB.trans (hbn.mono hB.size);obtain⟨k0,k1,k2,k3,k4,k5⟩:=cI hB) | (go_at_call 38;refine(h108 _).mono ?_;clear h108;rintro _ wn ⟨rfl,hbn⟩;replace hB:=hB.trans (hbn.mono hB.size);obtain⟨k0,k1,k2,k3,k4,k5⟩:=cI hB) | (go_at_call 39;refine(h109 _).mono ?_;clear h109;rintro _ wn ⟨rfl,hbn⟩;replace hB:=hB.trans (hbn.mono hB.size);obtain⟨k0,k1,k2,k3,k4,k5⟩:=cI hB))
   go_ret
   exact⟨by rw[<-hr];simp,((Below.refl _ w).alloc (aK _) _).trans (hB.mono (by simp))⟩
  case true=>
   cases z4
   case false=>
    go_wp2_with (first | (go_at_call 34;refine(h105 _).mono ?_;clear h105;rintro _ wn ⟨rfl,hbn⟩;replace hB:=hB.trans (hbn.mono hB.size);obtain⟨k0,k1,k2,k3,k4,k5⟩:=cI hB) | (go_at_call 35;refine(h90 _).mono ?_;clear h90;rintro _ wn ⟨rfl,hbn⟩;replace hB:=hB.trans (hbn.mono hB.size);obtain⟨k0,k1,k2,k3,k4,k5⟩:=cI hB) | (go_at_call 31;refine(h99 _).mono ?_;clear h99;rintro _ wn ⟨rfl,hbn⟩;replace hB:=hB.trans (hbn.mono hB.size);obtain⟨k0,k1,k2,k3,k4,k5⟩:=cI hB) | (go_at_call 37;refine(h107 _).mono ?_;clear h107;rintro _ wn ⟨rfl,hbn⟩;replace hB:=hB.trans (hbn.mono hB.size);obtain⟨k0,k1,k2,k3,k4,k5⟩:=cI hB) | (go_at_call 38;refine(h108 _).mono ?_;clear h108;rintro _ wn ⟨rfl,hbn⟩;replace hB:=hB.trans (hbn.mono hB.size);obtain⟨k0,k1,k2,k3,k4,k5⟩:=cI hB) | (go_at_call 39;refine(h109 _).mono ?_;clear h109;rintro _ wn ⟨rfl,hbn⟩;replace hB:=hB.trans (hbn.mono hB.size);obtain⟨k0,k1,k2,k3,k4,k5⟩:=cI hB))
    go_ret
    exact⟨by rw[<-hr];simp,((Below.refl _ w).alloc (aK _) _).trans (hB.mono (by simp))⟩
   case true=>
    cases z5
    case false=>
     go_wp2_with (first | (go_at_call 34;refine(h105 _).mono ?_;clear h105;rintro _ wn ⟨rfl,hbn⟩;replace hB:=hB.trans (hbn.mono hB.size);obtain⟨k0,k1,k2,k3,k4,k5⟩:=cI hB) | (go_at_call 35;refine(h90 _).mono ?_;clear h90;rintro _ wn ⟨rfl,hbn⟩;replace hB:=hB.trans (hbn.mono hB.size);obtain⟨k0,k1,k2,k3,k4,k5⟩:=cI hB) | (go_at_call 31;refine(h99 _).mono ?_;clear h99;rintro _ wn ⟨rfl,hbn⟩;replace hB:=hB.trans (hbn.mono hB.size);obtain⟨k0,k1,k2,k3,k4,k5⟩:=cI hB) | (go_at_call 37;refine(h107 _).mono ?_;clear h107;rintro _ wn ⟨rfl,hbn⟩;replace hB:=hB.trans (hbn.mono hB.size);obtain⟨k0,k1,k2,k3,k4,k5⟩:=cI hB) | (go_at_call 38;refine(h108 _).mono ?_;clear h108;rintro _ wn ⟨rfl,hbn⟩;replace hB:=hB.trans (hbn.mono hB.size);obtain⟨k0,k1,k2,k3,k4,k5⟩:=cI hB) | (go_at_call 39;refine(h109 _).mono ?_;clear h109;rintro _ wn ⟨rfl,hbn⟩;replace hB:=hB.trans (hbn.mono hB.size);obtain⟨k0,k1,k2,k3,k4,k5⟩:=cI hB))
     go_ret
     exact⟨by rw[<-hr];simp,((Below.refl _ w).alloc (aK _) _).trans (hB.mono (by simp))⟩
    case true=>
     by_cases hv0:c=0
     ·subst hv0
      go_wp2_with (first | (go_at_call 34;refine(h105 _).mono ?_;clear h105;rintro _ wn ⟨rfl,hbn⟩;replace hB:=hB.trans (hbn.mono hB.size);obtain⟨k0,k1,k2,k3,k4,k5⟩:=cI hB) | (go_at_call 35;refine(h90 _).mono ?_;clear h90;rintro _ wn ⟨rfl,hbn⟩;replace hB:=hB.trans (hbn.mono hB.size);obtain⟨k0,k1,k2,k3,k4,k5⟩:=cI hB) | (go_at_call 31;refine(h99 _).mono ?_;clear h99;rintro _ wn ⟨rfl,hbn⟩;replace hB:=hB.trans (hbn.mono hB.size);obtain⟨k0,k1,k2,k3,k4,k5⟩:=cI hB) | (go_at_call 37;refine(h107 _).mono ?_;clear h107;rintro _ wn ⟨rfl,hbn⟩;replace hB:=hB.trans (hbn.mono hB.size);obtain⟨k0,k1,k2,k3,k4,k5⟩:=cI hB) | (go_at_call 38;refine(h108 _).mono ?_;clear h108;rintro _ wn ⟨rfl,hbn⟩;replace hB:=hB.trans (hbn.mono hB.size);obtain⟨k0,k1,k2,k3,k4,k5⟩:=cI hB) | (go_at_call 39;refine(h109 _).mono ?_;clear h109;rintro _ wn ⟨rfl,hbn⟩;replace hB:=hB.trans (hbn.mono hB.size);obtain⟨k0,k1,k2,k3,k4,k5⟩:=cI hB))
      go_ret
      exact⟨by rw[<-hr];simp,((Below.refl _ w).alloc (aK _) _).trans (hB.mono (by simp))⟩
     ·skip
      go_wp2_with (first | (go_at_call 34;refine(h105 _).mono ?_;clear h105;rintro _ wn ⟨rfl,hbn⟩;replace hB:=hB.trans (hbn.mono hB.size);obtain⟨k0,k1,k2,k3,k4,k5⟩:=cI hB) | (go_at_call 35;refine(h90 _).mono ?_;clear h90;rintro _ wn ⟨rfl,hbn⟩;replace hB:=hB.trans (hbn.mono hB.size);obtain⟨k0,k1,k2,k3,k4,k5⟩:=cI hB) | (go_at_call 31;refine(h99 _).mono ?_;clear h99;rintro _ wn ⟨rfl,hbn⟩;replace hB:=hB.trans (hbn.mono hB.size);obtain⟨k0,k1,k2,k3,k4,k5⟩:=cI hB) | (go_at_call 37;refine(h107 _).mono ?_;clear h107;rintro _ wn ⟨rfl,hbn⟩;replace hB:=hB.trans (hbn.mono hB.size);obtain⟨k0,k1,k2,k3,k4,k5⟩:=cI hB) | (go_at_call 38;refine(h108 _).mono ?_;clear h108;rintro _ wn ⟨rfl,hbn⟩;replace hB:=hB.trans (hbn.mono hB.size);obtain⟨k0,k1,k2,k3,k4,k5⟩:=cI hB) | (go_at_call 39;refine(h109 _).mono ?_;clear h109;rintro _ wn ⟨rfl,hbn⟩;replace hB:=hB.trans (hbn.mono hB.size);obtain⟨k0,k1,k2,k3,k4,k5⟩:=cI hB))
      go_ret
      exact⟨by rw[<-hr];simp[hv0],((Below.refl _ w).alloc (aK _) _).trans (hB.mono (by simp))⟩
 ·have hz0:z0=true:=by rw[<-hz];simpa using hb
  subst hz0;cases z1
  case false=>
   go_wp2_with (first | (go_at_call 34;refine(h105 _).mono ?_;clear h105;rintro _ wn ⟨rfl,hbn⟩;replace hB:=hB.trans (hbn.mono hB.size);obtain⟨k0,k1,k2,k3,k4,k5⟩:=cI hB) | (go_at_call 35;refine(h90 _).mono ?_;clear h90;rintro _ wn ⟨rfl,hbn⟩;replace hB:=hB.trans (hbn.mono hB.size);obtain⟨k0,k1,k2,k3,k4,k5⟩:=cI hB) | (go_at_call 31;refine(h99 _).mono ?_;clear h99;rintro _ wn ⟨rfl,hbn⟩;replace hB:=hB.trans (hbn.mono hB.size);obtain⟨k0,k1,k2,k3,k4,k5⟩:=cI hB) | (go_at_call 37;refine(h107 _).mono ?_;clear h107;rintro _ wn ⟨rfl,hbn⟩;replace hB:=hB.trans (hbn.mono hB.size);obtain⟨k0,k1,k2,k3,k4,k5⟩:=cI hB) | (go_at_call 38;refine(h108 _).mono ?_;clear h108;rintro _ wn ⟨rfl,hbn⟩;replace hB:=hB.trans (hbn.mono hB.size);obtain⟨k0,k1,k2,k3,k4,k5⟩:=cI hB) | (go_at_call 39;refine(h109 _).mono ?_;clear h109;rintro _ wn ⟨rfl,hbn⟩;replace hB:=hB.trans (hbn.mono hB.size);obtain⟨k0,k1,k2,k3,k4,k5⟩:=cI hB))
   go_ret
   exact⟨by rw[<-hr];simp,((Below.refl _ w).alloc (aK _) _).trans (hB.mono (by simp))⟩
  case true=>
   cases z3
   case false=>
    go_wp2_with (first | (go_at_call 34;refine(h105 _).mono ?_;clear h105;rintro _ wn ⟨rfl,hbn⟩;replace hB:=hB.trans (hbn.mono hB.size);obtain⟨k0,k1,k2,k3,k4,k5⟩:=cI hB) | (go_at_call 35;refine(h90 _).mono ?_;clear h90;rintro _ wn ⟨rfl,hbn⟩;replace hB:=hB.trans (hbn.mono hB.size);obtain⟨k0,k1,k2,k3,k4,k5⟩:=cI hB) | (go_at_call 31;refine(h99 _).mono ?_;clear h99;rintro _ wn ⟨rfl,hbn⟩;replace hB:=hB.trans (hbn.mono hB.size);obtain⟨k0,k1,k2,k3,k4,k5⟩:=cI hB) | (go_at_call 37;refine(h107 _).mono ?_;clear h107;rintro _ wn ⟨rfl,hbn⟩;replace hB:=hB.trans (hbn.mono hB.size);obtain⟨k0,k1,k2,k3,k4,k5⟩:=cI hB) | (go_at_call 38;refine(h108 _).mono ?_;clear h108;rintro _ wn ⟨rfl,hbn⟩;replace hB:=hB.trans (hbn.mono hB.size);obtain⟨k0,k1,k2,k3,k4,k5⟩:=cI hB) | (go_at_call 39;refine(h109 _).mono ?_;clear h109;rintro _ wn ⟨rfl,hbn⟩;replace hB:=hB.trans (hbn.mono hB.size);obtain⟨k0,k1,k2,k3,k4,k5⟩:=cI hB))
    go_ret
    exact⟨by rw[<-hr];simp,((Below.refl _ w).alloc (aK _) _).trans (hB.mono (by simp))⟩
   case true=>
    cases z4
    case false=>
     go_wp2_with (first | (go_at_call 34;refine(h105 _).mono ?_;clear h105;rintro _ wn ⟨rfl,hbn⟩;replace hB:=hB.trans (hbn.mono hB.size);obtain⟨k0,k1,k2,k3,k4,k5⟩:=cI hB) | (go_at_call 35;refine(h90 _).mono ?_;clear h90;rintro _ wn ⟨rfl,hbn⟩;replace hB:=hB.trans (hbn.mono hB.size);obtain⟨k0,k1,k2,k3,k4,k5⟩:=cI hB) | (go_at_call 31;refine(h99 _).mono ?_;clear h99;rintro _ wn ⟨rfl,hbn⟩;replace hB:=hB.trans (hbn.mono hB.size);obtain⟨k0,k1,k2,k3,k4,k5⟩:=cI hB) | (go_at_call 37;refine(h107 _).mono ?_;clear h107;rintro _ wn ⟨rfl,hbn⟩;replace hB:=hB.trans (hbn.mono hB.size);obtain⟨k0,k1,k2,k3,k4,k5⟩:=cI hB) | (go_at_call 38;refine(h108 _).mono ?_;clear h108;rintro _ wn ⟨rfl,hbn⟩;replace hB:=hB.trans (hbn.mono hB.size);obtain⟨k0,k1,k2,k3,k4,k5⟩:=cI hB) | (go_at_call 39;refine(h109 _).mono ?_;clear h109;rintro _ wn ⟨rfl,hbn⟩;replace hB:=hB.trans (hbn.mono hB.size);obtain⟨k0,k1,k2,k3,k4,k5⟩:=cI hB))
     go_ret
     exact⟨by rw[<-hr];simp,((Below.refl _ w).alloc (aK _) _).trans (hB.mono (by simp))⟩
    case true=>
     cases z5
     case false=>
      go_wp2_with (first | (go_at_call 34;refine(h105 _).mono ?_;clear h105;rintro _ wn ⟨rfl,hbn⟩;replace hB:=hB.trans (hbn.mono hB.size);obtain⟨k0,k1,k2,k3,k4,k5⟩:=cI hB) | (go_at_call 35;refine(h90 _).mono ?_;clear h90;rintro _ wn ⟨rfl,hbn⟩;replace hB:=hB.trans (hbn.mono hB.size);obtain⟨k0,k1,k2,k3,k4,k5⟩:=cI hB) | (go_at_call 31;refine(h99 _).mono ?_;clear h99;rintro _ wn ⟨rfl,hbn⟩;replace hB:=hB.trans (hbn.mono hB.size);obtain⟨k0,k1,k2,k3,k4,k5⟩:=cI hB) | (go_at_call 37;refine(h107 _).mono ?_;clear h107;rintro _ wn ⟨rfl,hbn⟩;replace hB:=hB.trans (hbn.mono hB.size);obtain⟨k0,k1,k2,k3,k4,k5⟩:=cI hB) | (go_at_call 38;refine(h108 _).mono ?_;clear h108;rintro _ wn ⟨rfl,hbn⟩;replace hB:=hB.trans (hbn.mono hB.size);obtain⟨k0,k1,k2,k3,k4,k5⟩:=cI hB) | (go_at_call 39;refine(h109 _).mono ?_;clear h109;rintro _ wn ⟨rfl,hbn⟩;replace hB:=hB.trans (hbn.mono hB.size);obtain⟨k0,k1,k2,k3,k4,k5⟩:=cI hB))
      go_ret
      exact⟨by rw[<-hr];simp,((Below.refl _ w).alloc (aK _) _).trans (hB.mono (by simp))⟩
     case true=>
      by_cases hv0:c=0
      ·subst hv0
       go_wp2_with (first | (go_at_call 34;refine(h105 _).mono ?_;clear h105;rintro _ wn ⟨rfl,hbn⟩;replace hB:=hB.trans (hbn.mono hB.size);obtain⟨k0,k1,k2,k3,k4,k5⟩:=cI hB) | (go_at_call 35;refine(h90 _).mono ?_;clear h90;rintro _ wn ⟨rfl,hbn⟩;replace hB:=hB.trans (hbn.mono hB.size);obtain⟨k0,k1,k2,k3,k4,k5⟩:=cI hB) | (go_at_call 31;refine(h99 _).mono ?_;clear h99;rintro _ wn ⟨rfl,hbn⟩;replace hB:=hB.trans (hbn.mono hB.size);obtain⟨k0,k1,k2,k3,k4,k5⟩:=cI hB) | (go_at_call 37;refine(h107 _).mono ?_;clear h107;rintro _ wn ⟨rfl,hbn⟩;replace hB:=hB.trans (hbn.mono hB.size);obtain⟨k0,k1,k2,k3,k4,k5⟩:=cI hB) | (go_at_call 38;refine(h108 _).mono ?_;clear h108;rintro _ wn ⟨rfl,hbn⟩;replace hB:=hB.trans (hbn.mono hB.size);obtain⟨k0,k1,k2,k3,k4,k5⟩:=cI hB) | (go_at_call 39;refine(h109 _).mono ?_;clear h109;rintro _ wn ⟨rfl,hbn⟩;replace hB:=hB.trans (hbn.mono hB.size);obtain⟨k0,k1,k2,k3,k4,k5⟩:=cI hB))
       go_ret
       exact⟨by rw[<-hr];simp,((Below.refl _ w).alloc (aK _) _).trans (hB.mono (by simp))⟩
      ·skip
       go_wp2_with (first | (go_at_call 34;refine(h105 _).mono ?_;clear h105;rintro _ wn ⟨rfl,hbn⟩;replace hB:=hB.trans (hbn.mono hB.size);obtain⟨k0,k1,k2,k3,k4,k5⟩:=cI hB) | (go_at_call 35;refine(h90 _).mono ?_;clear h90;rintro _ wn ⟨rfl,hbn⟩;replace hB:=hB.trans (hbn.mono hB.size);obtain⟨k0,k1,k2,k3,k4,k5⟩:=cI hB) | (go_at_call 31;refine(h99 _).mono ?_;clear h99;rintro _ wn ⟨rfl,hbn⟩;replace hB:=hB.trans (hbn.mono hB.size);obtain⟨k0,k1,k2,k3,k4,k5⟩:=cI hB) | (go_at_call 37;refine(h107 _).mono ?_;clear h107;rintro _ wn ⟨rfl,hbn⟩;replace hB:=hB.trans (hbn.mono hB.size);obtain⟨k0,k1,k2,k3,k4,k5⟩:=cI hB) | (go_at_call 38;refine(h108 _).mono ?_;clear h108;rintro _ wn ⟨rfl,hbn⟩;replace hB:=hB.trans (hbn.mono hB.size);obtain⟨k0,k1,k2,k3,k4,k5⟩:=cI hB) | (go_at_call 39;refine(h109 _).mono ?_;clear h109;rintro _ wn ⟨rfl,hbn⟩;replace hB:=hB.trans (hbn.mono hB.size);obtain⟨k0,k1,k2,k3,k4,k5⟩:=cI hB))
       go_ret
       exact⟨by rw[<-hr];simp[hv0],((Below.refl _ w).alloc (aK _) _).trans (hB.mono (by simp))⟩
end
section
attribute [local go_sem] Oper.semAt_some
theorem bY {w w1:World}{t:TypeId}{v0 v1 v2 v3 v4 v5:Value}(h:Below (w.alloc (.cells #[v0,v1,v2,v3,v4,v5] t)).heap.size (w.alloc (.cells #[v0,v1,v2,v3,v4,v5] t)) w1) :
  w1.cell? ⟨w.heap.size,0,none⟩=some v0/\w1.cell? ⟨w.heap.size,1,none⟩=some v1/\w1.cell? ⟨w.heap.size,2,none⟩=some v2/\w1.cell? ⟨w.heap.size,3,none⟩=some v3/\w1.cell? ⟨w.heap.size,4,none⟩=some v4/\w1.cell? ⟨w.heap.size,5,none⟩=some v5:=by
 have q:=(h.block w.heap.size (by simp)).trans (World.alloc_heap_new w _);refine⟨?_,?_,?_,?_,?_,?_⟩<;>simp[World.cell?,q]
set_option maxRecDepth 100000 in
set_option maxHeartbeats 8000000 in
theorem aLt (k b c d e f:Int)(z0 z1:Bool)(hz:(b != -1)=z0)(h105:CB 34 #[.int .i64 k,.int .i64 1,.int .i64 9] (.bool true))(h90:CB 35 #[.int .i64 k] (.tuple #[.bool true,.bool true,.bool true,.bool true]))(h99:CB 31 #[.int .i64 b] (.bool z1))(z2:Bool)(h106:CB 36 #[.int .i64 c] (.bool z2))(z3:Bool)(h107:CB 37 #[.int .i64 d] (.bool z3))(z4:Bool)(h108:CB 38 #[.agg #[.int .i64 k,.int .i64 b,.int .i64 c,.int .i64 d,.int .i64 e,.int .i64 f]] (.bool z4))(z5:Bool)(h109:CB 39 #[.int .i64 f] (.bool z5))(r:Int)(hr:(bif (z0&&!z1) || !z2 || !z3 || !z4 || !z5 then 3 else if False then 1 else 0)=r)(w:World) :
  Calls prog 17 #[.agg #[.int .i64 k,.int .i64 b,.int .i64 c,.int .i64 d,.int .i64 e,.int .i64 f]] w λe' w'=>e'=.returned (.int .i64 r)/\Below w.heap.size w w':=by
 have hB:=Below.refl (w.alloc (.cells #[.int .i64 k,.int .i64 b,.int .i64 c,.int .i64 d,.int .i64 e,.int .i64 f] 37)).heap.size (w.alloc (.cells #[.int .i64 k,.int .i64 b,.int .i64 c,.int .i64 d,.int .i64 e,.int .i64 f] 37))
 go_enter func17,ntmps17
 by_cases hb:b=-1
 ·subst hb;have hz0:z0=false:=by rw[<-hz];rfl
  subst hz0;cases z2
  case false=>
   go_wp2_with (first | (go_at_call 34;refine(h105 _).mono ?_;clear h105;rintro _ wn ⟨rfl,hbn⟩;replace hB:=hB.trans (hbn.mono hB.size);obtain⟨k0,k1,k2,k3,k4,k5⟩:=bY hB) | (go_at_call 35;refine(h90 _).mono ?_;clear h90;rintro _ wn ⟨rfl,hbn⟩;replace hB:=hB.trans (hbn.mono hB.size);obtain⟨k0,k1,k2,k3,k4,k5⟩:=bY hB) | (go_at_call 31;refine(h99 _).mono ?_;clear h99;rintro _ wn ⟨rfl,hbn⟩;replace hB:=hB.trans (hbn.mono hB.size);obtain⟨k0,k1,k2,k3,k4,k5⟩:=bY hB) | (go_at_call 36;refine(h106 _).mono ?_;clear h106;rintro _ wn ⟨rfl,hbn⟩;replace hB:=hB.trans (hbn.mono hB.size);obtain⟨k0,k1,k2,k3,k4,k5⟩:=bY hB) | (go_at_call 37;refine(h107 _).mono ?_;clear h107;rintro _ wn ⟨rfl,hbn⟩;replace hB:=hB.trans (hbn.mono hB.size);obtain⟨k0,k1,k2,k3,k4,k5⟩:=bY hB) | (go_at_call 38;refine(h108 _).mono ?_;clear h108;rintro _ wn ⟨rfl,hbn⟩;replace hB:=hB.trans (hbn.mono hB.size);obtain⟨k0,k1,k2,k3,k4,k5⟩:=bY hB) | (go_at_call 39;refine(h109 _).mono ?_;clear h109;rintro _ wn ⟨rfl,hbn⟩;replace hB:=hB.trans (hbn.mono hB.size);obtain⟨k0,k1,k2,k3,k4,k5⟩:=bY hB))
   go_ret
   exact⟨by rw[<-hr];simp,((Below.refl _ w).alloc (aK _) _).trans (hB.mono (by simp))⟩
  case true=>
   cases z3
   case false=>
    go_wp2_with (first | (go_at_call 34;refine(h105 _).mono ?_;clear h105;rintro _ wn ⟨rfl,hbn⟩;replace hB:=hB.trans (hbn.mono hB.size);obtain⟨k0,k1,k2,k3,k4,k5⟩:=bY hB) | (go_at_call 35;refine(h90 _).mono ?_;clear h90;rintro _ wn ⟨rfl,hbn⟩;replace hB:=hB.trans (hbn.mono hB.size);obtain⟨k0,k1,k2,k3,k4,k5⟩:=bY hB) | (go_at_call 31;refine(h99 _).mono ?_;clear h99;rintro _ wn ⟨rfl,hbn⟩;replace hB:=hB.trans (hbn.mono hB.size);obtain⟨k0,k1,k2,k3,k4,k5⟩:=bY hB) | (go_at_call 36;refine(h106 _).mono ?_;clear h106;rintro _ wn ⟨rfl,hbn⟩;replace hB:=hB.trans (hbn.mono hB.size);obtain⟨k0,k1,k2,k3,k4,k5⟩:=bY hB) | (go_at_call 37;refine(h107 _).mono ?_;clear h107;rintro _ wn ⟨rfl,hbn⟩;replace hB:=hB.trans (hbn.mono hB.size);obtain⟨k0,k1,k2,k3,k4,k5⟩:=bY hB) | (go_at_call 38;refine(h108 _).mono ?_;clear h108;rintro _ wn ⟨rfl,hbn⟩;replace hB:=hB.trans (hbn.mono hB.size);obtain⟨k0,k1,k2,k3,k4,k5⟩:=bY hB) | (go_at_call 39;refine(h109 _).mono ?_;clear h109;rintro _ wn ⟨rfl,hbn⟩;replace hB:=hB.trans (hbn.mono hB.size);obtain⟨k0,k1,k2,k3,k4,k5⟩:=bY hB))
    go_ret
    exact⟨by rw[<-hr];simp,((Below.refl _ w).alloc (aK _) _).trans (hB.mono (by simp))⟩
   case true=>
    cases z4
    case false=>
     go_wp2_with (first | (go_at_call 34;refine(h105 _).mono ?_;clear h105;rintro _ wn ⟨rfl,hbn⟩;replace hB:=hB.trans (hbn.mono hB.size);obtain⟨k0,k1,k2,k3,k4,k5⟩:=bY hB) | (go_at_call 35;refine(h90 _).mono ?_;clear h90;rintro _ wn ⟨rfl,hbn⟩;replace hB:=hB.trans (hbn.mono hB.size);obtain⟨k0,k1,k2,k3,k4,k5⟩:=bY hB) | (go_at_call 31;refine(h99 _).mono ?_;clear h99;rintro _ wn ⟨rfl,hbn⟩;replace hB:=hB.trans (hbn.mono hB.size);obtain⟨k0,k1,k2,k3,k4,k5⟩:=bY hB) | (go_at_call 36;refine(h106 _).mono ?_;clear h106;rintro _ wn ⟨rfl,hbn⟩;replace hB:=hB.trans (hbn.mono hB.size);obtain⟨k0,k1,k2,k3,k4,k5⟩:=bY hB) | (go_at_call 37;refine(h107 _).mono ?_;clear h107;rintro _ wn ⟨rfl,hbn⟩;replace hB:=hB.trans (hbn.mono hB.size);obtain⟨k0,k1,k2,k3,k4,k5⟩:=bY hB) | (go_at_call 38;refine(h108 _).mono ?_;clear h108;rintro _ wn ⟨rfl,hbn⟩;replace hB:=hB.trans (hbn.mono hB.size);obtain⟨k0,k1,k2,k3,k4,k5⟩:=bY hB) | (go_at_call 39;refine(h109 _).mono ?_;clear h109;rintro _ wn ⟨rfl,hbn⟩;replace hB:=hB.trans (hbn.mono hB.size);obtain⟨k0,k1,k2,k3,k4,k5⟩:=bY hB))
     go_ret
     exact⟨by rw[<-hr];simp,((Below.refl _ w).alloc (aK _) _).trans (hB.mono (by simp))⟩
    case true=>
     cases z5
     case false=>
      go_wp2_with (first | (go_at_call 34;refine(h105 _).mono ?_;clear h105;rintro _ wn ⟨rfl,hbn⟩;replace hB:=hB.trans (hbn.mono hB.size);obtain⟨k0,k1,k2,k3,k4,k5⟩:=bY hB) | (go_at_call 35;refine(h90 _).mono ?_;clear h90;rintro _ wn ⟨rfl,hbn⟩;replace hB:=hB.trans (hbn.mono hB.size);obtain⟨k0,k1,k2,k3,k4,k5⟩:=bY hB) | (go_at_call 31;refine(h99 _).mono ?_;clear h99;rintro _ wn ⟨rfl,hbn⟩;replace hB:=hB.trans (hbn.mono hB.size);obtain⟨k0,k1,k2,k3,k4,k5⟩:=bY hB) | (go_at_call 36;refine(h106 _).mono ?_;clear h106;rintro _ wn ⟨rfl,hbn⟩;replace hB:=hB.trans (hbn.mono hB.size);obtain⟨k0,k1,k2,k3,k4,k5⟩:=bY hB) | (go_at_call 37;refine(h107 _).mono ?_;clear h107;rintro _ wn ⟨rfl,hbn⟩;replace hB:=hB.trans (hbn.mono hB.size);obtain⟨k0,k1,k2,k3,k4,k5⟩:=bY hB) | (go_at_call 38;refine(h108 _).mono ?_;clear h108;rintro _ wn ⟨rfl,hbn⟩;replace hB:=hB.trans (hbn.mono hB.size);obtain⟨k0,k1,k2,k3,k4,k5⟩:=bY hB) | (go_at_call 39;refine(h109 _).mono ?_;clear h109;rintro _ wn ⟨rfl,hbn⟩;replace hB:=hB.trans (hbn.mono hB.size);obtain⟨k0,k1,k2,k3,k4,k5⟩:=bY hB))
      go_ret
      exact⟨by rw[<-hr];simp,((Below.refl _ w).alloc (aK _) _).trans (hB.mono (by simp))⟩
     case true=>
      go_wp2_with (first | (go_at_call 34;refine(h105 _).mono ?_;clear h105;rintro _ wn ⟨rfl,hbn⟩;replace hB:=hB.trans (hbn.mono hB.size);obtain⟨k0,k1,k2,k3,k4,k5⟩:=bY hB) | (go_at_call 35;refine(h90 _).mono ?_;clear h90;rintro _ wn ⟨rfl,hbn⟩;replace hB:=hB.trans (hbn.mono hB.size);obtain⟨k0,k1,k2,k3,k4,k5⟩:=bY hB) | (go_at_call 31;refine(h99 _).mono ?_;clear h99;rintro _ wn ⟨rfl,hbn⟩;replace hB:=hB.trans (hbn.mono hB.size);obtain⟨k0,k1,k2,k3,k4,k5⟩:=bY hB) | (go_at_call 36;refine(h106 _).mono ?_;clear h106;rintro _ wn ⟨rfl,hbn⟩;replace hB:=hB.trans (hbn.mono hB.size);obtain⟨k0,k1,k2,k3,k4,k5⟩:=bY hB) | (go_at_call 37;refine(h107 _).mono ?_;clear h107;rintro _ wn ⟨rfl,hbn⟩;replace hB:=hB.trans (hbn.mono hB.size);obtain⟨k0,k1,k2,k3,k4,k5⟩:=bY hB) | (go_at_call 38;refine(h108 _).mono ?_;clear h108;rintro _ wn ⟨rfl,hbn⟩;replace hB:=hB.trans (hbn.mono hB.size);obtain⟨k0,k1,k2,k3,k4,k5⟩:=bY hB) | (go_at_call 39;refine(h109 _).mono ?_;clear h109;rintro _ wn ⟨rfl,hbn⟩;replace hB:=hB.trans (hbn.mono hB.size);obtain⟨k0,k1,k2,k3,k4,k5⟩:=bY hB))
      go_ret
      exact⟨by rw[<-hr];simp,((Below.refl _ w).alloc (aK _) _).trans (hB.mono (by simp))⟩
 ·have hz0:z0=true:=by rw[<-hz];simpa using hb
  subst hz0;cases z1
  case false=>
   go_wp2_with (first | (go_at_call 34;refine(h105 _).mono ?_;clear h105;rintro _ wn ⟨rfl,hbn⟩;replace hB:=hB.trans (hbn.mono hB.size);obtain⟨k0,k1,k2,k3,k4,k5⟩:=bY hB) | (go_at_call 35;refine(h90 _).mono ?_;clear h90;rintro _ wn ⟨rfl,hbn⟩;replace hB:=hB.trans (hbn.mono hB.size);obtain⟨k0,k1,k2,k3,k4,k5⟩:=bY hB) | (go_at_call 31;refine(h99 _).mono ?_;clear h99;rintro _ wn ⟨rfl,hbn⟩;replace hB:=hB.trans (hbn.mono hB.size);obtain⟨k0,k1,k2,k3,k4,k5⟩:=bY hB) | (go_at_call 36;refine(h106 _).mono ?_;clear h106;rintro _ wn ⟨rfl,hbn⟩;replace hB:=hB.trans (hbn.mono hB.size);obtain⟨k0,k1,k2,k3,k4,k5⟩:=bY hB) | (go_at_call 37;refine(h107 _).mono ?_;clear h107;rintro _ wn ⟨rfl,hbn⟩;replace hB:=hB.trans (hbn.mono hB.size);obtain⟨k0,k1,k2,k3,k4,k5⟩:=bY hB) | (go_at_call 38;refine(h108 _).mono ?_;clear h108;rintro _ wn ⟨rfl,hbn⟩;replace hB:=hB.trans (hbn.mono hB.size);obtain⟨k0,k1,k2,k3,k4,k5⟩:=bY hB) | (go_at_call 39;refine(h109 _).mono ?_;clear h109;rintro _ wn ⟨rfl,hbn⟩;replace hB:=hB.trans (hbn.mono hB.size);obtain⟨k0,k1,k2,k3,k4,k5⟩:=bY hB))
   go_ret
   exact⟨by rw[<-hr];simp,((Below.refl _ w).alloc (aK _) _).trans (hB.mono (by simp))⟩
  case true=>
   cases z2
   case false=>
    go_wp2_with (first | (go_at_call 34;refine(h105 _).mono ?_;clear h105;rintro _ wn ⟨rfl,hbn⟩;replace hB:=hB.trans (hbn.mono hB.size);obtain⟨k0,k1,k2,k3,k4,k5⟩:=bY hB) | (go_at_call 35;refine(h90 _).mono ?_;clear h90;rintro _ wn ⟨rfl,hbn⟩;replace hB:=hB.trans (hbn.mono hB.size);obtain⟨k0,k1,k2,k3,k4,k5⟩:=bY hB) | (go_at_call 31;refine(h99 _).mono ?_;clear h99;rintro _ wn ⟨rfl,hbn⟩;replace hB:=hB.trans (hbn.mono hB.size);obtain⟨k0,k1,k2,k3,k4,k5⟩:=bY hB) | (go_at_call 36;refine(h106 _).mono ?_;clear h106;rintro _ wn ⟨rfl,hbn⟩;replace hB:=hB.trans (hbn.mono hB.size);obtain⟨k0,k1,k2,k3,k4,k5⟩:=bY hB) | (go_at_call 37;refine(h107 _).mono ?_;clear h107;rintro _ wn ⟨rfl,hbn⟩;replace hB:=hB.trans (hbn.mono hB.size);obtain⟨k0,k1,k2,k3,k4,k5⟩:=bY hB) | (go_at_call 38;refine(h108 _).mono ?_;clear h108;rintro _ wn ⟨rfl,hbn⟩;replace hB:=hB.trans (hbn.mono hB.size);obtain⟨k0,k1,k2,k3,k4,k5⟩:=bY hB) | (go_at_call 39;refine(h109 _).mono ?_;clear h109;rintro _ wn ⟨rfl,hbn⟩;replace hB:=hB.trans (hbn.mono hB.size);obtain⟨k0,k1,k2,k3,k4,k5⟩:=bY hB))
    go_ret
    exact⟨by rw[<-hr];simp,((Below.refl _ w).alloc (aK _) _).trans (hB.mono (by simp))⟩
   case true=>
    cases z3
    case false=>
     go_wp2_with (first | (go_at_call 34;refine(h105 _).mono ?_;clear h105;rintro _ wn ⟨rfl,hbn⟩;replace hB:=hB.trans (hbn.mono hB.size);obtain⟨k0,k1,k2,k3,k4,k5⟩:=bY hB) | (go_at_call 35;refine(h90 _).mono ?_;clear h90;rintro _ wn ⟨rfl,hbn⟩;replace hB:=hB.trans (hbn.mono hB.size);obtain⟨k0,k1,k2,k3,k4,k5⟩:=bY hB) | (go_at_call 31;refine(h99 _).mono ?_;clear h99;rintro _ wn ⟨rfl,hbn⟩;replace hB:=hB.trans (hbn.mono hB.size);obtain⟨k0,k1,k2,k3,k4,k5⟩:=bY hB) | (go_at_call 36;refine(h106 _).mono ?_;clear h106;rintro _ wn ⟨rfl,hbn⟩;replace hB:=hB.trans (hbn.mono hB.size);obtain⟨k0,k1,k2,k3,k4,k5⟩:=bY hB) | (go_at_call 37;refine(h107 _).mono ?_;clear h107;rintro _ wn ⟨rfl,hbn⟩;replace hB:=hB.trans (hbn.mono hB.size);obtain⟨k0,k1,k2,k3,k4,k5⟩:=bY hB) | (go_at_call 38;refine(h108 _).mono ?_;clear h108;rintro _ wn ⟨rfl,hbn⟩;replace hB:=hB.trans (hbn.mono hB.size);obtain⟨k0,k1,k2,k3,k4,k5⟩:=bY hB) | (go_at_call 39;refine(h109 _).mono ?_;clear h109;rintro _ wn ⟨rfl,hbn⟩;replace hB:=hB.trans (hbn.mono hB.size);obtain⟨k0,k1,k2,k3,k4,k5⟩:=bY hB))
     go_ret
     exact⟨by rw[<-hr];simp,((Below.refl _ w).alloc (aK _) _).trans (hB.mono (by simp))⟩
    case true=>
     cases z4
     case false=>
      go_wp2_with (first | (go_at_call 34;refine(h105 _).mono ?_;clear h105;rintro _ wn ⟨rfl,hbn⟩;replace hB:=hB.trans (hbn.mono hB.size);obtain⟨k0,k1,k2,k3,k4,k5⟩:=bY hB) | (go_at_call 35;refine(h90 _).mono ?_;clear h90;rintro _ wn ⟨rfl,hbn⟩;replace hB:=hB.trans (hbn.mono hB.size);obtain⟨k0,k1,k2,k3,k4,k5⟩:=bY hB) | (go_at_call 31;refine(h99 _).mono ?_;clear h99;rintro _ wn ⟨rfl,hbn⟩;replace hB:=hB.trans (hbn.mono hB.size);obtain⟨k0,k1,k2,k3,k4,k5⟩:=bY hB) | (go_at_call 36;refine(h106 _).mono ?_;clear h106;rintro _ wn ⟨rfl,hbn⟩;replace hB:=hB.trans (hbn.mono hB.size);obtain⟨k0,k1,k2,k3,k4,k5⟩:=bY hB) | (go_at_call 37;refine(h107 _).mono ?_;clear h107;rintro _ wn ⟨rfl,hbn⟩;replace hB:=hB.trans (hbn.mono hB.size);obtain⟨k0,k1,k2,k3,k4,k5⟩:=bY hB) | (go_at_call 38;refine(h108 _).mono ?_;clear h108;rintro _ wn ⟨rfl,hbn⟩;replace hB:=hB.trans (hbn.mono hB.size);obtain⟨k0,k1,k2,k3,k4,k5⟩:=bY hB) | (go_at_call 39;refine(h109 _).mono ?_;clear h109;rintro _ wn ⟨rfl,hbn⟩;replace hB:=hB.trans (hbn.mono hB.size);obtain⟨k0,k1,k2,k3,k4,k5⟩:=bY hB))
      go_ret
      exact⟨by rw[<-hr];simp,((Below.refl _ w).alloc (aK _) _).trans (hB.mono (by simp))⟩
     case true=>
      cases z5
      case false=>
       go_wp2_with (first | (go_at_call 34;refine(h105 _).mono ?_;clear h105;rintro _ wn ⟨rfl,hbn⟩;replace hB:=hB.trans (hbn.mono hB.size);obtain⟨k0,k1,k2,k3,k4,k5⟩:=bY hB) | (go_at_call 35;refine(h90 _).mono ?_;clear h90;rintro _ wn ⟨rfl,hbn⟩;replace hB:=hB.trans (hbn.mono hB.size);obtain⟨k0,k1,k2,k3,k4,k5⟩:=bY hB) | (go_at_call 31;refine(h99 _).mono ?_;clear h99;rintro _ wn ⟨rfl,hbn⟩;replace hB:=hB.trans (hbn.mono hB.size);obtain⟨k0,k1,k2,k3,k4,k5⟩:=bY hB) | (go_at_call 36;refine(h106 _).mono ?_;clear h106;rintro _ wn ⟨rfl,hbn⟩;replace hB:=hB.trans (hbn.mono hB.size);obtain⟨k0,k1,k2,k3,k4,k5⟩:=bY hB) | (go_at_call 37;refine(h107 _).mono ?_;clear h107;rintro _ wn ⟨rfl,hbn⟩;replace hB:=hB.trans (hbn.mono hB.size);obtain⟨k0,k1,k2,k3,k4,k5⟩:=bY hB) | (go_at_call 38;refine(h108 _).mono ?_;clear h108;rintro _ wn ⟨rfl,hbn⟩;replace hB:=hB.trans (hbn.mono hB.size);obtain⟨k0,k1,k2,k3,k4,k5⟩:=bY hB) | (go_at_call 39;refine(h109 _).mono ?_;clear h109;rintro _ wn ⟨rfl,hbn⟩;replace hB:=hB.trans (hbn.mono hB.size);obtain⟨k0,k1,k2,k3,k4,k5⟩:=bY hB))
       go_ret
       exact⟨by rw[<-hr];simp,((Below.refl _ w).alloc (aK _) _).trans (hB.mono (by simp))⟩
      case true=>
       go_wp2_with (first | (go_at_call 34;refine(h105 _).mono ?_;clear h105;rintro _ wn ⟨rfl,hbn⟩;replace hB:=hB.trans (hbn.mono hB.size);obtain⟨k0,k1,k2,k3,k4,k5⟩:=bY hB) | (go_at_call 35;refine(h90 _).mono ?_;clear h90;rintro _ wn ⟨rfl,hbn⟩;replace hB:=hB.trans (hbn.mono hB.size);obtain⟨k0,k1,k2,k3,k4,k5⟩:=bY hB) | (go_at_call 31;refine(h99 _).mono ?_;clear h99;rintro _ wn ⟨rfl,hbn⟩;replace hB:=hB.trans (hbn.mono hB.size);obtain⟨k0,k1,k2,k3,k4,k5⟩:=bY hB) | (go_at_call 36;refine(h106 _).mono ?_;clear h106;rintro _ wn ⟨rfl,hbn⟩;replace hB:=hB.trans (hbn.mono hB.size);obtain⟨k0,k1,k2,k3,k4,k5⟩:=bY hB) | (go_at_call 37;refine(h107 _).mono ?_;clear h107;rintro _ wn ⟨rfl,hbn⟩;replace hB:=hB.trans (hbn.mono hB.size);obtain⟨k0,k1,k2,k3,k4,k5⟩:=bY hB) | (go_at_call 38;refine(h108 _).mono ?_;clear h108;rintro _ wn ⟨rfl,hbn⟩;replace hB:=hB.trans (hbn.mono hB.size);obtain⟨k0,k1,k2,k3,k4,k5⟩:=bY hB) | (go_at_call 39;refine(h109 _).mono ?_;clear h109;rintro _ wn ⟨rfl,hbn⟩;replace hB:=hB.trans (hbn.mono hB.size);obtain⟨k0,k1,k2,k3,k4,k5⟩:=bY hB))
       go_ret
       exact⟨by rw[<-hr];simp,((Below.refl _ w).alloc (aK _) _).trans (hB.mono (by simp))⟩
end
set_option maxHeartbeats 0
def aDq (x:Int):Bool:=decide (x=0\/x=1)
theorem aP9:Sat prog cxT 64 (c64 λx=>some (aDq x)):=s64 _ λx t h=>by cases h;exact⟨0,aFl⟩
def qR (k n:Int):Bool:=if k=1\/k=2 then xK n else if k=3 then aCl n else if k=9 then aDq n else nY n
theorem aJp (x:Int):decide ((0:Int)<=x/\x<=1)=aDq x:=by
 unfold aDq;by_cases h:x=0\/x=1
 ·rw[dt h,dt (by omega)]
 ·rw[df h,df (by omega)]
theorem aQl:Sat prog cxT 38 (c38 λx=>some (qR x.1 x.2.2.2.2.1)):=s38 _ _ sR aKP _ λx t h=>by
 obtain⟨k,b,c,d,n,p⟩:=x;cases h;refine⟨0,?_⟩;show g38 _ _ 0 k b c d n p=some (qR k n);unfold g38 qR;simp only[bT];by_cases h1:k=1
 ·subst h1;rfl
 by_cases h2:k=2
 ·subst h2;rfl
 by_cases h3:k=3
 ·subst h3;rfl
 by_cases h9:k=9
 ·subst h9;show some (decide ((0:Int)<=n/\n<=1))=some (aDq n);rw[aJp]
 rw[aI5 h1,aI5 h2,aI5 h3,aI5 h9,if_neg (by omega),if_neg h3,if_neg h9]
 rfl
def cmF (x:Cm):Int:=
  if 1<=x.1/\x.1<=9 then
    (bif (x.2.1 != -1&&!nD x.2.1) || ((nd x.1).1&&!pH x.2.2.1) || ((nd x.1).2.1&&!oG x.2.2.2.1) || ((nd x.1).2.2.1&&!qR x.1 x.2.2.2.2.1) || ((nd x.1).2.2.2&&!uO x.2.2.2.2.2)then 3
     else bif (!(nd x.1).1&&x.2.2.1 != 0) || (!(nd x.1).2.1&&x.2.2.2.1 != 0) || (!(nd x.1).2.2.1&&x.2.2.2.2.1 != 0) || (!(nd x.1).2.2.2&&x.2.2.2.2.2 != 0)then 1 else 0)
  else 1
theorem aTs (n:Int):CB 45 #[.int .i64 n] (.bool (nD n)):=gZ aKW (λ_=>iZ [.int .i64 n]) rfl
theorem aXr (n:Int):CB 50 #[.int .i64 n] (.bool (pH n)):=gZ aKU (λ_=>iZ [.int .i64 n]) rfl
theorem aXq (n:Int):CB 51 #[.int .i64 n] (.bool (oG n)):=gZ aHI (λ_=>iZ [.int .i64 n]) rfl
theorem aXp (n:Int):CB 52 #[.int .i64 n] (.bool (xK n)):=gZ aKT (λ_=>iZ [.int .i64 n]) rfl
theorem aXo (n:Int):CB 55 #[.int .i64 n] (.bool (aCl n)):=gZ aKS (λ_=>iZ [.int .i64 n]) rfl
theorem aXn (n:Int):CB 58 #[.int .i64 n] (.bool (nY n)):=gZ aKR (λ_=>iZ [.int .i64 n]) rfl
theorem aXm (n:Int):CB 59 #[.int .i64 n] (.bool (uO n)):=gZ aKQ (λ_=>iZ [.int .i64 n]) rfl
theorem aXl (n:Int):CB 64 #[.int .i64 n] (.bool (aDq n)):=gZ aP9 (λ_=>iZ [.int .i64 n]) rfl
theorem aC9 (n:Int):CB 31 #[.int .i64 n] (.bool (nD n)):=gZ aKZ (λ_=>iZ [.int .i64 n]) rfl
theorem aFk (n:Int):CB 36 #[.int .i64 n] (.bool (pH n)):=gZ aKY (λ_=>iZ [.int .i64 n]) rfl
theorem aIV (n:Int):CB 37 #[.int .i64 n] (.bool (oG n)):=gZ aHJ (λ_=>iZ [.int .i64 n]) rfl
theorem aKt (n:Int):CB 39 #[.int .i64 n] (.bool (uO n)):=gZ aKX (λ_=>iZ [.int .i64 n]) rfl
theorem aXu (a b c:Int):CB 34 #[.int .i64 a,.int .i64 b,.int .i64 c] (.bool (decide (b<=a/\a<=c))):=gZ sR (λ_=>iZ [.int .i64 a,.int .i64 b,.int .i64 c]) rfl
def cV (x:Cm):List Value:=[.int .i64 x.1,.int .i64 x.2.1,.int .i64 x.2.2.1,.int .i64 x.2.2.2.1,.int .i64 x.2.2.2.2.1,.int .i64 x.2.2.2.2.2]
theorem aXs (x:Cm):CB 38 #[.agg (cV x).toArray] (.bool (qR x.1 x.2.2.2.2.1)):=gZ aQl (λ_=>aEq (cV x)) rfl
theorem aXt (k:Int):CB 35 #[.int .i64 k] (.tuple #[.bool (nd k).1,.bool (nd k).2.1,.bool (nd k).2.2.1,.bool (nd k).2.2.2]):=aIW (vs:=[.bool (nd k).1,.bool (nd k).2.1,.bool (nd k).2.2.1,.bool (nd k).2.2.2]) aQm (λ_=>iZ [.int .i64 k]) rfl
theorem aTt {k:Int}(hk:1<=k/\k<=9):CB 24 #[.int .i64 k] (.agg (ruL k).toArray):=aIX (vs:=ruL k) aQv (λ_=>iZ [.int .i64 k]) (if_pos hk)
theorem aEK (n:Int):Rl n (pB 50) (some (pH n)):=.yes 50 _ (λ_ _=>by kernel_rfl) (aXr n)
theorem aHR (n:Int):Rl n (pB 51) (some (oG n)):=.yes 51 _ (λ_ _=>by kernel_rfl) (aXq n)
theorem aQI (n:Int):Rl n (pB 52) (some (xK n)):=.yes 52 _ (λ_ _=>by kernel_rfl) (aXp n)
theorem aVr (n:Int):Rl n (pB 55) (some (aCl n)):=.yes 55 _ (λ_ _=>by kernel_rfl) (aXo n)
theorem aJG (n:Int):Rl n (pB 58) (some (nY n)):=.yes 58 _ (λ_ _=>by kernel_rfl) (aXn n)
theorem aJF (n:Int):Rl n (pB 59) (some (uO n)):=.yes 59 _ (λ_ _=>by kernel_rfl) (aXm n)
theorem aVq (n:Int):Rl n (pB 64) (some (aDq n)):=.yes 64 _ (λ_ _=>by kernel_rfl) (aXl n)
def osK (k c d e f:Int):List (Option Bool):=
 if k=1 then[some (pH c),some (oG d),some (xK e),none]else
 if k=2 then[some (pH c),none,some (xK e),none]else
 if k=3 then[some (pH c),none,some (aCl e),none]else
 if k=4 then[some (pH c),none,none,none]else
 if k=5\/k=6 then[none,some (oG d),some (nY e),some (uO f)]else
 if k=7\/k=8 then[some (pH c),some (oG d),some (nY e),some (uO f)]else
 [some (pH c),none,some (aDq e),none]
theorem aMG {k:Int}(hk:1<=k/\k<=9):k=1\/k=2\/k=3\/k=4\/k=5\/k=6\/k=7\/k=8\/k=9:=by omega
theorem aQH (k c d e f:Int)(hk:1<=k/\k<=9):∃ r0 r1 r2 r3 fa o0 o1 o2 o3,ruL k=[r0,r1,r2,r3,.func (.func fa) #[] #[]]/\osK k c d e f=[o0,o1,o2,o3]/\Rl c r0 o0/\Rl d r1 o1/\Rl e r2 o2/\Rl f r3 o3:=by
 rcases aMG hk with rfl | rfl | rfl | rfl | rfl | rfl | rfl | rfl | rfl
 ·exact⟨_,_,_,_,_,_,_,_,_,rfl,rfl,aEK c,aHR d,aQI e,.no⟩
 ·exact⟨_,_,_,_,_,_,_,_,_,rfl,rfl,aEK c,.no,aQI e,.no⟩
 ·exact⟨_,_,_,_,_,_,_,_,_,rfl,rfl,aEK c,.no,aVr e,.no⟩
 ·exact⟨_,_,_,_,_,_,_,_,_,rfl,rfl,aEK c,.no,.no,.no⟩
 ·exact⟨_,_,_,_,_,_,_,_,_,rfl,rfl,.no,aHR d,aJG e,aJF f⟩
 ·exact⟨_,_,_,_,_,_,_,_,_,rfl,rfl,.no,aHR d,aJG e,aJF f⟩
 ·exact⟨_,_,_,_,_,_,_,_,_,rfl,rfl,aEK c,aHR d,aJG e,aJF f⟩
 ·exact⟨_,_,_,_,_,_,_,_,_,rfl,rfl,aEK c,aHR d,aJG e,aJF f⟩
 ·exact⟨_,_,_,_,_,_,_,_,_,rfl,rfl,aEK c,.no,aVq e,.no⟩
def fR (n1 n2 n3 n4 z2 z3 z4 z5:Bool)(c d e f:Int):Int:=
 bif (n1&&!z2) || (n2&&!z3) || (n3&&!z4) || (n4&&!z5)then 3 else bif (!n1&&c != 0) || (!n2&&d != 0) || (!n3&&e != 0) || (!n4&&f != 0)then 1 else 0
theorem aIS {k b c d e f:Int}(hk:1<=k/\k<=9):cmF (k,b,c,d,e,f)=bif (b != -1&&!nD b)then 3 else fR (nd k).1 (nd k).2.1 (nd k).2.2.1 (nd k).2.2.2 (pH c) (oG d) (qR k e) (uO f) c d e f:=by
 unfold cmF fR;rw[if_pos hk];simp only
 generalize (b != -1&&!nD b)=g
 cases g<;>rfl
end Go.Proofs.Tryz
