/- A part of the proof of FnExactServeFrom: LtQgb, LtQgc. -/
import Derived.Test.YtnmnomckcjihoaaGreatLtQa
set_option linter.unusedSimpArgs false
set_option linter.unusedVariables false
namespace Go.Proofs.Tryz
open Go Go.VM Go.RowKit
section
attribute [local go_sem] Oper.semAt_some
theorem cL {w w1:World}{t:TypeId}{v0 v1 v2 v3 v4 v5:Value}(h:Below (w.alloc (.cells #[v0,v1,v2,v3,v4,v5] t)).heap.size (w.alloc (.cells #[v0,v1,v2,v3,v4,v5] t)) w1) :
  w1.cell? ⟨w.heap.size,0,none⟩=some v0/\w1.cell? ⟨w.heap.size,1,none⟩=some v1/\w1.cell? ⟨w.heap.size,2,none⟩=some v2/\w1.cell? ⟨w.heap.size,3,none⟩=some v3/\w1.cell? ⟨w.heap.size,4,none⟩=some v4/\w1.cell? ⟨w.heap.size,5,none⟩=some v5:=by
 have q:=(h.block w.heap.size (by simp)).trans (World.alloc_heap_new w _);refine⟨?_,?_,?_,?_,?_,?_⟩<;>simp[World.cell?,q]
set_option maxRecDepth 100000 in
set_option maxHeartbeats 8000000 in
theorem aGt (k b c d e f:Int)(z0 z1:Bool)(hz:(b != -1)=z0)(h105:CB 34 #[.int .i64 k,.int .i64 1,.int .i64 9] (.bool true))(h90:CB 50 #[.int .i64 k] (.tuple #[.bool true,.bool false,.bool true,.bool false]))(h99:CB 24 #[.int .i64 b] (.bool z1))(z2:Bool)(h106:CB 51 #[.int .i64 c] (.bool z2))(z4:Bool)(h108:CB 53 #[.agg #[.int .i64 k,.int .i64 b,.int .i64 c,.int .i64 d,.int .i64 e,.int .i64 f]] (.bool z4))(r:Int)(hr:(bif (z0&&!z1) || !z2 || !z4 then 3 else if d≠0\/f≠0 then 1 else 0)=r)(w:World) :
  Calls prog 27 #[.agg #[.int .i64 k,.int .i64 b,.int .i64 c,.int .i64 d,.int .i64 e,.int .i64 f]] w λe' w'=>e'=.returned (.int .i64 r)/\Below w.heap.size w w':=by
 have hB:=Below.refl (w.alloc (.cells #[.int .i64 k,.int .i64 b,.int .i64 c,.int .i64 d,.int .i64 e,.int .i64 f] 64)).heap.size (w.alloc (.cells #[.int .i64 k,.int .i64 b,.int .i64 c,.int .i64 d,.int .i64 e,.int .i64 f] 64))
 go_enter func27,ntmps27
 by_cases hb:b=-1
 ·subst hb;have hz0:z0=false:=by rw[<-hz];rfl
  subst hz0;cases z2
  case false=>
   go_wp2_with (first | (go_at_call 34;refine(h105 _).mono ?_;clear h105;rintro _ wn ⟨rfl,hbn⟩;replace hB:=hB.trans (hbn.mono hB.size);obtain⟨k0,k1,k2,k3,k4,k5⟩:=cL hB) | (go_at_call 50;refine(h90 _).mono ?_;clear h90;rintro _ wn ⟨rfl,hbn⟩;replace hB:=hB.trans (hbn.mono hB.size);obtain⟨k0,k1,k2,k3,k4,k5⟩:=cL hB) | (go_at_call 24;refine(h99 _).mono ?_;clear h99;rintro _ wn ⟨rfl,hbn⟩;replace hB:=hB.trans (hbn.mono hB.size);obtain⟨k0,k1,k2,k3,k4,k5⟩:=cL hB) | (go_at_call 51;refine(h106 _).mono ?_;clear h106;rintro _ wn ⟨rfl,hbn⟩;replace hB:=hB.trans (hbn.mono hB.size);obtain⟨k0,k1,k2,k3,k4,k5⟩:=cL hB) | (go_at_call 53;refine(h108 _).mono ?_;clear h108;rintro _ wn ⟨rfl,hbn⟩;replace hB:=hB.trans (hbn.mono hB.size);obtain⟨k0,k1,k2,k3,k4,k5⟩:=cL hB))
   go_ret
   exact⟨by rw[<-hr];simp,((Below.refl _ w).alloc (aK _) _).trans (hB.mono (by simp))⟩
  case true=>
   cases z4
   case false=>
    go_wp2_with (first | (go_at_call 34;refine(h105 _).mono ?_;clear h105;rintro _ wn ⟨rfl,hbn⟩;replace hB:=hB.trans (hbn.mono hB.size);obtain⟨k0,k1,k2,k3,k4,k5⟩:=cL hB) | (go_at_call 50;refine(h90 _).mono ?_;clear h90;rintro _ wn ⟨rfl,hbn⟩;replace hB:=hB.trans (hbn.mono hB.size);obtain⟨k0,k1,k2,k3,k4,k5⟩:=cL hB) | (go_at_call 24;refine(h99 _).mono ?_;clear h99;rintro _ wn ⟨rfl,hbn⟩;replace hB:=hB.trans (hbn.mono hB.size);obtain⟨k0,k1,k2,k3,k4,k5⟩:=cL hB) | (go_at_call 51;refine(h106 _).mono ?_;clear h106;rintro _ wn ⟨rfl,hbn⟩;replace hB:=hB.trans (hbn.mono hB.size);obtain⟨k0,k1,k2,k3,k4,k5⟩:=cL hB) | (go_at_call 53;refine(h108 _).mono ?_;clear h108;rintro _ wn ⟨rfl,hbn⟩;replace hB:=hB.trans (hbn.mono hB.size);obtain⟨k0,k1,k2,k3,k4,k5⟩:=cL hB))
    go_ret
    exact⟨by rw[<-hr];simp,((Below.refl _ w).alloc (aK _) _).trans (hB.mono (by simp))⟩
   case true=>
    by_cases hv1:d=0
    ·subst hv1;by_cases hv3:f=0
     ·subst hv3
      go_wp2_with (first | (go_at_call 34;refine(h105 _).mono ?_;clear h105;rintro _ wn ⟨rfl,hbn⟩;replace hB:=hB.trans (hbn.mono hB.size);obtain⟨k0,k1,k2,k3,k4,k5⟩:=cL hB) | (go_at_call 50;refine(h90 _).mono ?_;clear h90;rintro _ wn ⟨rfl,hbn⟩;replace hB:=hB.trans (hbn.mono hB.size);obtain⟨k0,k1,k2,k3,k4,k5⟩:=cL hB) | (go_at_call 24;refine(h99 _).mono ?_;clear h99;rintro _ wn ⟨rfl,hbn⟩;replace hB:=hB.trans (hbn.mono hB.size);obtain⟨k0,k1,k2,k3,k4,k5⟩:=cL hB) | (go_at_call 51;refine(h106 _).mono ?_;clear h106;rintro _ wn ⟨rfl,hbn⟩;replace hB:=hB.trans (hbn.mono hB.size);obtain⟨k0,k1,k2,k3,k4,k5⟩:=cL hB) | (go_at_call 53;refine(h108 _).mono ?_;clear h108;rintro _ wn ⟨rfl,hbn⟩;replace hB:=hB.trans (hbn.mono hB.size);obtain⟨k0,k1,k2,k3,k4,k5⟩:=cL hB))
      go_ret
      exact⟨by rw[<-hr];simp,((Below.refl _ w).alloc (aK _) _).trans (hB.mono (by simp))⟩
     ·skip
      go_wp2_with (first | (go_at_call 34;refine(h105 _).mono ?_;clear h105;rintro _ wn ⟨rfl,hbn⟩;replace hB:=hB.trans (hbn.mono hB.size);obtain⟨k0,k1,k2,k3,k4,k5⟩:=cL hB) | (go_at_call 50;refine(h90 _).mono ?_;clear h90;rintro _ wn ⟨rfl,hbn⟩;replace hB:=hB.trans (hbn.mono hB.size);obtain⟨k0,k1,k2,k3,k4,k5⟩:=cL hB) | (go_at_call 24;refine(h99 _).mono ?_;clear h99;rintro _ wn ⟨rfl,hbn⟩;replace hB:=hB.trans (hbn.mono hB.size);obtain⟨k0,k1,k2,k3,k4,k5⟩:=cL hB) | (go_at_call 51;refine(h106 _).mono ?_;clear h106;rintro _ wn ⟨rfl,hbn⟩;replace hB:=hB.trans (hbn.mono hB.size);obtain⟨k0,k1,k2,k3,k4,k5⟩:=cL hB) | (go_at_call 53;refine(h108 _).mono ?_;clear h108;rintro _ wn ⟨rfl,hbn⟩;replace hB:=hB.trans (hbn.mono hB.size);obtain⟨k0,k1,k2,k3,k4,k5⟩:=cL hB))
      go_ret
      exact⟨by rw[<-hr];simp[hv3],((Below.refl _ w).alloc (aK _) _).trans (hB.mono (by simp))⟩
    ·skip
     go_wp2_with (first | (go_at_call 34;refine(h105 _).mono ?_;clear h105;rintro _ wn ⟨rfl,hbn⟩;replace hB:=hB.trans (hbn.mono hB.size);obtain⟨k0,k1,k2,k3,k4,k5⟩:=cL hB) | (go_at_call 50;refine(h90 _).mono ?_;clear h90;rintro _ wn ⟨rfl,hbn⟩;replace hB:=hB.trans (hbn.mono hB.size);obtain⟨k0,k1,k2,k3,k4,k5⟩:=cL hB) | (go_at_call 24;refine(h99 _).mono ?_;clear h99;rintro _ wn ⟨rfl,hbn⟩;replace hB:=hB.trans (hbn.mono hB.size);obtain⟨k0,k1,k2,k3,k4,k5⟩:=cL hB) | (go_at_call 51;refine(h106 _).mono ?_;clear h106;rintro _ wn ⟨rfl,hbn⟩;replace hB:=hB.trans (hbn.mono hB.size);obtain⟨k0,k1,k2,k3,k4,k5⟩:=cL hB) | (go_at_call 53;refine(h108 _).mono ?_;clear h108;rintro _ wn ⟨rfl,hbn⟩;replace hB:=hB.trans (hbn.mono hB.size);obtain⟨k0,k1,k2,k3,k4,k5⟩:=cL hB))
     go_ret
     exact⟨by rw[<-hr];simp[hv1],((Below.refl _ w).alloc (aK _) _).trans (hB.mono (by simp))⟩
 ·have hz0:z0=true:=by rw[<-hz];simpa using hb
  subst hz0;cases z1
  case false=>
   go_wp2_with (first | (go_at_call 34;refine(h105 _).mono ?_;clear h105;rintro _ wn ⟨rfl,hbn⟩;replace hB:=hB.trans (hbn.mono hB.size);obtain⟨k0,k1,k2,k3,k4,k5⟩:=cL hB) | (go_at_call 50;refine(h90 _).mono ?_;clear h90;rintro _ wn ⟨rfl,hbn⟩;replace hB:=hB.trans (hbn.mono hB.size);obtain⟨k0,k1,k2,k3,k4,k5⟩:=cL hB) | (go_at_call 24;refine(h99 _).mono ?_;clear h99;rintro _ wn ⟨rfl,hbn⟩;replace hB:=hB.trans (hbn.mono hB.size);obtain⟨k0,k1,k2,k3,k4,k5⟩:=cL hB) | (go_at_call 51;refine(h106 _).mono ?_;clear h106;rintro _ wn ⟨rfl,hbn⟩;replace hB:=hB.trans (hbn.mono hB.size);obtain⟨k0,k1,k2,k3,k4,k5⟩:=cL hB) | (go_at_call 53;refine(h108 _).mono ?_;clear h108;rintro _ wn ⟨rfl,hbn⟩;replace hB:=hB.trans (hbn.mono hB.size);obtain⟨k0,k1,k2,k3,k4,k5⟩:=cL hB))
   go_ret
   exact⟨by rw[<-hr];simp,((Below.refl _ w).alloc (aK _) _).trans (hB.mono (by simp))⟩
  case true=>
   cases z2
   case false=>
    go_wp2_with (first | (go_at_call 34;refine(h105 _).mono ?_;clear h105;rintro _ wn ⟨rfl,hbn⟩;replace hB:=hB.trans (hbn.mono hB.size);obtain⟨k0,k1,k2,k3,k4,k5⟩:=cL hB) | (go_at_call 50;refine(h90 _).mono ?_;clear h90;rintro _ wn ⟨rfl,hbn⟩;replace hB:=hB.trans (hbn.mono hB.size);obtain⟨k0,k1,k2,k3,k4,k5⟩:=cL hB) | (go_at_call 24;refine(h99 _).mono ?_;clear h99;rintro _ wn ⟨rfl,hbn⟩;replace hB:=hB.trans (hbn.mono hB.size);obtain⟨k0,k1,k2,k3,k4,k5⟩:=cL hB) | (go_at_call 51;refine(h106 _).mono ?_;clear h106;rintro _ wn ⟨rfl,hbn⟩;replace hB:=hB.trans (hbn.mono hB.size);obtain⟨k0,k1,k2,k3,k4,k5⟩:=cL hB) | (go_at_call 53;refine(h108 _).mono ?_;clear h108;rintro _ wn ⟨rfl,hbn⟩;replace hB:=hB.trans (hbn.mono hB.size);obtain⟨k0,k1,k2,k3,k4,k5⟩:=cL hB))
    go_ret
    exact⟨by rw[<-hr];simp,((Below.refl _ w).alloc (aK _) _).trans (hB.mono (by simp))⟩
   case true=>
    cases z4
    case false=>
     go_wp2_with (first | (go_at_call 34;refine(h105 _).mono ?_;clear h105;rintro _ wn ⟨rfl,hbn⟩;replace hB:=hB.trans (hbn.mono hB.size);obtain⟨k0,k1,k2,k3,k4,k5⟩:=cL hB) | (go_at_call 50;refine(h90 _).mono ?_;clear h90;rintro _ wn ⟨rfl,hbn⟩;replace hB:=hB.trans (hbn.mono hB.size);obtain⟨k0,k1,k2,k3,k4,k5⟩:=cL hB) | (go_at_call 24;refine(h99 _).mono ?_;clear h99;rintro _ wn ⟨rfl,hbn⟩;replace hB:=hB.trans (hbn.mono hB.size);obtain⟨k0,k1,k2,k3,k4,k5⟩:=cL hB) | (go_at_call 51;refine(h106 _).mono ?_;clear h106;rintro _ wn ⟨rfl,hbn⟩;replace hB:=hB.trans (hbn.mono hB.size);obtain⟨k0,k1,k2,k3,k4,k5⟩:=cL hB) | (go_at_call 53;refine(h108 _).mono ?_;clear h108;rintro _ wn ⟨rfl,hbn⟩;replace hB:=hB.trans (hbn.mono hB.size);obtain⟨k0,k1,k2,k3,k4,k5⟩:=cL hB))
     go_ret
     exact⟨by rw[<-hr];simp,((Below.refl _ w).alloc (aK _) _).trans (hB.mono (by simp))⟩
    case true=>
     by_cases hv1:d=0
     ·subst hv1;by_cases hv3:f=0
      ·subst hv3
       go_wp2_with (first | (go_at_call 34;refine(h105 _).mono ?_;clear h105;rintro _ wn ⟨rfl,hbn⟩;replace hB:=hB.trans (hbn.mono hB.size);obtain⟨k0,k1,k2,k3,k4,k5⟩:=cL hB) | (go_at_call 50;refine(h90 _).mono ?_;clear h90;rintro _ wn ⟨rfl,hbn⟩;replace hB:=hB.trans (hbn.mono hB.size);obtain⟨k0,k1,k2,k3,k4,k5⟩:=cL hB) | (go_at_call 24;refine(h99 _).mono ?_;clear h99;rintro _ wn ⟨rfl,hbn⟩;replace hB:=hB.trans (hbn.mono hB.size);obtain⟨k0,k1,k2,k3,k4,k5⟩:=cL hB) | (go_at_call 51;refine(h106 _).mono ?_;clear h106;rintro _ wn ⟨rfl,hbn⟩;replace hB:=hB.trans (hbn.mono hB.size);obtain⟨k0,k1,k2,k3,k4,k5⟩:=cL hB) | (go_at_call 53;refine(h108 _).mono ?_;clear h108;rintro _ wn ⟨rfl,hbn⟩;replace hB:=hB.trans (hbn.mono hB.size);obtain⟨k0,k1,k2,k3,k4,k5⟩:=cL hB))
       go_ret
       exact⟨by rw[<-hr];simp,((Below.refl _ w).alloc (aK _) _).trans (hB.mono (by simp))⟩
      ·skip
       go_wp2_with (first | (go_at_call 34;refine(h105 _).mono ?_;clear h105;rintro _ wn ⟨rfl,hbn⟩;replace hB:=hB.trans (hbn.mono hB.size);obtain⟨k0,k1,k2,k3,k4,k5⟩:=cL hB) | (go_at_call 50;refine(h90 _).mono ?_;clear h90;rintro _ wn ⟨rfl,hbn⟩;replace hB:=hB.trans (hbn.mono hB.size);obtain⟨k0,k1,k2,k3,k4,k5⟩:=cL hB) | (go_at_call 24;refine(h99 _).mono ?_;clear h99;rintro _ wn ⟨rfl,hbn⟩;replace hB:=hB.trans (hbn.mono hB.size);obtain⟨k0,k1,k2,k3,k4,k5⟩:=cL hB) | (go_at_call 51;refine(h106 _).mono ?_;clear h106;rintro _ wn ⟨rfl,hbn⟩;replace hB:=hB.trans (hbn.mono hB.size);obtain⟨k0,k1,k2,k3,k4,k5⟩:=cL hB) | (go_at_call 53;refine(h108 _).mono ?_;clear h108;rintro _ wn ⟨rfl,hbn⟩;replace hB:=hB.trans (hbn.mono hB.size);obtain⟨k0,k1,k2,k3,k4,k5⟩:=cL hB))
       go_ret
       exact⟨by rw[<-hr];simp[hv3],((Below.refl _ w).alloc (aK _) _).trans (hB.mono (by simp))⟩
     ·skip
      go_wp2_with (first | (go_at_call 34;refine(h105 _).mono ?_;clear h105;rintro _ wn ⟨rfl,hbn⟩;replace hB:=hB.trans (hbn.mono hB.size);obtain⟨k0,k1,k2,k3,k4,k5⟩:=cL hB) | (go_at_call 50;refine(h90 _).mono ?_;clear h90;rintro _ wn ⟨rfl,hbn⟩;replace hB:=hB.trans (hbn.mono hB.size);obtain⟨k0,k1,k2,k3,k4,k5⟩:=cL hB) | (go_at_call 24;refine(h99 _).mono ?_;clear h99;rintro _ wn ⟨rfl,hbn⟩;replace hB:=hB.trans (hbn.mono hB.size);obtain⟨k0,k1,k2,k3,k4,k5⟩:=cL hB) | (go_at_call 51;refine(h106 _).mono ?_;clear h106;rintro _ wn ⟨rfl,hbn⟩;replace hB:=hB.trans (hbn.mono hB.size);obtain⟨k0,k1,k2,k3,k4,k5⟩:=cL hB) | (go_at_call 53;refine(h108 _).mono ?_;clear h108;rintro _ wn ⟨rfl,hbn⟩;replace hB:=hB.trans (hbn.mono hB.size);obtain⟨k0,k1,k2,k3,k4,k5⟩:=cL hB))
      go_ret
      exact⟨by rw[<-hr];simp[hv1],((Below.refl _ w).alloc (aK _) _).trans (hB.mono (by simp))⟩
end
end Go.Proofs.Tryz
namespace Go.Proofs.Tryz
open Go Go.VM Go.RowKit
section
attribute [local go_sem] Oper.semAt_some
theorem cX {w w1:World}{t:TypeId}{v0 v1 v2 v3 v4 v5:Value}(h:Below (w.alloc (.cells #[v0,v1,v2,v3,v4,v5] t)).heap.size (w.alloc (.cells #[v0,v1,v2,v3,v4,v5] t)) w1) :
  w1.cell? ⟨w.heap.size,0,none⟩=some v0/\w1.cell? ⟨w.heap.size,1,none⟩=some v1/\w1.cell? ⟨w.heap.size,2,none⟩=some v2/\w1.cell? ⟨w.heap.size,3,none⟩=some v3/\w1.cell? ⟨w.heap.size,4,none⟩=some v4/\w1.cell? ⟨w.heap.size,5,none⟩=some v5:=by
 have q:=(h.block w.heap.size (by simp)).trans (World.alloc_heap_new w _);refine⟨?_,?_,?_,?_,?_,?_⟩<;>simp[World.cell?,q]
set_option maxRecDepth 100000 in
set_option maxHeartbeats 8000000 in
theorem aPr (k b c d e f:Int)(z0 z1:Bool)(hz:(b != -1)=z0)(h105:CB 34 #[.int .i64 k,.int .i64 1,.int .i64 9] (.bool true))(h90:CB 50 #[.int .i64 k] (.tuple #[.bool true,.bool false,.bool false,.bool false]))(h99:CB 24 #[.int .i64 b] (.bool z1))(z2:Bool)(h106:CB 51 #[.int .i64 c] (.bool z2))(r:Int)(hr:(bif (z0&&!z1) || !z2 then 3 else if d≠0\/e≠0\/f≠0 then 1 else 0)=r)(w:World) :
  Calls prog 27 #[.agg #[.int .i64 k,.int .i64 b,.int .i64 c,.int .i64 d,.int .i64 e,.int .i64 f]] w λe' w'=>e'=.returned (.int .i64 r)/\Below w.heap.size w w':=by
 have hB:=Below.refl (w.alloc (.cells #[.int .i64 k,.int .i64 b,.int .i64 c,.int .i64 d,.int .i64 e,.int .i64 f] 64)).heap.size (w.alloc (.cells #[.int .i64 k,.int .i64 b,.int .i64 c,.int .i64 d,.int .i64 e,.int .i64 f] 64))
 go_enter func27,ntmps27
 by_cases hb:b=-1
 ·subst hb;have hz0:z0=false:=by rw[<-hz];rfl
  subst hz0;cases z2
  case false=>
   go_wp2_with (first | (go_at_call 34;refine(h105 _).mono ?_;clear h105;rintro _ wn ⟨rfl,hbn⟩;replace hB:=hB.trans (hbn.mono hB.size);obtain⟨k0,k1,k2,k3,k4,k5⟩:=cX hB) | (go_at_call 50;refine(h90 _).mono ?_;clear h90;rintro _ wn ⟨rfl,hbn⟩;replace hB:=hB.trans (hbn.mono hB.size);obtain⟨k0,k1,k2,k3,k4,k5⟩:=cX hB) | (go_at_call 24;refine(h99 _).mono ?_;clear h99;rintro _ wn ⟨rfl,hbn⟩;replace hB:=hB.trans (hbn.mono hB.size);obtain⟨k0,k1,k2,k3,k4,k5⟩:=cX hB) | (go_at_call 51;refine(h106 _).mono ?_;clear h106;rintro _ wn ⟨rfl,hbn⟩;replace hB:=hB.trans (hbn.mono hB.size);obtain⟨k0,k1,k2,k3,k4,k5⟩:=cX hB))
   go_ret
   exact⟨by rw[<-hr];simp,((Below.refl _ w).alloc (aK _) _).trans (hB.mono (by simp))⟩
  case true=>
   by_cases hv1:d=0
   ·subst hv1;by_cases hv2:e=0
    ·subst hv2;by_cases hv3:f=0
     ·subst hv3
      go_wp2_with (first | (go_at_call 34;refine(h105 _).mono ?_;clear h105;rintro _ wn ⟨rfl,hbn⟩;replace hB:=hB.trans (hbn.mono hB.size);obtain⟨k0,k1,k2,k3,k4,k5⟩:=cX hB) | (go_at_call 50;refine(h90 _).mono ?_;clear h90;rintro _ wn ⟨rfl,hbn⟩;replace hB:=hB.trans (hbn.mono hB.size);obtain⟨k0,k1,k2,k3,k4,k5⟩:=cX hB) | (go_at_call 24;refine(h99 _).mono ?_;clear h99;rintro _ wn ⟨rfl,hbn⟩;replace hB:=hB.trans (hbn.mono hB.size);obtain⟨k0,k1,k2,k3,k4,k5⟩:=cX hB) | (go_at_call 51;refine(h106 _).mono ?_;clear h106;rintro _ wn ⟨rfl,hbn⟩;replace hB:=hB.trans (hbn.mono hB.size);obtain⟨k0,k1,k2,k3,k4,k5⟩:=cX hB))
      go_ret
      exact⟨by rw[<-hr];simp,((Below.refl _ w).alloc (aK _) _).trans (hB.mono (by simp))⟩
     ·skip
      go_wp2_with (first | (go_at_call 34;refine(h105 _).mono ?_;clear h105;rintro _ wn ⟨rfl,hbn⟩;replace hB:=hB.trans (hbn.mono hB.size);obtain⟨k0,k1,k2,k3,k4,k5⟩:=cX hB) | (go_at_call 50;refine(h90 _).mono ?_;clear h90;rintro _ wn ⟨rfl,hbn⟩;replace hB:=hB.trans (hbn.mono hB.size);obtain⟨k0,k1,k2,k3,k4,k5⟩:=cX hB) | (go_at_call 24;refine(h99 _).mono ?_;clear h99;rintro _ wn ⟨rfl,hbn⟩;replace hB:=hB.trans (hbn.mono hB.size);obtain⟨k0,k1,k2,k3,k4,k5⟩:=cX hB) | (go_at_call 51;refine(h106 _).mono ?_;clear h106;rintro _ wn ⟨rfl,hbn⟩;replace hB:=hB.trans (hbn.mono hB.size);obtain⟨k0,k1,k2,k3,k4,k5⟩:=cX hB))
      go_ret
      exact⟨by rw[<-hr];simp[hv3],((Below.refl _ w).alloc (aK _) _).trans (hB.mono (by simp))⟩
    ·skip
     go_wp2_with (first | (go_at_call 34;refine(h105 _).mono ?_;clear h105;rintro _ wn ⟨rfl,hbn⟩;replace hB:=hB.trans (hbn.mono hB.size);obtain⟨k0,k1,k2,k3,k4,k5⟩:=cX hB) | (go_at_call 50;refine(h90 _).mono ?_;clear h90;rintro _ wn ⟨rfl,hbn⟩;replace hB:=hB.trans (hbn.mono hB.size);obtain⟨k0,k1,k2,k3,k4,k5⟩:=cX hB) | (go_at_call 24;refine(h99 _).mono ?_;clear h99;rintro _ wn ⟨rfl,hbn⟩;replace hB:=hB.trans (hbn.mono hB.size);obtain⟨k0,k1,k2,k3,k4,k5⟩:=cX hB) | (go_at_call 51;refine(h106 _).mono ?_;clear h106;rintro _ wn ⟨rfl,hbn⟩;replace hB:=hB.trans (hbn.mono hB.size);obtain⟨k0,k1,k2,k3,k4,k5⟩:=cX hB))
     go_ret
     exact⟨by rw[<-hr];simp[hv2],((Below.refl _ w).alloc (aK _) _).trans (hB.mono (by simp))⟩
   ·skip
    go_wp2_with (first | (go_at_call 34;refine(h105 _).mono ?_;clear h105;rintro _ wn ⟨rfl,hbn⟩;replace hB:=hB.trans (hbn.mono hB.size);obtain⟨k0,k1,k2,k3,k4,k5⟩:=cX hB) | (go_at_call 50;refine(h90 _).mono ?_;clear h90;rintro _ wn ⟨rfl,hbn⟩;replace hB:=hB.trans (hbn.mono hB.size);obtain⟨k0,k1,k2,k3,k4,k5⟩:=cX hB) | (go_at_call 24;refine(h99 _).mono ?_;clear h99;rintro _ wn ⟨rfl,hbn⟩;replace hB:=hB.trans (hbn.mono hB.size);obtain⟨k0,k1,k2,k3,k4,k5⟩:=cX hB) | (go_at_call 51;refine(h106 _).mono ?_;clear h106;rintro _ wn ⟨rfl,hbn⟩;replace hB:=hB.trans (hbn.mono hB.size);obtain⟨k0,k1,k2,k3,k4,k5⟩:=cX hB))
    go_ret
    exact⟨by rw[<-hr];simp[hv1],((Below.refl _ w).alloc (aK _) _).trans (hB.mono (by simp))⟩
 ·have hz0:z0=true:=by rw[<-hz];simpa using hb
  subst hz0;cases z1
  case false=>
   go_wp2_with (first | (go_at_call 34;refine(h105 _).mono ?_;clear h105;rintro _ wn ⟨rfl,hbn⟩;replace hB:=hB.trans (hbn.mono hB.size);obtain⟨k0,k1,k2,k3,k4,k5⟩:=cX hB) | (go_at_call 50;refine(h90 _).mono ?_;clear h90;rintro _ wn ⟨rfl,hbn⟩;replace hB:=hB.trans (hbn.mono hB.size);obtain⟨k0,k1,k2,k3,k4,k5⟩:=cX hB) | (go_at_call 24;refine(h99 _).mono ?_;clear h99;rintro _ wn ⟨rfl,hbn⟩;replace hB:=hB.trans (hbn.mono hB.size);obtain⟨k0,k1,k2,k3,k4,k5⟩:=cX hB) | (go_at_call 51;refine(h106 _).mono ?_;clear h106;rintro _ wn ⟨rfl,hbn⟩;replace hB:=hB.trans (hbn.mono hB.size);obtain⟨k0,k1,k2,k3,k4,k5⟩:=cX hB))
   go_ret
   exact⟨by rw[<-hr];simp,((Below.refl _ w).alloc (aK _) _).trans (hB.mono (by simp))⟩
  case true=>
   cases z2
   case false=>
    go_wp2_with (first | (go_at_call 34;refine(h105 _).mono ?_;clear h105;rintro _ wn ⟨rfl,hbn⟩;replace hB:=hB.trans (hbn.mono hB.size);obtain⟨k0,k1,k2,k3,k4,k5⟩:=cX hB) | (go_at_call 50;refine(h90 _).mono ?_;clear h90;rintro _ wn ⟨rfl,hbn⟩;replace hB:=hB.trans (hbn.mono hB.size);obtain⟨k0,k1,k2,k3,k4,k5⟩:=cX hB) | (go_at_call 24;refine(h99 _).mono ?_;clear h99;rintro _ wn ⟨rfl,hbn⟩;replace hB:=hB.trans (hbn.mono hB.size);obtain⟨k0,k1,k2,k3,k4,k5⟩:=cX hB) | (go_at_call 51;refine(h106 _).mono ?_;clear h106;rintro _ wn ⟨rfl,hbn⟩;replace hB:=hB.trans (hbn.mono hB.size);obtain⟨k0,k1,k2,k3,k4,k5⟩:=cX hB))
    go_ret
    exact⟨by rw[<-hr];simp,((Below.refl _ w).alloc (aK _) _).trans (hB.mono (by simp))⟩
   case true=>
    by_cases hv1:d=0
    ·subst hv1;by_cases hv2:e=0
     ·subst hv2;by_cases hv3:f=0
      ·subst hv3
       go_wp2_with (first | (go_at_call 34;refine(h105 _).mono ?_;clear h105;rintro _ wn ⟨rfl,hbn⟩;replace hB:=hB.trans (hbn.mono hB.size);obtain⟨k0,k1,k2,k3,k4,k5⟩:=cX hB) | (go_at_call 50;refine(h90 _).mono ?_;clear h90;rintro _ wn ⟨rfl,hbn⟩;replace hB:=hB.trans (hbn.mono hB.size);obtain⟨k0,k1,k2,k3,k4,k5⟩:=cX hB) | (go_at_call 24;refine(h99 _).mono ?_;clear h99;rintro _ wn ⟨rfl,hbn⟩;replace hB:=hB.trans (hbn.mono hB.size);obtain⟨k0,k1,k2,k3,k4,k5⟩:=cX hB) | (go_at_call 51;refine(h106 _).mono ?_;clear h106;rintro _ wn ⟨rfl,hbn⟩;replace hB:=hB.trans (hbn.mono hB.size);obtain⟨k0,k1,k2,k3,k4,k5⟩:=cX hB))
       go_ret
       exact⟨by rw[<-hr];simp,((Below.refl _ w).alloc (aK _) _).trans (hB.mono (by simp))⟩
      ·skip
       go_wp2_with (first | (go_at_call 34;refine(h105 _).mono ?_;clear h105;rintro _ wn ⟨rfl,hbn⟩;replace hB:=hB.trans (hbn.mono hB.size);obtain⟨k0,k1,k2,k3,k4,k5⟩:=cX hB) | (go_at_call 50;refine(h90 _).mono ?_;clear h90;rintro _ wn ⟨rfl,hbn⟩;replace hB:=hB.trans (hbn.mono hB.size);obtain⟨k0,k1,k2,k3,k4,k5⟩:=cX hB) | (go_at_call 24;refine(h99 _).mono ?_;clear h99;rintro _ wn ⟨rfl,hbn⟩;replace hB:=hB.trans (hbn.mono hB.size);obtain⟨k0,k1,k2,k3,k4,k5⟩:=cX hB) | (go_at_call 51;refine(h106 _).mono ?_;clear h106;rintro _ wn ⟨rfl,hbn⟩;replace hB:=hB.trans (hbn.mono hB.size);obtain⟨k0,k1,k2,k3,k4,k5⟩:=cX hB))
       go_ret
       exact⟨by rw[<-hr];simp[hv3],((Below.refl _ w).alloc (aK _) _).trans (hB.mono (by simp))⟩
     ·skip
      go_wp2_with (first | (go_at_call 34;refine(h105 _).mono ?_;clear h105;rintro _ wn ⟨rfl,hbn⟩;replace hB:=hB.trans (hbn.mono hB.size);obtain⟨k0,k1,k2,k3,k4,k5⟩:=cX hB) | (go_at_call 50;refine(h90 _).mono ?_;clear h90;rintro _ wn ⟨rfl,hbn⟩;replace hB:=hB.trans (hbn.mono hB.size);obtain⟨k0,k1,k2,k3,k4,k5⟩:=cX hB) | (go_at_call 24;refine(h99 _).mono ?_;clear h99;rintro _ wn ⟨rfl,hbn⟩;replace hB:=hB.trans (hbn.mono hB.size);obtain⟨k0,k1,k2,k3,k4,k5⟩:=cX hB) | (go_at_call 51;refine(h106 _).mono ?_;clear h106;rintro _ wn ⟨rfl,hbn⟩;replace hB:=hB.trans (hbn.mono hB.size);obtain⟨k0,k1,k2,k3,k4,k5⟩:=cX hB))
      go_ret
      exact⟨by rw[<-hr];simp[hv2],((Below.refl _ w).alloc (aK _) _).trans (hB.mono (by simp))⟩
    ·skip
     go_wp2_with (first | (go_at_call 34;refine(h105 _).mono ?_;clear h105;rintro _ wn ⟨rfl,hbn⟩;replace hB:=hB.trans (hbn.mono hB.size);obtain⟨k0,k1,k2,k3,k4,k5⟩:=cX hB) | (go_at_call 50;refine(h90 _).mono ?_;clear h90;rintro _ wn ⟨rfl,hbn⟩;replace hB:=hB.trans (hbn.mono hB.size);obtain⟨k0,k1,k2,k3,k4,k5⟩:=cX hB) | (go_at_call 24;refine(h99 _).mono ?_;clear h99;rintro _ wn ⟨rfl,hbn⟩;replace hB:=hB.trans (hbn.mono hB.size);obtain⟨k0,k1,k2,k3,k4,k5⟩:=cX hB) | (go_at_call 51;refine(h106 _).mono ?_;clear h106;rintro _ wn ⟨rfl,hbn⟩;replace hB:=hB.trans (hbn.mono hB.size);obtain⟨k0,k1,k2,k3,k4,k5⟩:=cX hB))
     go_ret
     exact⟨by rw[<-hr];simp[hv1],((Below.refl _ w).alloc (aK _) _).trans (hB.mono (by simp))⟩
end
end Go.Proofs.Tryz
