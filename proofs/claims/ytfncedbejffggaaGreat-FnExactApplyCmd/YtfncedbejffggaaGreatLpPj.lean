/- A part of the proof of FnExactApplyCmd: LpPj, LpPk, LpOe, LpPl, LpKf, LpKg, LpKh. -/
import Derived.Test.YtfncedbejffggaaGreatLpOa
import Derived.Test.YtfncedbejffggaaGreatLpJa
import Derived.Test.YtfncedbejffggaaGreatLpJc
import Derived.Deep.Cut
import Derived.Deep.DeepCutAuto
import Derived.Deep.RegionHeld3
import Derived.Test.YtfncedbejffggaaGreatLpQh
import Derived.Test.YtfncedbejffggaaGreatVmPl
import Derived.Deep.CutRange
set_option linter.unusedSimpArgs false
set_option linter.unusedVariables false
set_option maxHeartbeats 0
namespace Go.Proofs.Tryz
open Go.IntKind (wrap)
open Go Go.VM Go.RowKit
theorem p42 (M74:Cg×Int->Option Int)(M78:Cg×Int->Option Bool)(L:Nat)(c0:Int)(c1:LB)(c2:LV)(b0 b1 b2 b3 b4 b5:Int)(a:Int)(bs:LB)(vs:LV)(kd ex nm ad nu pr:Int)(hb:bs.length<=1000)
  (k:Int->LB->LV->Int->Int->Int->Int->Int->Int->Int->Option CR):∀ (n i:Nat),i<=fZ bs nm->fZ bs nm < n+i->aAr M74 M78 L c0 c1 c2 b0 b1 b2 b3 b4 b5 n a bs vs kd ex nm ad nu pr i k=k a bs vs kd ex nm ad nu pr (fZ bs nm)
 | 0,i,h1,h2=>by omega
 | n+1,i,h1,h2=>by
  have hle:fZ bs nm<=bs.length:=lF _ bs;unfold aAr;rw[show(ZB:Bk)=jW from rfl];by_cases hi:i < fZ bs nm
  ·have h3:=mF (λb:Bk=>decide (b.1 < nm)) jW bs i hi;rw[dt (show(i:Int) < (bs.length:Int)by omega),dt (show(0:Int)<=(i:Int)by omega),bO,cond_true,cond_true,aV,show decide ((bs.getD i jW).1 < nm)=true from h3,cond_true,wi (by omega) (by omega),show((i:Int)+1)=((i+1:Nat):Int)by omega];exact p42 M74 M78 L c0 c1 c2 b0 b1 b2 b3 b4 b5 a bs vs kd ex nm ad nu pr hb k n (i+1) (by omega) (by omega)
  ·obtain rfl:i=fZ bs nm:=by omega
   by_cases hl:fZ bs nm < bs.length
   ·have h3:=wB (λb:Bk=>decide (b.1 < nm)) jW bs hl;rw[dt (show(fZ bs nm:Int) < (bs.length:Int)by omega),dt (show(0:Int)<=(fZ bs nm:Int)by omega),bO,cond_true,cond_true,aV,show decide ((bs.getD (fZ bs nm) jW).1 < nm)=false from h3,cond_false]
   ·rw[df (show ¬ (fZ bs nm:Int) < (bs.length:Int)by omega),cond_false]
def uD (z:Cg×Cm):Option (Int×Cg):=
 if ok8 z.1/\okC z.1 then(if z.2.1=1 then m53 z else if z.2.1=2 then apT aJt z else if z.2.1=3 then apT aJs z else if z.2.1=4 then m57 z else if z.2.1=9 then apT aJr z else none)else none
theorem aQi:SatQ prog cxT 42 (c42 uD).nres (c42 uD).F (c42 uD).bx:=s42 eI oQ aHG aP1 uD λx t h=>by
 obtain⟨⟨a,bs,vs⟩,kd,ex,nm,ad,nu,pr⟩:=x;unfold uD at h;split at h
 ·rename_i hk;obtain⟨hk,hoc⟩:=hk;obtain⟨hr,hl,hrv,hlv,hin⟩:=id hk;simp only at hr hl hrv hlv hin h;refine⟨bs.length+1,?_⟩;show g42 eI oQ _ a bs vs kd ex nm ad nu pr=_;unfold g42;rw[show eI ((a,bs,vs),nm)=some (atB bs nm) from if_pos (show bs.length<=iU by unfold iU;omega),bT];rw[show oQ ((a,bs,vs),nm)=some (vs.any λv=>iY v.2.2.2 nm) from if_pos hoc];simp only[bT];rw[show(ZB:Bk)=jW from rfl];have hle:fZ bs nm<=bs.length:=lF _ bs;have hneg:decide (atB bs nm < 0)=!gY bs nm:=aCG;have hge:decide (atB bs nm>=0)=gY bs nm:=by
   cases hh:gY bs nm
   ·rw[hh]at hneg;exact df (by have:=of_decide_eq_true hneg;omega)
   ·rw[hh]at hneg;exact dt (by have:=of_decide_eq_false hneg;omega)
  rw[hneg,hge];split at h
  ·rename_i h1;subst h1;unfold m53 at h;rw[if_pos hk]at h;cases h;simp only[beq_self_eq_true,cond_true];cases hh:gY bs nm
   ·simp only[cond_false,if_false,dF];by_cases h8:bs.length=8
    ·rw[dt (show(Nat.cast bs.length:Int)>=8 by omega),cond_true,if_pos h8]
    ·rw[df (show ¬ (Nat.cast bs.length:Int)>=8 by omega),cond_false,if_neg h8];rw[show((0:Int))=((0:Nat):Int) from rfl,p42 _ _ _ _ _ _ _ _ _ _ _ _ a bs vs _ ex nm ad nu pr (by omega) _ (bs.length+1) 0 (by omega) (by omega)];have e1:(bs.take (fZ bs nm)).length=fZ bs nm:=by rw[bA];omega
     have e2:(bs.drop (fZ bs nm)).length=bs.length-fZ bs nm:=bL;simp[e1,e2,hle];rw[dt (show fZ bs nm<=1000000000 by omega),dt (show fZ bs nm<=999999999 by omega),dt (show fZ bs nm+1+(bs.length-fZ bs nm)<=1000000000 by omega)]
     rfl
   ·rfl
  split at h
  ·rename_i h1;subst h1;unfold apT at h;rw[if_pos hk]at h;cases h;simp only[show((2:Int) == 1)=false from rfl,beq_self_eq_true,cond_true,cond_false];cases hh:gY bs nm
   ·rfl
   ·have hp:=aDL hr hh;rw[aGi hr hh,dt (show(fZ bs nm:Int) < (bs.length:Int)by omega)];simp only[eM,cond_false,bO,cond_true,aV,if_true]
    rfl
  split at h
  ·rename_i h1;subst h1;unfold apT at h;rw[if_pos hk]at h;cases h;simp only[show((3:Int) == 1)=false from rfl,show((3:Int) == 2)=false from rfl,beq_self_eq_true,cond_true,cond_false];cases hh:gY bs nm
   ·rfl
   ·have hp:=aDL hr hh;rw[aGi hr hh,dt (show(fZ bs nm:Int) < (bs.length:Int)by omega)];simp only[eM,cond_false,bO,cond_true,aV,if_true]
    rfl
  split at h
  ·rename_i h1;subst h1;unfold m57 at h;rw[if_pos hk]at h;cases h;simp only[show((4:Int) == 1)=false from rfl,show((4:Int) == 2)=false from rfl,show((4:Int) == 3)=false from rfl,show((4:Int) == 9)=false from rfl,beq_self_eq_true,cond_true,cond_false];cases hh:gY bs nm
   ·rfl
   ·have hp:=aDL hr hh;rw[aGi hr hh,dt (show(fZ bs nm:Int) < (bs.length:Int)by omega)];simp only[eM,cond_false,bO,cond_true,aV,if_true];by_cases h3:(bs.getD (fZ bs nm) jW).2.2.2.1=3
    ·rw[bne_eq_false_iff_eq.2 h3,cond_false,if_pos h3];cases ha:vs.any λv=>iY v.2.2.2 nm
     ·rw[cond_false,wi (by omega) (by omega)];have e1:(bs.take (fZ bs nm)).length=fZ bs nm:=by rw[bA];omega
      have e2:(bs.drop (fZ bs nm+1)).length=bs.length-(fZ bs nm+1):=bL;have e3:((fZ bs nm:Int)+1).toNat=fZ bs nm+1:=by omega
      rw[dt (show(0:Int)<=0 by omega),dt (show(fZ bs nm:Int)<=(bs.length:Int)by omega),dt (show(0:Int)<=(fZ bs nm:Int)+1 by omega),dt (show(fZ bs nm:Int)+1<=(bs.length:Int)by omega),dt (show(bs.length:Int)<=(bs.length:Int)by omega)];simp[e1,e2,e3,hle];rw[dt (show fZ bs nm<=1000000000 by omega),dt (show fZ bs nm+(bs.length-(fZ bs nm+1))<=1000000000 by omega)]
      rfl
     ·rfl
    ·rw[bne_iff_ne.2 h3,cond_true,if_neg h3]
  split at h
  ·rename_i h1;subst h1;unfold apT at h;rw[if_pos hk]at h;cases h;simp only[show((9:Int) == 1)=false from rfl,show((9:Int) == 2)=false from rfl,show((9:Int) == 3)=false from rfl,beq_self_eq_true,cond_true,cond_false];cases hh:gY bs nm
   ·rfl
   ·have hp:=aDL hr hh;rw[aGi hr hh,dt (show(fZ bs nm:Int) < (bs.length:Int)by omega)];simp only[eM,cond_false,bO,cond_true,aV,if_true]
    rfl
  ·cases h
 ·cases h
abbrev fH (x:Vp×Vp):Option Bool:=some (rM x.1 x.2)
theorem aH3 (M75:Cg×Cm->Option Int)(M73:Vp×Vp->Option Bool)(M74:Cg×Int->Option Int)(M76:List Int×Int->Option Bool)(M77:List Int×Int->Option LI)(L:Nat)(c0:Int)(c1:LB)(c2:LV)(b0 b1 b2 b3 b4 b5:Int)(a:Int)(bs:LB)(vs:LV)(kd ex nm ad nu pr:Int)(p:Nat)(hp:p < vs.length)(hn:(vs.getD p eJ).2.2.2.length<=1000)
  (k:Int->LB->LV->Int->List Int->Option CR):∀ (n i:Nat) (acc:List Int),i<=(vs.getD p eJ).2.2.2.length->(vs.getD p eJ).2.2.2.length < n+i->acc.length<=i->
   qV M75 M73 M74 M76 M77 L c0 c1 c2 b0 b1 b2 b3 b4 b5 n a bs vs kd ex nm ad nu pr p acc i k=k a bs vs p (acc++((vs.getD p eJ).2.2.2.drop i).filter (· != nm))
 | 0,i,acc,h1,h2,h3=>by omega
 | n+1,i,acc,h1,h2,h3=>by
  unfold qV;simp only[cB,dQ];rw[show(ZV:Vp)=eJ from rfl,dt (show(p:Int) < (vs.length:Int)by omega),dt (show(0:Int)<=(p:Int)by omega),bO,cond_true,aV];by_cases hi:i < (vs.getD p eJ).2.2.2.length
  ·rw[dt (show(i:Int) < ((vs.getD p eJ).2.2.2.length:Int)by omega),dt (show(0:Int)<=(i:Int)by omega),bO];simp only[cond_true,aV];rw[wi (by omega) (by omega),show((i:Int)+1)=((i+1:Nat):Int)by omega,dt (show acc.length+(0+1)<=1000000000 by omega),cond_true];rw[dE hi,fT 0 hi,kG];cases he:((vs.getD p eJ).2.2.2[i] != nm)
   ·rw[cond_false,aH3 M75 M73 M74 M76 M77 L c0 c1 c2 b0 b1 b2 b3 b4 b5 a bs vs kd ex nm ad nu pr p hp hn k n (i+1) acc (by omega) (by omega) (by omega)]
    rfl
   ·rw[cond_true,aH3 M75 M73 M74 M76 M77 L c0 c1 c2 b0 b1 b2 b3 b4 b5 a bs vs kd ex nm ad nu pr p hp hn k n (i+1) _ (by omega) (by omega) (by simp;omega),dB]
    rfl
  ·rw[df (show ¬ (i:Int) < ((vs.getD p eJ).2.2.2.length:Int)by omega),cond_false,cM (by omega)];simp
theorem aEW:∀ {ns:List Int} {y:Int},xL ns->iY ns y=true->ns.filter (· != y)=ns.take (jM ns y)++ns.drop (jM ns y+1):=by
 intro ns y hr hh;have hl:=aF6 hr hh;have he:ns.getD (jM ns y) 0=y:=by
  have:=hh;rw[zR hr,aJ]at this;simpa using this.2
 conv=>lhs;rw[<-dH (jM ns y) ns]
 rw[dE hl,<-fT 0 hl,he,List.filter_append,kG];have e0:(y != y)=false:=by simp
 rw[e0];congr 1
 ·refine List.filter_eq_self.2 λx hx=>?_
  obtain⟨j,hj,rfl⟩:=dL.1 hx;have hj':j < jM ns y:=by rw[bA]at hj;omega
  have:=hr j (jM ns y) hj' hl;rw[he,fT 0 (show j < ns.length by omega)]at this;rw[List.getElem_take];exact bne_iff_ne.2 (by omega)
 ·refine(List.filter_eq_self.2 λx hx=>?_);obtain⟨j,hj,rfl⟩:=dL.1 hx;have hj':jM ns y+1+j < ns.length:=by rw[bL]at hj;omega
  have:=hr (jM ns y) (jM ns y+1+j) (by omega) hj';rw[he,fT 0 hj']at this;rw[List.getElem_drop];exact bne_iff_ne.2 (by omega)
def qH (z:Cg×Cm):Option (Int×Cg):=
 if ok8 z.1/\okC z.1 then(if z.2.1=5 then m60 z else if z.2.1=6 then m61 z else if z.2.1=7 then m62 z else if z.2.1=8 then m63 z else none)else none
theorem aJ6 {z:Cg×Cm}(h:ok8 z.1/\okC z.1)(hk:5<=z.2.1/\z.2.1<=8):qH z=apK z.2.1 z:=by
 unfold qH apK;rw[if_pos h];rcases(show z.2.1=5\/z.2.1=6\/z.2.1=7\/z.2.1=8 by omega)with e | e | e | e<;>rw[e]<;>rfl
theorem aJ5 {z:Cg×Cm}(h:ok8 z.1/\okC z.1)(hk:1<=z.2.1/\z.2.1<=9)(hn:¬ (5<=z.2.1/\z.2.1<=8)):uD z=apK z.2.1 z:=by
 unfold uD apK;rw[if_pos h];rcases(show z.2.1=1\/z.2.1=2\/z.2.1=3\/z.2.1=4\/z.2.1=9 by omega)with e | e | e | e | e<;>rw[e]<;>rfl
theorem w64 (x:Int):wrap .i64 x=wrap64 x:=by unfold wrap64;exact IntKind.wrap_i64 x
def aNX (z:Cg×Cm):Int×Int×LB×LV:=
 if z.1.1=1000000 then(3,0,[],[])else if z.2.2.1≠-1/\z.2.2.1≠z.1.1 then(9,0,[],[])
 else match apK z.2.1 z with
  | some (r,c')=>if r=0 then(0,wrap64 (c'.1+1),c'.2.1,c'.2.2)else(r,0,[],[])
  | none=>(0,0,[],[])
def m18 (z:Cg×Cm):Option CR:=if ok8 z.1/\okC z.1/\okS z.1/\1<=z.2.1/\z.2.1<=9 then some (aNX z)else none
theorem aHK (h41:SatQ prog cxT 41 (c41 qH).nres (c41 qH).F (c41 qH).bx):Sat prog cxT 18 (c18 m18):=s18 mCp _ qH uD aQk sR h41 aQi m18 λx t h=>by
 obtain⟨⟨a,bs,vs⟩,kd,ex,nm,ad,nu,pr⟩:=x;unfold m18 at h;split at h
 ·rename_i hc;obtain⟨h8,hoc,hS,hk1,hk9⟩:=hc;cases h;refine⟨0,?_⟩;show g18 mCp _ qH uD _ a bs vs kd ex nm ad nu pr=_;obtain⟨r,c',hm⟩:=aEs kd ((a,bs,vs),(kd,ex,nm,ad,nu,pr)) h8;have hv:=aKF hm;unfold g18 aNX;simp only;rw[show mCp (a,bs,vs)=some (a,bs,vs) from if_pos hS];simp only[bT];have tail:(bif decide (5<=kd/\kd<=8)then cZ (qH ((a,bs,vs),kd,ex,nm,ad,nu,pr)) ((0:Int),(0:Int),[],[]) λ(q5:Int×Int×LB×LV)=>bif (q5.1 != (0:Int))then some (q5.1,(0:Int),[],[])else some ((0:Int),(wrap Go.IntKind.i64 (a+(1:Int))),q5.2.2.1,q5.2.2.2)
    else cZ (uD ((a,bs,vs),kd,ex,nm,ad,nu,pr)) ((0:Int),(0:Int),[],[]) λ(q4:Int×Int×LB×LV)=>bif (q4.1 != (0:Int))then some (q4.1,(0:Int),[],[])else some ((0:Int),(wrap Go.IntKind.i64 (a+(1:Int))),q4.2.2.1,q4.2.2.2))=
    some (if r=0 then(0,wrap64 (c'.1+1),c'.2.1,c'.2.2)else(r,0,[],[])):=by
   by_cases hk:5<=kd/\kd<=8
   ·rw[dt hk,cond_true,aJ6 ⟨h8,hoc⟩ hk,hm,bT];by_cases h0:r=0
    ·subst h0;rw[if_pos rfl,hv,<-w64];rfl
    ·rw[if_neg h0,show(r != 0)=true from bne_iff_ne.2 h0];rfl
   ·rw[df hk,cond_false,aJ5 ⟨h8,hoc⟩ ⟨hk1,hk9⟩ hk,hm,bT];by_cases h0:r=0
    ·subst h0;rw[if_pos rfl,hv,<-w64];rfl
    ·rw[if_neg h0,show(r != 0)=true from bne_iff_ne.2 h0];rfl
  by_cases h1:a=1000000
  ·rw[if_pos h1,beq_iff_eq.2 h1,cond_true]
  ·rw[if_neg h1,beq_eq_false_iff_ne.2 h1,cond_false];by_cases h2:ex=-1
   ·rw[if_neg (λh=>h.1 h2),show(ex != -1)=false by simp[h2],cond_false,hm];exact tail
   ·rw[show(ex != -1)=true from bne_iff_ne.2 h2,cond_true];by_cases h3:ex=a
    ·rw[if_neg (λh=>h.2 h3),show(ex != a)=false by simp[h3],cond_false,hm];exact tail
    ·rw[if_pos ⟨h2,h3⟩,bne_iff_ne.2 h3,cond_true]
 ·cases h
theorem aJC (h41:SatQ prog cxT 41 (c41 qH).nres (c41 qH).F (c41 qH).bx):Sat prog cxT 5 (c5 m8):=s5 m16 m22 m18 aQC aQB (aHK h41) m8 λx t h=>by
 obtain⟨⟨a,bs,vs⟩,kd,ex,nm,ad,nu,pr⟩:=x;unfold m8 at h;split at h
 ·rename_i hoc;cases h;refine⟨0,?_⟩;show g5 m16 m22 m18 _ a bs vs kd ex nm ad nu pr=_;unfold g5 ap8;rw[show m16 (a,bs,vs)=some (cF (a,bs,vs)) from if_pos hoc,bT];simp only;by_cases h0:cF (a,bs,vs)=0
  ·rw[show(cF (a,bs,vs) != 0)=false by simp[h0],cond_false,if_neg (λh=>h h0)];rw[show m22 (kd,ex,nm,ad,nu,pr)=some (cmF (kd,ex,nm,ad,nu,pr)) from rfl,bT];by_cases h1:cmF (kd,ex,nm,ad,nu,pr)=0
   ·rw[show(cmF (kd,ex,nm,ad,nu,pr) != 0)=false by simp[h1],cond_false,if_neg (λh=>h h1)];obtain⟨h8,hS,_⟩:=aCw h0;have hk:=aGc h1;rw[show m18 ((a,bs,vs),kd,ex,nm,ad,nu,pr)=some (aNX ((a,bs,vs),kd,ex,nm,ad,nu,pr)) from if_pos ⟨h8,hoc,hS,hk⟩,bT]
    rfl
   ·rw[show(cmF (kd,ex,nm,ad,nu,pr) != 0)=true from bne_iff_ne.2 h1,cond_true,if_pos h1]
  ·rw[show(cF (a,bs,vs) != 0)=true from bne_iff_ne.2 h0,cond_true,if_pos h0]
 ·cases h
def aCC (z:Cg×Cm):Option (Int×Cg):=
 if ok8 z.1/\okC z.1 then(if z.2.1=7 then m62 z else if z.2.1=8 then m63 z else none)else none
theorem aMx:SatQ prog cxT 41 (c41 aCC).nres (c41 aCC).F (c41 aCC).bx:=s41 jG fH eI fP jC aKO aHH aHG aKN aP2 aCC λx t h=>by
 obtain⟨⟨a,bs,vs⟩,kd,ex,nm,ad,nu,pr⟩:=x;unfold aCC at h;split at h
 ·rename_i hk;obtain⟨hk,hoc⟩:=hk;obtain⟨hr,hl,hrv,hlv,hin⟩:=id hk;simp only at hr hl hrv hlv hin h;refine⟨1001,?_⟩;show g41 jG fH eI fP jC _ a bs vs kd ex nm ad nu pr=_;unfold g41;rw[show jG ((a,bs,vs),kd,ex,nm,ad,nu,pr)=some (atV vs ad nu pr) from if_pos (show vs.length<=iU by unfold iU;omega),bT];rw[show eI ((a,bs,vs),nm)=some (atB bs nm) from if_pos (show bs.length<=iU by unfold iU;omega)];simp only[bT];rw[show(ZV:Vp)=eJ from rfl];have hle:=aEM vs (ad,nu,pr,[]);have hnegB:decide (atB bs nm < 0)=!gY bs nm:=aCG;have hneg:decide (atV vs ad nu pr < 0)=!iQ vs ad nu pr:=aJ9;rw[hneg,hnegB];split at h
  ·rename_i h1;subst h1;unfold m62 at h;rw[if_pos hk]at h;cases h;simp only[show((7:Int) == 5)=false from rfl,show((7:Int) == 6)=false from rfl,show((7:Int) == 8)=false from rfl,beq_self_eq_true,cond_true,cond_false,aGA];rw[show iQ vs ad nu pr=hsV vs (7,ex,nm,ad,nu,pr) from rfl];cases hh:hsV vs (7,ex,nm,ad,nu,pr)
   ·rfl
   ·have hp:yX vs (7,ex,nm,ad,nu,pr) < vs.length:=sD hrv (show iQ vs ad nu pr=true from hh);rw[show atV vs ad nu pr=(yX vs (7,ex,nm,ad,nu,pr):Int) from aA4 hrv (show iQ vs ad nu pr=true from hh)];obtain⟨hrn,hln⟩:=hin _ (eG eJ hp);clear hle hneg
    generalize hpp:yX vs (7,ex,nm,ad,nu,pr)=p at *
    cases hB:gY bs nm
    ·rfl
    ·simp only[eM,cond_false,if_true,aV];rw[dt (show(0:Int)<=(p:Int)by omega),dt (show(p:Int) < (vs.length:Int)by omega),bO,cond_true];rw[show fP ((vs.getD p eJ).2.2.2,nm)=some (iY (vs.getD p eJ).2.2.2 nm) from if_pos (by show(vs.getD p eJ).2.2.2.length<=iU;unfold iU;omega),bT];cases hN:iY (vs.getD p eJ).2.2.2 nm
     ·rw[cond_false,cond_true];rw[show jC ((vs.getD p eJ).2.2.2,nm)=some ((vs.getD p eJ).2.2.2.take (jM (vs.getD p eJ).2.2.2 nm)++[nm]++(vs.getD p eJ).2.2.2.drop (jM (vs.getD p eJ).2.2.2 nm)) from if_pos ⟨by show(vs.getD p eJ).2.2.2.length<=1000;omega,hN⟩,bT,cond_true]
      rfl
     ·rfl
  split at h
  ·rename_i h1;subst h1;unfold m63 at h;rw[if_pos hk]at h;cases h;simp only[show((8:Int) == 5)=false from rfl,show((8:Int) == 6)=false from rfl,show((8:Int) == 7)=false from rfl,beq_self_eq_true,cond_true,cond_false,aGA];rw[show iQ vs ad nu pr=hsV vs (8,ex,nm,ad,nu,pr) from rfl];cases hh:hsV vs (8,ex,nm,ad,nu,pr)
   ·rfl
   ·have hp:yX vs (8,ex,nm,ad,nu,pr) < vs.length:=sD hrv (show iQ vs ad nu pr=true from hh);rw[show atV vs ad nu pr=(yX vs (8,ex,nm,ad,nu,pr):Int) from aA4 hrv (show iQ vs ad nu pr=true from hh)];obtain⟨hrn,hln⟩:=hin _ (eG eJ hp);clear hle hneg
    generalize hpp:yX vs (8,ex,nm,ad,nu,pr)=p at *
    simp only[eM,cond_false,if_true,aV];rw[dt (show(0:Int)<=(p:Int)by omega),dt (show(p:Int) < (vs.length:Int)by omega),bO,cond_true];rw[show fP ((vs.getD p eJ).2.2.2,nm)=some (iY (vs.getD p eJ).2.2.2 nm) from if_pos (by show(vs.getD p eJ).2.2.2.length<=iU;unfold iU;omega),bT];cases hN:iY (vs.getD p eJ).2.2.2 nm
    ·rfl
    ·simp only[eM,cond_false,if_true];rw[show((0:Int))=((0:Nat):Int) from rfl,aH3 _ _ _ _ _ _ _ _ _ _ _ _ _ _ _ a bs vs _ ex nm ad nu pr p hp (by omega) _ 1001 0 [] (by omega) (by omega) (by simp)];rw[gH,eO,aEW hrn hN];simp only[aV];rw[dt (show((0:Nat):Int)<=(p:Int)by omega),dt (show(p:Int) < (vs.length:Int)by omega),bO,cond_true]
  ·cases h
 ·cases h
def Srcs (W:World)(x:Value)(m:Nat)(news:List Value):Prop:=
 (∃ c,x=.slice none 0 c/\m=0/\news=[])\/∃ a c,x=.slice (some a) m c/\(∀ j u,news[j]?=some u->W.cell? (a.add j)=some u)
theorem aJD {P:Program}(w:World)(base:Nat)(t ty e:TypeId)(i:TypeInfo)(z:Value)(size bytes:Nat)(ht:P.underlying t=some (.slice e))(hi:P.info? e=some i)(hz:i.zero=some z)
  (hsize:i.size=size) (hby:i.bytes=bytes) (hzs:z.cells.size=size) (hsz:0 < size)
  (v:Value) (n:Nat) (xs:List Value) (hown:w.ownsRow base e size v n xs) (hsome:∃ b cap,v=.slice (some ⟨b,0,none⟩) n cap)
  (x:Value) (m:Nat) (news:List Value) (hx:Srcs w x m news) (hl:news.length=m * size) (h1:∀ u∈news,u.oneCell'=true)
  (h63:n+m<=maxLen) (hbytes:(n+m) * bytes<=140737488355328) (hbase:base<=w.heap.size) :
  ∃ v' w',(Builtin.append_ #[t,t] ty #[v,x]).run P w=.ok v' w'/\w'.ownsRow base e size v' (n+m) (xs++news)/\w.grownBy w' v.ownBlock/\(∃ b cap,v'=.slice (some ⟨b,0,none⟩) (n+m) cap)/\(v'.ownBlock=v.ownBlock\/v'.ownBlock=some w.heap.size):=by
 rcases hx with⟨c,rfl,rfl,rfl⟩ | ⟨a,c,rfl,hc⟩
 ·obtain⟨b,cap,rfl⟩:=hsome;obtain⟨cur,hg,hs,hB,hn,hm,ht'⟩:=fQ hown;have hr:=run_append_room_src (P:=P) w t t ty e i ht hi b 0 n cap (.slice none 0 c) 0 [] (Src.ofNil w ht c) (by omega) (by simp) (by simp);refine⟨_,_,hr,?_,⟨rfl,rfl,rfl,by simp[World.setCells],λ_ _ _=>by simp[World.setCells]⟩,⟨b,cap,rfl⟩,.inl rfl⟩;simpa[World.setCells]using hown
 ·obtain⟨v',w',hr,k1,k2,k3,k4⟩:=run_append_own_at (P:=P) w base t ty e i z size bytes ht hi hz hsize hby hzs hsz v n xs hown a m c news hl hc h1 h63 hbytes hbase;refine⟨v',w',hr,k1,k2,?_,k4⟩;rcases k1.2 with⟨h0,_⟩ | ⟨g,cap,cur,rfl,_⟩
  ·obtain⟨b,cap,rfl⟩:=hsome;have:=(k3.1 h0).1;cases this
  ·exact⟨g,cap,rfl⟩
theorem gK {P:Program}{ops:Array Oper}{o:Oper}{a:Act}{w:World}{K:Act->World->Prop}{Q:Exit->Act->World->Prop}{E:Prop}
  (hg:o.guard=none) (s x:Operand) (t:TypeId) (hop:o.op=Op.call { callee:=Callee.builtin Builtin.append,args:=#[s,x],argTypes:=#[t,t] })
  (base:Nat) (e:TypeId) (i:TypeInfo) (z:Value) (size bytes:Nat) (ht:P.underlying t=some (.slice e)) (hi:P.info? e=some i) (hz:i.zero=some z)
  (hsize:i.size=size) (hby:i.bytes=bytes) (hzs:z.cells.size=size) (hsz:0 < size)
  (v:Value) (n:Nat) (xs:List Value) (hs:a.eval s=v) (hown:w.ownsRow base e size v n xs) (hsome:∃ b cap,v=.slice (some ⟨b,0,none⟩) n cap)
  (y:Value) (m:Nat) (news:List Value) (hxv:a.eval x=y) (hx:Srcs w y m news) (hl:news.length=m * size) (h1:∀ u∈news,u.oneCell'=true)
  (h63:n+m<=maxLen) (hbytes:(n+m) * bytes<=140737488355328) (hbase:base<=w.heap.size)
  (hK:∀ b cap w',w'.ownsRow base e size (.slice (some ⟨b,0,none⟩) (n+m) cap) (n+m) (xs++news)->w.grownBy w' v.ownBlock->(some b=v.ownBlock\/b=w.heap.size)->K (a.put o.dst (.slice (some ⟨b,0,none⟩) (n+m) cap)) w') :
  if Region.wanted o (yielded ops a.tmps)=true then Oper.wp P o a w K Q else E:=by
 have hw:Region.wanted o (yielded ops a.tmps)=true:=by simp[Region.wanted,hg]
 rw[if_pos hw];obtain⟨v',w',hr,k1,k2,⟨b,cap,rfl⟩,k4⟩:=aJD (P:=P) w base t o.type e i z size bytes ht hi hz hsize hby hzs hsz v n xs hown hsome y m news hx hl h1 h63 hbytes hbase;unfold Oper.wp;simp[execOp,hop,resolve,invoke,builtin,hs,hxv,hr,Result.andThen];refine hK b cap w' k1 k2 ?_;rcases k4 with k4 | k4
 ·exact .inl k4
 ·exact .inr (by simpa[Value.ownBlock]using k4)
theorem eY {n:Nat}{w W W':World}{row:Option Nat}(hB:Below n w W)(h:W.grownBy W' row)(hb:∀ b,row=some b->n<=b)(hn:n<=W.heap.size):Below n w W':=
 hB.trans ⟨h.os,h.tape,h.output,h.size,λk hk=>h.block k (by omega) λe=>by have:=hb k e.symm;omega⟩
theorem aGD (V:World):(V.alloc (.cells #[] 76)).ownsRow 0 76 4 (.slice (some ⟨V.heap.size,0,none⟩) 0 0) 0 []:=
 ⟨rfl,.inr ⟨V.heap.size,0,#[],rfl,bX _,World.alloc_heap_new V _,aK _,bX _,rfl,rfl⟩⟩
theorem aGu {V:World}{gv o m:Nat}{cur:Array Value}{xs:List Value}(h:V.heap[gv]?=some (.cells cur 76 (0,0)))(hx:∀ j u,xs[j]?=some u->cur[o+j]?=some u)(cp:Nat):Srcs V (.slice (some ⟨gv,o,none⟩) m cp) m xs:=
 .inr ⟨⟨gv,o,none⟩,cp,rfl,λj u hj=>by
  rw[Addr.add_lit];exact(cell_of_row _ _ _ _ 76 (0,0) h).trans (hx j u hj)⟩
section
attribute [local go_sem] Oper.semAt_some
theorem kW {w:World}{q2:Option Addr}{n2 cap2 p:Nat}{us:List Value}(hrow:w.ownsRow 0 76 4 (.slice q2 n2 cap2) n2 us)(hp:p<=n2) :
  ∃ y1 y2,(∀ W,(Instr.sliceAt 30 (.slice q2 n2 cap2) none (some (.int .i64 p)) none).run prog W=.ok y1 W)/\(∀ W,(Instr.sliceAt 30 (.slice q2 n2 cap2) (some (.int .i64 p)) none none).run prog W=.ok y2 W) ∧
   ∀ V:World,(∀ b,Value.ownBlock (.slice q2 n2 cap2)=some b->V.heap[b]?=w.heap[b]?)->Srcs V y1 p (us.take (p * 4))/\Srcs V y2 (n2-p) (us.drop (p * 4)):=by
 have hul:us.length=n2 * 4:=hrow.1;have h0:(0:Int)<=(p:Int):=by omega
 have h1:(p:Int)<=(n2:Int):=by omega
 rcases hrow.2 with⟨e,hn0⟩ | ⟨gv,cap,cur,e,_,hg,hnc,hcm,hcs,htk⟩
 ·cases e;obtain rfl:p=0:=by omega
  refine⟨.slice none 0 0,.slice none 0 0,λW=>by go_simp,λW=>by go_simp,λV _=>⟨.inl ⟨0,rfl,rfl,by simp⟩,.inl ⟨0,rfl,rfl,?_⟩⟩⟩;exact cM (by rw[hul];omega)
 ·cases e;have h2:(p:Int)<=(cap2:Int):=by omega
  have h3:p<=cap2:=by omega
  have hsrcA:∀ j u,(us.take (p * 4))[j]?=some u->cur[0+j]?=some u:=λj u hj=>by
   rw[<-htk,List.take_take,bK]at hj;split at hj
   ·rw[cX,<-Array.getElem?_toList];exact hj
   ·cases hj
  have hsrcB:∀ j u,(us.drop (p * 4))[j]?=some u->cur[p * 4+j]?=some u:=λj u hj=>by
   rw[<-htk,cL,bK]at hj;split at hj
   ·rw[<-Array.getElem?_toList];exact hj
   ·cases hj
  have hV:∀ V:World,(∀ b,Value.ownBlock (.slice (some ⟨gv,0,none⟩) n2 cap2)=some b->V.heap[b]?=w.heap[b]?)->V.heap[gv]?=some (.cells cur 76 (0,0)):=λV h=>(h gv rfl).trans hg
  by_cases hc0:cap2=0
  ·subst hc0;obtain rfl:n2=0:=by omega
   obtain rfl:p=0:=by omega
   refine⟨.slice (some ⟨gv,0,none⟩) 0 0,.slice (some ⟨gv,0,none⟩) 0 0,λW=>by go_simp,λW=>by go_simp,λV hb=>⟨aGu (hV V hb) hsrcA 0,aGu (hV V hb) (by simpa using hsrcB) 0⟩⟩
  ·by_cases hcp:cap2=p
   ·subst hcp;obtain rfl:n2=cap2:=by omega
    refine⟨.slice (some ⟨gv,0,none⟩) n2 n2,.slice (some ⟨gv,0,none⟩) 0 0,λW=>by go_simp,λW=>by go_simp,λV hb=>⟨aGu (hV V hb) hsrcA _,?_⟩⟩;rw[rP,cM (by rw[hul];exact aK _)];exact .inr ⟨⟨gv,0,none⟩,0,rfl,λj u hj=>by simp at hj⟩
   ·refine⟨.slice (some ⟨gv,0,none⟩) p cap2,.slice (some ⟨gv,p * 4,none⟩) (n2-p) (cap2-p),λW=>by go_simp,λW=>by go_simp,λV hb=>⟨aGu (hV V hb) hsrcA _,aGu (hV V hb) hsrcB _⟩⟩
end
end Go.Proofs.Tryz
