/- A part of the proof of FnExactMachineFault: LnNa, LnNb. -/
import Derived.Test.YtchokegffjaihaaLnPe
import Derived.Test.YtchokegffjaihaaLnFd
set_option linter.unusedSimpArgs false
set_option linter.unusedVariables false
set_option maxHeartbeats 0
namespace Go.Proofs.Try
open Go Go.VM Go.RowKit
abbrev Mg:=Int×List Bk×List Vp×List Ss
def dSs:Ss:=((0:Int),((0:Int),(0:Int)))
def cfg (m:Mg):Cg:=(m.1,m.2.1,m.2.2.1)
def wN (x:List Ss×Int):Option Int:=if 0<=x.2/\x.2<=1048576/\x.1.length<=top then some (jH x.2 x.1.length)else none
theorem aJJ:Sat prog cxT 17 (c17 wN):=s17 wN λx t h=>by
 obtain⟨a,v⟩:=x;unfold wN at h;split at h
 ·rename_i hc;cases h;exact⟨0,aBi hc.1 hc.2.1 hc.2.2⟩
 ·cases h
def wG (m:Mg):Int:=wC (cfg m)+(m.2.2.2.length:Int)
theorem xC (c:Cg):0<=wC c:=by
 have:=gH (w:=wV) (l:=c.2.2) λx _=>jV x
 unfold wC;omega
def zG (m:Mg):Prop:=okZ (cfg m)/\m.2.2.2.length<=top
instance (m:Mg):Decidable (zG m):=by unfold zG;infer_instance
def m6 (x:Mg×Int):Option Int:=if 0<=x.2/\x.2<=1048576/\zG x.1 then some (jH x.2 (wG x.1))else none
theorem aM4:Sat prog cxT 6 (c6 m6):=s6 wO wN aJK aJJ m6 λx t h=>by
 obtain⟨⟨a,b,c,d⟩,v⟩:=x;unfold m6 at h;split at h
 ·rename_i hc;obtain⟨h0,h1,h2,h3⟩:=hc;cases h;refine⟨0,?_⟩;show g6 wO wN 0 a b c d v=some (jH v (wC (a,b,c)+(d.length:Int)));have h0:0<=v:=h0;have h1:v<=1048576:=h1;have hn:=xC (a,b,c);unfold g6;rw[show wO ((a,b,c),v)=some (jH v (wC (a,b,c))) from if_pos ⟨h0,h1,h2⟩,bY,aB7 hn (by omega) h0];have hr:=oC (v:=v) hn h0;by_cases hneg:jH v (wC (a,b,c)) < 0
  ·rw[dt hneg,cond_true,if_pos hneg]
  ·rw[df hneg,cond_false,if_neg hneg,show wN (d,jH v (wC (a,b,c)))=some (jH (jH v (wC (a,b,c))) d.length) from if_pos ⟨by simp only;omega,by simp only;omega,h3⟩,bY];have hr2:=oC (v:=jH v (wC (a,b,c))) (a:=(d.length:Int)) (by omega) (by omega);by_cases hneg2:jH (jH v (wC (a,b,c))) (d.length:Int) < 0
   ·rw[dt hneg2,cond_true];congr 1;omega
   ·rw[df hneg2,cond_false]
 ·cases h
theorem aGs {m:Mg}{v:Int}(hv:v<=1048576)(h:¬ jH v (wG m) < 0):okM (cfg m)/\okC (cfg m)/\m.2.2.2.length<=1048576:=by
 have hn:=xC (cfg m);unfold wG at h;have h1:0<=jH 1048576 (wC (cfg m)):=by
  unfold jH at h ⊢;split at h
  ·omega
  ·split<;>omega
 have h2:m.2.2.2.length<=1048576:=by
  unfold jH at h;split at h<;>omega
 obtain⟨a,b,c⟩:=aDt h1;unfold okM okC qL nS;exact⟨⟨by omega,by omega,λv hv=>by have:=c v hv;omega⟩,⟨by omega,by omega,λv hv=>by have:=c v hv;omega⟩,h2⟩
theorem aJw:Sat prog cxT 37 (c37 λb=>some b):=s37 _ λx t h=>by
 obtain⟨a,b,c⟩:=x;cases h;exact⟨0,rfl⟩
theorem aKA (L:Nat)(a:List Ss):∀ (n:Nat) (o:List Ss) (i:Int) (k:List Ss->Option (List Ss)),uF (λb=>some b) L a n o i k=toL dSs (λb=>some b) a n o i k
 | 0,_,_,_=>rfl
 | n+1,o,i,k=>by unfold uF toL;simp only[aKA L a n];rfl
def wL (a:List Ss):Option (List Ss):=if a.length<=qL then some a else none
theorem aJG:Sat prog cxT 20 (c20 wL):=s20 _ aJw wL λx t h=>by
 unfold wL at h;split at h
 ·rename_i ha;cases h;refine⟨x.length+1,?_⟩;unfold g20;rw[sV ha,cond_true,aKA,bW];unfold qL at ha;exact tG dSs _ x (by omega) (λv hv=>rfl) _ _ 0 _ (by simp) (by omega) (by omega) rfl
 ·cases h
def aE3 (m:Mg):Prop:=okM (cfg m)/\m.2.2.2.length<=qL
instance (m:Mg):Decidable (aE3 m):=by unfold aE3;infer_instance
def m8 (m:Mg):Option Mg:=if aE3 m then some m else none
theorem aM2:Sat prog cxT 8 (c8 m8):=s8 wM wL aJH aJG m8 λx t h=>by
 obtain⟨a,b,c,d⟩:=x;unfold m8 at h;split at h
 ·rename_i ha;cases h;refine⟨0,?_⟩;show g8 wM wL 0 a b c d=some (a,b,c,d);unfold g8;rw[show wM (a,b,c)=some (a,b,c) from if_pos ha.1,bY,show wL d=some d from if_pos ha.2,bY]
 ·cases h
theorem aJl:Sat prog cxT 48 (c48 λx=>some (decide (x.1=x.2))):=s48 _ λx t h=>by
 obtain⟨⟨a,b,c⟩,a',b',c'⟩:=x;cases h;refine⟨0,?_⟩;show g48 0 a b c a' b' c'=some (decide ((a,b,c)=(a',b',c')));unfold g48;refine kF (λe1=>?_) (λe h=>by simp at h;exact e h.1);refine kF (λe2=>?_) (λe h=>by simp at h;exact e h.2.1);refine kF (λe3=>?_) (λe h=>by simp at h;exact e h.2.2);subst e1 e2 e3;simp
theorem aKz (L:Nat)(a b:List Ss):∀ (n:Nat) (i:Int) (k:Option Bool),uE (λx=>some (decide (x.1=x.2))) L a b n i k=eqL dSs (λx=>some (decide (x.1=x.2))) a b n i k
 | 0,_,_=>rfl
 | n+1,i,k=>by unfold uE eqL;simp only[aKz L a b n];rfl
def wJ (x:List Ss×List Ss):Option Bool:=if x.1.length<=nS then some (decide (x.1=x.2))else none
theorem aJC:Sat prog cxT 24 (c24 wJ):=s24 _ aJl wJ λx t h=>by
 obtain⟨a,b⟩:=x;unfold wJ at h;split at h
 ·rename_i hc;cases h;have hc1:a.length<=1000000000000:=hc;refine⟨a.length+1,?_⟩;show g24 _ (a.length+1) a b=some (decide (a=b));unfold g24;refine kF (λe=>?_) λe h=>e (by rw[h])
  rw[aKz];refine(vH dSs _ a b (by omega) (by omega) (λx hx y _=>rfl) _ _ 0 (by omega) (by omega)).trans ?_;simp only[dU];split<;>rename_i hh<;>simp[hh]
 ·cases h
def okG (m:Mg):Prop:=okC (cfg m)/\m.2.2.2.length<=nS
instance (m:Mg):Decidable (okG m):=by unfold okG;infer_instance
def kJ (x:Mg×Mg):Option Bool:=if okG x.1 then some (decide (x.1=x.2))else none
theorem aOh {a a':Int}{b b':List Bk}{c c':List Vp}{d d':List Ss}:decide (((a,b,c,d):Mg)=(a',b',c',d'))=(decide (((a,b,c):Cg)=(a',b',c'))&&decide (d=d')):=by
 rw[Bool.eq_iff_iff];simp only[aM,decide_eq_true_eq,aE,and_assoc]
theorem aJL:Sat prog cxT 10 (c10 kJ):=s10 wK wJ aJD aJC kJ λx t h=>by
 obtain⟨⟨a,b,c,d⟩,a',b',c',d'⟩:=x;unfold kJ at h;split at h
 ·rename_i hc;cases h;refine⟨0,?_⟩;show g10 wK wJ 0 a b c d a' b' c' d'=some (decide ((a,b,c,d)=(a',b',c',d')));unfold g10;rw[show wK ((a,b,c),a',b',c')=some (decide ((a,b,c)=(a',b',c'))) from if_pos hc.1,bY,show wJ (d,d')=some (decide (d=d')) from if_pos hc.2,aOh];by_cases e1:(a,b,c)=(a',b',c')<;>by_cases e2:d=d'<;>simp only[e1,e2,decide_true,decide_false,dV,iU,cond_true,cond_false,bY,cE,Bool.and_true,mL,Bool.and_false]
 ·cases h
end Go.Proofs.Try
set_option maxHeartbeats 0
namespace Go.Proofs.Try
open Go Go.VM Go.RowKit
def tH (x:Ss):Bool:=decide (1<=x.1/\x.1<=999)&&decide (1<=x.2.1/\x.2.1<=1000000)&&decide (0<=x.2.2/\x.2.2<=10)
def seF (l:List Ss)(i:Nat):Int:=if tH (l.getD i dSs)=true then(if 0 < i/\(l.getD i dSs).1<=(l.getD (i-1) dSs).1 then 1 else 0)else 3
def mgF (m:Mg):Int:=if cF (cfg m)=0 then(if 40 < m.2.2.2.length then 2 else kH (seF m.2.2.2) m.2.2.2.length 0)else cF (cfg m)
theorem aJq:Sat prog cxT 43 (c43 λx=>some (decide (0<=x/\x<=999))):=s43 _ λx t h=>by
 cases h;refine⟨0,?_⟩;show g43 0 x=_;unfold g43;by_cases h1:x>=0<;>by_cases h2:x<=999<;>simp[h1,h2]
theorem aJp:Sat prog cxT 44 (c44 λx=>some (decide (0<=x/\x<=1000000))):=s44 _ λx t h=>by
 cases h;refine⟨0,?_⟩;show g44 0 x=_;unfold g44;by_cases h1:x>=0<;>by_cases h2:x<=1000000<;>simp[h1,h2]
theorem aJo:Sat prog cxT 45 (c45 λx=>some (decide (0<=x/\x<=10))):=s45 _ λx t h=>by
 cases h;refine⟨0,?_⟩;show g45 0 x=_;unfold g45;by_cases h1:x>=0<;>by_cases h2:x<=10<;>simp[h1,h2]
theorem aJE:Sat prog cxT 22 (c22 λx=>some (tH x)):=s22 _ _ _ aJq aJp aJo _ λx t h=>by
 obtain⟨a,b,c⟩:=x;cases h;refine⟨0,?_⟩;show g22 _ _ _ 0 a b c=some (tH (a,b,c));unfold g22 tH;simp only[bY];by_cases h1:0<=a/\a<=999
 ·rw[dt h1,cond_true];by_cases h2:a=0
  ·subst h2;simp
  ·rw[show(a != 0)=true by simp[h2],cond_true];by_cases h3:0<=b/\b<=1000000
   ·rw[dt h3,cond_true];by_cases h4:b=0
    ·subst h4;simp
    ·rw[show(b != 0)=true by simp[h4],cond_true,dt (show 1<=a/\a<=999 by omega),dt (show 1<=b/\b<=1000000 by omega)];simp
   ·rw[df h3,cond_false,df (show ¬ (1<=b/\b<=1000000)by omega)];simp
 ·rw[df h1,cond_false,df (show ¬ (1<=a/\a<=999)by omega)];simp
theorem lp9 (M:Cg->Option Int)(L:Nat)(a:Int)(b:List Bk)(c:List Vp)(l:List Ss)(hl:l.length<=nS)(k:Option Int)(hk:k=some 0):∀ (n i:Nat) (v:Int),i<=l.length->l.length < i+n->(0 < i->v=(l.getD (i-1) dSs).1)->(i=0->v=0)->
  aAL M (λx=>some (tH x)) L a b c l n v (i:Int) k=some (kH (seF l) (l.length-i) i)
 | 0,i,v,h1,h2,_,_=>by omega
 | n+1,i,v,h1,h2,h3,h4=>by
  unfold aAL;unfold nS at hl;by_cases hi:i < l.length
  ·rw[dt (show(i:Int) < (l.length:Int)by omega),dt (show(0:Int)<=(i:Int)by omega),bW,wi (x:=(i:Int)+1) (by omega) (by omega),show l.length-i=(l.length-(i+1))+1 by omega,lL];simp only[cond_true,cE,bY];show(bif !tH (l.getD i dSs)then some (3:Int)else bif decide ((l.getD i dSs).1<=v)then some (1:Int)else aAL M (λx=>some (tH x)) L a b c l n (l.getD i dSs).1 (((i+1:Nat):Int)) k)=_;unfold seF;cases hs:tH (l.getD i dSs)
   ·simp
   ·simp only[dV,cond_false,if_true];by_cases hle:(l.getD i dSs).1<=v
    ·rw[dt hle,cond_true];have h0:0 < i:=by
      rcases Nat.eq_zero_or_pos i with e | e
      ·have:=h4 e;unfold tH at hs;simp only[aE,decide_eq_true_eq]at hs;omega
      ·exact e
     rw[if_pos (c:=0 < i/\_) ⟨h0,by rw[<-h3 h0];exact hle⟩]
     rfl
    ·rw[df hle,cond_false,if_neg (c:=0 < i/\_) (λh=>hle (by rw[h3 h.1];exact h.2)),if_pos rfl];exact lp9 M L a b c l hl k hk n (i+1) _ (by omega) (by omega) (λ_=>rfl) (λh=>by omega)
  ·rw[df (show ¬ (i:Int) < (l.length:Int)by omega),cond_false,hk,show l.length-i=0 by omega]
   rfl
def mMF (m:Mg):Option Int:=if okG m then some (mgF m)else none
theorem aM1:Sat prog cxT 9 (c9 mMF):=s9 _ _ aJF aJE mMF λx t h=>by
 obtain⟨a,b,c,d⟩:=x;unfold mMF at h;split at h
 ·rename_i hc;cases h;refine⟨d.length+1,?_⟩;show g9 mCF _ (d.length+1) a b c d=some (mgF (a,b,c,d));unfold g9 mgF;rw[show mCF (a,b,c)=some (cF (a,b,c)) from if_pos hc.1,bY];show _=some (if cF (a,b,c)=0 then(if 40 < d.length then 2 else kH (seF d) d.length 0)else cF (a,b,c));by_cases e:cF (a,b,c)=0
  ·rw[aA7 e,cond_false,if_pos e];by_cases h4:40 < d.length
   ·rw[dt (show(d.length:Int) > 40 by omega),cond_true,if_pos h4]
   ·rw[df (show ¬ (d.length:Int) > 40 by omega),cond_false,if_neg h4];exact lp9 mCF _ a b c d hc.2 _ rfl _ 0 0 (by omega) (by omega) (λh=>by omega) (λ_=>rfl)
  ·rw[aA6 e,cond_true,if_neg e]
 ·cases h
theorem aKf (M:Cg->Option Int)(L:Nat)(m:Mg)(hl:m.2.2.2.length<=nS)(k:Option Int)(hk:k=some 0):∀ (n i:Nat),i<=m.2.2.2.length->m.2.2.2.length < i+n->
  rJ M (λx=>some (decide (x.2.1<=x.1/\x.1<=x.2.2))) L m n (i:Int) k=some (kH (seF m.2.2.2) (m.2.2.2.length-i) i)
 | 0,i,h1,h2=>by omega
 | n+1,i,h1,h2=>by
  unfold rJ;unfold nS at hl;by_cases hi:i < m.2.2.2.length
  ·rw[dt (show(i:Int) < (m.2.2.2.length:Int)by omega),dt (show(0:Int)<=(i:Int)by omega),bW,wi (x:=(i:Int)+1) (by omega) (by omega),show m.2.2.2.length-i=(m.2.2.2.length-(i+1))+1 by omega,lL];simp only[cond_true,cE,bY];have ih:=aKf M L m hl k hk n (i+1) (by omega) (by omega);rw[show((i+1:Nat):Int)=(i:Int)+1 by omega]at ih;rw[ih];have hs:seF m.2.2.2 i=if tH (m.2.2.2.getD i ((0:Int),((0:Int),(0:Int))))=true then(if 0 < i/\(m.2.2.2.getD i ((0:Int),((0:Int),(0:Int)))).1<=(m.2.2.2.getD (i-1) ((0:Int),((0:Int),(0:Int)))).1 then 1 else 0)else 3:=rfl
   rw[hs]
   generalize hX:m.2.2.2.getD i ((0:Int),((0:Int),(0:Int)))=X
   obtain⟨x,y,z⟩:=X;unfold tH;simp only;by_cases q1:1<=x/\x<=999
   ·by_cases q2:1<=y/\y<=1000000
    ·by_cases q3:0<=z/\z<=10
     ·rw[dt q1,dt q2,dt q3];simp only[dV,cond_false,cE,if_true];by_cases h0:0 < i
      ·rw[dt (show(i:Int) > 0 by omega),cond_true,wi (x:=(i:Int)-1) (by omega) (by omega),dt (show(0:Int)<=(i:Int)-1 by omega),dt (show(i:Int)-1 < (m.2.2.2.length:Int)by omega),show((i:Int)-1).toNat=i-1 by omega];simp only[cE,cond_true]
       generalize (m.2.2.2.getD (i-1) ((0:Int),((0:Int),(0:Int)))).1=Y
       by_cases hle:x<=Y
       ·rw[dt hle,cond_true,if_pos (c:=0 < i/\_) ⟨h0,hle⟩];rfl
       ·rw[df hle,cond_false,if_neg (c:=0 < i/\_) (λh=>hle h.2),if_pos rfl]
      ·rw[df (show ¬ (i:Int) > 0 by omega),cond_false,if_neg (c:=0 < i/\_) (λh=>h0 h.1),if_pos rfl]
     ·rw[dt q1,dt q2,df q3];rfl
    ·rw[dt q1,df q2];rfl
   ·rw[df q1];rfl
  ·rw[df (show ¬ (i:Int) < (m.2.2.2.length:Int)by omega),cond_false,hk,show m.2.2.2.length-i=0 by omega]
   rfl
theorem aJI:Sat prog cxT 18 (c18 mMF):=s18 _ _ aJz xE mMF λx t h=>by
 unfold mMF at h;split at h
 ·rename_i hc;cases h;refine⟨x.2.2.2.length+1,?_⟩;show g18 lC _ (x.2.2.2.length+1) x=some (mgF x);unfold g18 mgF;rw[show lC (x.1,x.2.1,x.2.2.1)=some (cF (cfg x)) from if_pos hc.1,bY];by_cases e:cF (cfg x)=0
  ·rw[aA7 e,cond_false,if_pos e];by_cases h4:40 < x.2.2.2.length
   ·rw[dt (show(x.2.2.2.length:Int) > 40 by omega),cond_true,if_pos h4]
   ·rw[df (show ¬ (x.2.2.2.length:Int) > 40 by omega),cond_false,if_neg h4];exact aKf lC _ x hc.2 _ rfl _ 0 (by omega) (by omega)
  ·rw[aA6 e,cond_true,if_neg e]
 ·cases h
theorem aM3:Sat prog cxT 7 (c7 mMF):=s7 _ aJI mMF λx t h=>by
 obtain⟨a,b,c,d⟩:=x;refine⟨0,?_⟩;show g7 mMF 0 a b c d=some t;unfold g7;rw[h];rfl
def m3 (x:Mg):Option Bool:=if zG x then some true else none
theorem sat3:Sat prog cxT 3 (c3 m3):=s3 m6 m8 mMF mMF kJ aM4 aM2 aM3 aM1 aJL m3 λx t h=>by
 obtain⟨a,b,c,d⟩:=x;unfold m3 at h;split at h
 ·rename_i hz;cases h;refine⟨0,?_⟩;show g3 m6 m8 mMF mMF kJ 0 a b c d=some true
  generalize hX:((a,b,c,d):Mg)=X at hz
  unfold g3;simp only[hX];rw[show m6 (X,1048576)=some (jH 1048576 (wG X)) from if_pos ⟨by simp only;omega,by simp only;omega,hz⟩,bY];by_cases h:jH 1048576 (wG X) < 0
  ·rw[dt h,cond_true]
  ·obtain⟨hM,hC,hL⟩:=aGs (by omega) h;have hMX:aE3 X:=⟨hM,by unfold qL;omega⟩
   have hGX:okG X:=⟨hC,by unfold nS;omega⟩
   have eX:m8 X=some X:=if_pos hMX;have pX:kJ (X,X)=some true:=by rw[show kJ (X,X)=some (decide (X=X)) from if_pos hGX,dt rfl]
   have fX:mMF X=some (mgF X):=if_pos hGX;rw[df h,cond_false];simp only[eX,bY,pX,fX,bne_self_eq_false,dV,cond_false]
 ·cases h
end Go.Proofs.Try
