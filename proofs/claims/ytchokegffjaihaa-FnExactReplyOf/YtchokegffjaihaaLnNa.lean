/- A part of the proof of FnExactReplyOf: LnNa, LnNb. -/
import Derived.Test.YtchokegffjaihaaLnPe
import Derived.Test.YtchokegffjaihaaLnFd
set_option linter.unusedSimpArgs false
set_option linter.unusedVariables false
set_option maxHeartbeats 0
namespace Go.Proofs.Try
open Go Go.VM Go.RowKit
abbrev Mg:=Int×List Bk×List Vp×List Ss
def hI:Ss:=((0:Int),((0:Int),(0:Int)))
def cfg (m:Mg):Cg:=(m.1,m.2.1,m.2.2.1)
def xE (x:List Ss×Int):Option Int:=if 0<=x.2/\x.2<=1048576/\x.1.length<=top then some (jJ x.2 x.1.length)else none
theorem aKA:Sat prog cxT 17 (c17 xE):=s17 xE λx t h=>by
 obtain⟨a,v⟩:=x;unfold xE at h;split at h
 ·rename_i hc;cases h;exact⟨0,aBC hc.1 hc.2.1 hc.2.2⟩
 ·cases h
def wG (m:Mg):Int:=wC (cfg m)+(m.2.2.2.length:Int)
theorem xV (c:Cg):0<=wC c:=by
 have:=gI (w:=wV) (l:=c.2.2) λx _=>jY x
 unfold wC;omega
def zG (m:Mg):Prop:=okZ (cfg m)/\m.2.2.2.length<=top
instance (m:Mg):Decidable (zG m):=by unfold zG;infer_instance
def m6 (x:Mg×Int):Option Int:=if 0<=x.2/\x.2<=1048576/\zG x.1 then some (jJ x.2 (wG x.1))else none
theorem aN6:Sat prog cxT 6 (c6 m6):=s6 xF xE aKB aKA m6 λx t h=>by
 obtain⟨⟨a,b,c,d⟩,v⟩:=x;unfold m6 at h;split at h
 ·rename_i hc;obtain⟨h0,h1,h2,h3⟩:=hc;cases h;refine⟨0,?_⟩;show g6 xF xE 0 a b c d v=some (jJ v (wC (a,b,c)+(d.length:Int)));have h0:0<=v:=h0;have h1:v<=1048576:=h1;have hn:=xV (a,b,c);unfold g6;rw[show xF ((a,b,c),v)=some (jJ v (wC (a,b,c))) from if_pos ⟨h0,h1,h2⟩,bX,aCs hn (by omega) h0];have hr:=oN (v:=v) hn h0;by_cases hneg:jJ v (wC (a,b,c)) < 0
  ·rw[dt hneg,cond_true,if_pos hneg]
  ·rw[df hneg,cond_false,if_neg hneg,show xE (d,jJ v (wC (a,b,c)))=some (jJ (jJ v (wC (a,b,c))) d.length) from if_pos ⟨by simp only;omega,by simp only;omega,h3⟩,bX];have hr2:=oN (v:=jJ v (wC (a,b,c))) (a:=(d.length:Int)) (by omega) (by omega);by_cases hneg2:jJ (jJ v (wC (a,b,c))) (d.length:Int) < 0
   ·rw[dt hneg2,cond_true];congr 1;omega
   ·rw[df hneg2,cond_false]
 ·cases h
theorem aHb {m:Mg}{v:Int}(hv:v<=1048576)(h:¬ jJ v (wG m) < 0):okM (cfg m)/\okC (cfg m)/\m.2.2.2.length<=1048576:=by
 have hn:=xV (cfg m);unfold wG at h;have h1:0<=jJ 1048576 (wC (cfg m)):=by
  unfold jJ at h ⊢;split at h
  ·omega
  ·split<;>omega
 have h2:m.2.2.2.length<=1048576:=by
  unfold jJ at h;split at h<;>omega
 obtain⟨a,b,c⟩:=aDR h1;unfold okM okC qV mA;exact⟨⟨by omega,by omega,λv hv=>by have:=c v hv;omega⟩,⟨by omega,by omega,λv hv=>by have:=c v hv;omega⟩,h2⟩
theorem aKm:Sat prog cxT 37 (c37 λb=>some b):=s37 _ λx t h=>by
 obtain⟨a,b,c⟩:=x;cases h;exact⟨0,rfl⟩
theorem aLx (L:Nat)(a:List Ss):∀ (n:Nat) (o:List Ss) (i:Int) (k:List Ss->Option (List Ss)),uU (λb=>some b) L a n o i k=toL hI (λb=>some b) a n o i k
 | 0,_,_,_=>rfl
 | n+1,o,i,k=>by unfold uU toL;simp only[aLx L a n];rfl
def xC (a:List Ss):Option (List Ss):=if a.length<=qV then some a else none
theorem aKx:Sat prog cxT 20 (c20 xC):=s20 _ aKm xC λx t h=>by
 unfold xC at h;split at h
 ·rename_i ha;cases h;refine⟨x.length+1,?_⟩;unfold g20;rw[tL ha,cond_true,aLx,bR];unfold qV at ha;exact tW hI _ x (by omega) (λv hv=>rfl) _ _ 0 _ (by simp) (by omega) (by omega) rfl
 ·cases h
def aFG (m:Mg):Prop:=okM (cfg m)/\m.2.2.2.length<=qV
instance (m:Mg):Decidable (aFG m):=by unfold aFG;infer_instance
def m8 (m:Mg):Option Mg:=if aFG m then some m else none
theorem aN5:Sat prog cxT 8 (c8 m8):=s8 xD xC aKy aKx m8 λx t h=>by
 obtain⟨a,b,c,d⟩:=x;unfold m8 at h;split at h
 ·rename_i ha;cases h;refine⟨0,?_⟩;show g8 xD xC 0 a b c d=some (a,b,c,d);unfold g8;rw[show xD (a,b,c)=some (a,b,c) from if_pos ha.1,bX,show xC d=some d from if_pos ha.2,bX]
 ·cases h
theorem aKb:Sat prog cxT 48 (c48 λx=>some (decide (x.1=x.2))):=s48 _ λx t h=>by
 obtain⟨⟨a,b,c⟩,a',b',c'⟩:=x;cases h;refine⟨0,?_⟩;show g48 0 a b c a' b' c'=some (decide ((a,b,c)=(a',b',c')));unfold g48;refine jQ (λe1=>?_) (λe h=>by simp at h;exact e h.1);refine jQ (λe2=>?_) (λe h=>by simp at h;exact e h.2.1);refine jQ (λe3=>?_) (λe h=>by simp at h;exact e h.2.2);subst e1 e2 e3;simp
theorem aLw (L:Nat)(a b:List Ss):∀ (n:Nat) (i:Int) (k:Option Bool),uT (λx=>some (decide (x.1=x.2))) L a b n i k=eqL hI (λx=>some (decide (x.1=x.2))) a b n i k
 | 0,_,_=>rfl
 | n+1,i,k=>by unfold uT eqL;simp only[aLw L a b n];rfl
def xA (x:List Ss×List Ss):Option Bool:=if x.1.length<=mA then some (decide (x.1=x.2))else none
theorem aKt:Sat prog cxT 24 (c24 xA):=s24 _ aKb xA λx t h=>by
 obtain⟨a,b⟩:=x;unfold xA at h;split at h
 ·rename_i hc;cases h;have hc1:a.length<=1000000000000:=hc;refine⟨a.length+1,?_⟩;show g24 _ (a.length+1) a b=some (decide (a=b));unfold g24;refine jQ (λe=>?_) λe h=>e (by rw[h])
  rw[aLw];refine(vZ hI _ a b (by omega) (by omega) (λx hx y _=>rfl) _ _ 0 (by omega) (by omega)).trans ?_;simp only[dU];split<;>rename_i hh<;>simp[hh]
 ·cases h
def okG (m:Mg):Prop:=okC (cfg m)/\m.2.2.2.length<=mA
instance (m:Mg):Decidable (okG m):=by unfold okG;infer_instance
def kN (x:Mg×Mg):Option Bool:=if okG x.1 then some (decide (x.1=x.2))else none
theorem aPm {a a':Int}{b b':List Bk}{c c':List Vp}{d d':List Ss}:decide (((a,b,c,d):Mg)=(a',b',c',d'))=(decide (((a,b,c):Cg)=(a',b',c'))&&decide (d=d')):=by
 rw[Bool.eq_iff_iff];simp only[aM,decide_eq_true_eq,aE,and_assoc]
theorem aKF:Sat prog cxT 10 (c10 kN):=s10 xB xA aKu aKt kN λx t h=>by
 obtain⟨⟨a,b,c,d⟩,a',b',c',d'⟩:=x;unfold kN at h;split at h
 ·rename_i hc;cases h;refine⟨0,?_⟩;show g10 xB xA 0 a b c d a' b' c' d'=some (decide ((a,b,c,d)=(a',b',c',d')));unfold g10;rw[show xB ((a,b,c),a',b',c')=some (decide ((a,b,c)=(a',b',c'))) from if_pos hc.1,bX,show xA (d,d')=some (decide (d=d')) from if_pos hc.2,aPm];by_cases e1:(a,b,c)=(a',b',c')<;>by_cases e2:d=d'<;>simp only[e1,e2,decide_true,decide_false,dX,iX,cond_true,cond_false,bX,cB,Bool.and_true,mW,Bool.and_false]
 ·cases h
end Go.Proofs.Try
set_option maxHeartbeats 0
namespace Go.Proofs.Try
open Go Go.VM Go.RowKit
def qX (x:Ss):Bool:=decide (1<=x.1/\x.1<=999)&&decide (1<=x.2.1/\x.2.1<=1000000)&&decide (0<=x.2.2/\x.2.2<=10)
def seF (l:List Ss)(i:Nat):Int:=if qX (l.getD i hI)=true then(if 0 < i/\(l.getD i hI).1<=(l.getD (i-1) hI).1 then 1 else 0)else 3
def zV (m:Mg):Int:=if cF (cfg m)=0 then(if 40 < m.2.2.2.length then 2 else kK (seF m.2.2.2) m.2.2.2.length 0)else cF (cfg m)
theorem aKg:Sat prog cxT 43 (c43 λx=>some (decide (0<=x/\x<=999))):=s43 _ λx t h=>by
 cases h;refine⟨0,?_⟩;show g43 0 x=_;unfold g43;by_cases h1:x>=0<;>by_cases h2:x<=999<;>simp[h1,h2]
theorem aKf:Sat prog cxT 44 (c44 λx=>some (decide (0<=x/\x<=1000000))):=s44 _ λx t h=>by
 cases h;refine⟨0,?_⟩;show g44 0 x=_;unfold g44;by_cases h1:x>=0<;>by_cases h2:x<=1000000<;>simp[h1,h2]
theorem aKe:Sat prog cxT 45 (c45 λx=>some (decide (0<=x/\x<=10))):=s45 _ λx t h=>by
 cases h;refine⟨0,?_⟩;show g45 0 x=_;unfold g45;by_cases h1:x>=0<;>by_cases h2:x<=10<;>simp[h1,h2]
theorem aKv:Sat prog cxT 22 (c22 λx=>some (qX x)):=s22 _ _ _ aKg aKf aKe _ λx t h=>by
 obtain⟨a,b,c⟩:=x;cases h;refine⟨0,?_⟩;show g22 _ _ _ 0 a b c=some (qX (a,b,c));unfold g22 qX;simp only[bX];by_cases h1:0<=a/\a<=999
 ·rw[dt h1,cond_true];by_cases h2:a=0
  ·subst h2;simp
  ·rw[show(a != 0)=true by simp[h2],cond_true];by_cases h3:0<=b/\b<=1000000
   ·rw[dt h3,cond_true];by_cases h4:b=0
    ·subst h4;simp
    ·rw[show(b != 0)=true by simp[h4],cond_true,dt (show 1<=a/\a<=999 by omega),dt (show 1<=b/\b<=1000000 by omega)];simp
   ·rw[df h3,cond_false,df (show ¬ (1<=b/\b<=1000000)by omega)];simp
 ·rw[df h1,cond_false,df (show ¬ (1<=a/\a<=999)by omega)];simp
theorem lp9 (M:Cg->Option Int)(L:Nat)(a:Int)(b:List Bk)(c:List Vp)(l:List Ss)(hl:l.length<=mA)(k:Option Int)(hk:k=some 0):∀ (n i:Nat) (v:Int),i<=l.length->l.length < i+n->(0 < i->v=(l.getD (i-1) hI).1)->(i=0->v=0)->
  aA8 M (λx=>some (qX x)) L a b c l n v (i:Int) k=some (kK (seF l) (l.length-i) i)
 | 0,i,v,h1,h2,_,_=>by omega
 | n+1,i,v,h1,h2,h3,h4=>by
  unfold aA8;unfold mA at hl;by_cases hi:i < l.length
  ·rw[dt (show(i:Int) < (l.length:Int)by omega),dt (show(0:Int)<=(i:Int)by omega),bR,wi (x:=(i:Int)+1) (by omega) (by omega),show l.length-i=(l.length-(i+1))+1 by omega,lQ];simp only[cond_true,cB,bX];show(bif !qX (l.getD i hI)then some (3:Int)else bif decide ((l.getD i hI).1<=v)then some (1:Int)else aA8 M (λx=>some (qX x)) L a b c l n (l.getD i hI).1 (((i+1:Nat):Int)) k)=_;unfold seF;cases hs:qX (l.getD i hI)
   ·simp
   ·simp only[dX,cond_false,if_true];by_cases hle:(l.getD i hI).1<=v
    ·rw[dt hle,cond_true];have h0:0 < i:=by
      rcases Nat.eq_zero_or_pos i with e | e
      ·have:=h4 e;unfold qX at hs;simp only[aE,decide_eq_true_eq]at hs;omega
      ·exact e
     rw[if_pos (c:=0 < i/\_) ⟨h0,by rw[<-h3 h0];exact hle⟩]
     rfl
    ·rw[df hle,cond_false,if_neg (c:=0 < i/\_) (λh=>hle (by rw[h3 h.1];exact h.2)),if_pos rfl];exact lp9 M L a b c l hl k hk n (i+1) _ (by omega) (by omega) (λ_=>rfl) (λh=>by omega)
  ·rw[df (show ¬ (i:Int) < (l.length:Int)by omega),cond_false,hk,show l.length-i=0 by omega]
   rfl
def mMF (m:Mg):Option Int:=if okG m then some (zV m)else none
theorem aN4:Sat prog cxT 9 (c9 mMF):=s9 _ _ aKw aKv mMF λx t h=>by
 obtain⟨a,b,c,d⟩:=x;unfold mMF at h;split at h
 ·rename_i hc;cases h;refine⟨d.length+1,?_⟩;show g9 mCF _ (d.length+1) a b c d=some (zV (a,b,c,d));unfold g9 zV;rw[show mCF (a,b,c)=some (cF (a,b,c)) from if_pos hc.1,bX];show _=some (if cF (a,b,c)=0 then(if 40 < d.length then 2 else kK (seF d) d.length 0)else cF (a,b,c));by_cases e:cF (a,b,c)=0
  ·rw[xR e,cond_false,if_pos e];by_cases h4:40 < d.length
   ·rw[dt (show(d.length:Int) > 40 by omega),cond_true,if_pos h4]
   ·rw[df (show ¬ (d.length:Int) > 40 by omega),cond_false,if_neg h4];exact lp9 mCF _ a b c d hc.2 _ rfl _ 0 0 (by omega) (by omega) (λh=>by omega) (λ_=>rfl)
  ·rw[xQ e,cond_true,if_neg e]
 ·cases h
theorem aLb (M:Cg->Option Int)(L:Nat)(m:Mg)(hl:m.2.2.2.length<=mA)(k:Option Int)(hk:k=some 0):∀ (n i:Nat),i<=m.2.2.2.length->m.2.2.2.length < i+n->
  rW M (λx=>some (decide (x.2.1<=x.1/\x.1<=x.2.2))) L m n (i:Int) k=some (kK (seF m.2.2.2) (m.2.2.2.length-i) i)
 | 0,i,h1,h2=>by omega
 | n+1,i,h1,h2=>by
  unfold rW;unfold mA at hl;by_cases hi:i < m.2.2.2.length
  ·rw[dt (show(i:Int) < (m.2.2.2.length:Int)by omega),dt (show(0:Int)<=(i:Int)by omega),bR,wi (x:=(i:Int)+1) (by omega) (by omega),show m.2.2.2.length-i=(m.2.2.2.length-(i+1))+1 by omega,lQ];simp only[cond_true,cB,bX];have ih:=aLb M L m hl k hk n (i+1) (by omega) (by omega);rw[show((i+1:Nat):Int)=(i:Int)+1 by omega]at ih;rw[ih];have hs:seF m.2.2.2 i=if qX (m.2.2.2.getD i ((0:Int),((0:Int),(0:Int))))=true then(if 0 < i/\(m.2.2.2.getD i ((0:Int),((0:Int),(0:Int)))).1<=(m.2.2.2.getD (i-1) ((0:Int),((0:Int),(0:Int)))).1 then 1 else 0)else 3:=rfl
   rw[hs]
   generalize hX:m.2.2.2.getD i ((0:Int),((0:Int),(0:Int)))=X
   obtain⟨x,y,z⟩:=X;unfold qX;simp only;by_cases q1:1<=x/\x<=999
   ·by_cases q2:1<=y/\y<=1000000
    ·by_cases q3:0<=z/\z<=10
     ·rw[dt q1,dt q2,dt q3];simp only[dX,cond_false,cB,if_true];by_cases h0:0 < i
      ·rw[dt (show(i:Int) > 0 by omega),cond_true,wi (x:=(i:Int)-1) (by omega) (by omega),dt (show(0:Int)<=(i:Int)-1 by omega),dt (show(i:Int)-1 < (m.2.2.2.length:Int)by omega),show((i:Int)-1).toNat=i-1 by omega];simp only[cB,cond_true]
       generalize (m.2.2.2.getD (i-1) ((0:Int),((0:Int),(0:Int)))).1=Y
       by_cases hle:x<=Y
       ·rw[dt hle,cond_true,if_pos (c:=0 < i/\_) ⟨h0,hle⟩];rfl
       ·rw[df hle,cond_false,if_neg (c:=0 < i/\_) (λh=>hle h.2),if_pos rfl]
      ·rw[df (show ¬ (i:Int) > 0 by omega),cond_false,if_neg (c:=0 < i/\_) (λh=>h0 h.1),if_pos rfl]
     ·rw[dt q1,dt q2,df q3];rfl
    ·rw[dt q1,df q2];rfl
   ·rw[df q1];rfl
  ·rw[df (show ¬ (i:Int) < (m.2.2.2.length:Int)by omega),cond_false,hk,show m.2.2.2.length-i=0 by omega]
   rfl
theorem aKz:Sat prog cxT 18 (c18 mMF):=s18 _ _ aKp xX mMF λx t h=>by
 unfold mMF at h;split at h
 ·rename_i hc;cases h;refine⟨x.2.2.2.length+1,?_⟩;show g18 lH _ (x.2.2.2.length+1) x=some (zV x);unfold g18 zV;rw[show lH (x.1,x.2.1,x.2.2.1)=some (cF (cfg x)) from if_pos hc.1,bX];by_cases e:cF (cfg x)=0
  ·rw[xR e,cond_false,if_pos e];by_cases h4:40 < x.2.2.2.length
   ·rw[dt (show(x.2.2.2.length:Int) > 40 by omega),cond_true,if_pos h4]
   ·rw[df (show ¬ (x.2.2.2.length:Int) > 40 by omega),cond_false,if_neg h4];exact aLb lH _ x hc.2 _ rfl _ 0 (by omega) (by omega)
  ·rw[xQ e,cond_true,if_neg e]
 ·cases h
def m3 (x:Mg):Option Bool:=if zG x then some true else none
end Go.Proofs.Try
