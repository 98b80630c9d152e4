/- A part of the proof of FnExactLeaderOf: LmRa, LmRc. -/
import Derived.Test.YtnmbggfkmkcmkaaGreatLmPq
import Derived.Test.YtnmbggfkmkcmkaaGreatLmFi
set_option linter.unusedSimpArgs false
set_option linter.unusedVariables false
set_option maxHeartbeats 0
namespace Go.Proofs.Tryz
open Go.IntKind (wrap)
open Go Go.VM Go.RowKit
theorem aSD {a b c:Int}:(bif decide (a>=b)then some (decide (a<=c))else some false)=some (decide (b<=a/\a<=c)):=by
 by_cases h:a>=b
 ·rw[dt h,cond_true];exact congrArg some (decide_eq_decide.2 ⟨λk=>⟨h,k⟩,λk=>k.2⟩)
 ·rw[df h,cond_false,df (λk=>h k.1)]
def cE (x:Int×Int×Int):Option Bool:=some (decide (x.2.1<=x.1/\x.1<=x.2.2))
theorem vT:Sat prog cxT 105 (vF cE):=aYC cE λx t h=>by
 obtain⟨a,b,c⟩:=x;cases h;exact⟨0,aSD⟩
def jC (p:Int):Option Bool:=some (decide (1<=p/\p<=5))
theorem aLc:Sat prog cxT 76 (c76 jC):=s76 cE vT jC λx t h=>by cases h;exact⟨0,rfl⟩
def aAr (p i:Int):Bool:=decide (0<=i/\i < p)
def dD (x:Int×Int):Option Bool:=some (aAr x.2 x.1)
theorem aCz:Sat prog cxT 122 (aBM dD):=aYn dD λx t h=>by
 obtain⟨a,b⟩:=x;cases h;refine⟨0,?_⟩;show aIP 0 a b=some (decide (0<=a/\a < b))
 (try unfold aNB);unfold aIP G122;dsimp only[dX]
 by_cases h:a>=0
 ·rw[dt h,cond_true];exact congrArg some (decide_eq_decide.2 ⟨λk=>⟨h,k⟩,λk=>k.2⟩)
 ·rw[df h,cond_false,df (λk=>h k.1)]
def eG (x:Int):Option Bool:=some (sC x)
def mR (x:Int):Option Bool:=some (decide (0<=x/\x<=100000))
theorem aE8 (x y:Int):(x == y)=decide (x=y):=by by_cases h:x=y<;>simp[h]
theorem aPu (x y:Int):(x != y)=!decide (x=y):=by by_cases h:x=y<;>simp[h]
theorem aOj:Sat prog cxT 123 (aKN mR):=aYm eG aDs mR λx t h=>by
 cases h;refine⟨0,?_⟩;show aIO eG 0 x=some (decide (0<=x/\x<=100000))
 (try unfold aNA);unfold aIO G123;dsimp only[dX]
 simp only[eG,aP,sC];rw[aE8];by_cases h:x=0
 ·rw[dt h,cond_true,dt (by omega)]
 ·rw[df h,cond_false];exact congrArg some (decide_eq_decide.2 (by omega))
def mQ (x:Int×Int):Option Bool:=some (decide (x.1=-1) || aAr x.2 x.1)
theorem aOi:Sat prog cxT 124 (aKM mQ):=aYl dD aCz mQ λx t h=>by
 obtain⟨a,b⟩:=x;cases h;refine⟨0,?_⟩;show aIN dD 0 a b=some (decide (a=-1) || aAr b a)
 (try unfold aNz);unfold aIN G124;dsimp only[dX]
 simp only[dD,aP];rw[aE8];by_cases h:a=-1
 ·rw[dt h];rfl
 ·rw[df h];rfl
def mP (x:Int):Option Bool:=some (decide (0<=x/\x<=2))
theorem aOh:Sat prog cxT 125 (aKL mP):=aYk cE vT mP λx t h=>by cases h;exact⟨0,rfl⟩
def xS (x:Nd):Option Int:=some (x.2.2.2.2.1.length:Int)
theorem aQR:Sat prog cxT 87 (c87 xS):=s87 eU aEr xS λx t h=>by cases h;exact⟨0,rfl⟩
def vq (p:Int)(v:List Int)(j:Nat):Bool:=aAr p (v.getD j 0)&&decide ((if j=0 then -1 else v.getD (j-1) 0) < v.getD j 0)
theorem aMy (L:Nat)(x:Nd)(hv:x.2.2.2.2.2.2.2.1.length<=1000000000)(K:Option Bool):∀ (n i:Nat) (ah:Int),ah=(if i=0 then -1 else x.2.2.2.2.2.2.2.1.getD (i-1) 0)->i<=x.2.2.2.2.2.2.2.1.length->x.2.2.2.2.2.2.2.1.length < n+i->
  tP dD L x n ah (i:Int) K=bif pP (vq x.2.1 x.2.2.2.2.2.2.2.1) (x.2.2.2.2.2.2.2.1.length-i) i then K else some false
 | 0,i,ah,_,h0,h=>by omega
 | n+1,i,ah,ha,h0,h=>by
  unfold tP B128_0;dsimp only[dX];by_cases hi:i < x.2.2.2.2.2.2.2.1.length
  ·simp(disch:=omega) only[dX,dt,wi,cond_true,bM,bB];rw[show dD (x.2.2.2.2.2.2.2.1.getD i 0,x.2.1)=some (aAr x.2.1 (x.2.2.2.2.2.2.2.1.getD i 0)) from rfl,aP,show x.2.2.2.2.2.2.2.1.length-i=x.2.2.2.2.2.2.2.1.length-(i+1)+1 by omega];unfold pP;rw[show vq x.2.1 x.2.2.2.2.2.2.2.1 i=(aAr x.2.1 (x.2.2.2.2.2.2.2.1.getD i 0)&&decide (ah < x.2.2.2.2.2.2.2.1.getD i 0))by rw[ha];rfl];cases hq:aAr x.2.1 (x.2.2.2.2.2.2.2.1.getD i 0)
   ·rfl
   ·by_cases hg:x.2.2.2.2.2.2.2.1.getD i 0<=ah
    ·rw[dt hg,df (show ¬ ah < _ by omega)];rfl
    ·rw[df hg,dt (show ah < x.2.2.2.2.2.2.2.1.getD i 0 by omega),cC,cond_false,cond_false,show(i:Int)+1=((i+1:Nat):Int)by omega,aMy L x hv K n (i+1) _ (by rw[if_neg (by omega)];rfl) (by omega) (by omega)]
     rfl
  ·rw[df (by omega),cond_false,show x.2.2.2.2.2.2.2.1.length-i=0 by omega]
   rfl
theorem uV {p i:Int}(hp:1<=p/\p<=5):aAr p i=uW p i:=by
 unfold aAr uW;rw[wi (show -9223372036854775808<=p-1 by omega) (by omega)];exact decide_eq_decide.2 (by omega)
theorem aQJ {p:Int}(hp:1<=p/\p<=5)(v:List Int):pP (vq p v) v.length 0=(wV v&&ids p v):=by
 rw[Bool.eq_iff_iff,aD];unfold wV ids;rw[yZ,yZ,yZ];constructor
 ·intro h;refine⟨λj h1 h2=>?_,λj h1 h2=>?_⟩
  ·have:=h j (by omega) (by omega);simp only[vq,aD,decide_eq_true_eq]at this ⊢;have:=this.2;rw[if_neg (by omega)]at this;exact this
  ·have:=h j (by omega) (by omega);simp only[vq,aD]at this;rw[uV hp]at this;exact this.1
 ·rintro⟨h1,h2⟩ j h3 h4;have k:=h2 j h3 h4;simp only[vq,aD,decide_eq_true_eq];rw[uV hp];refine⟨k,?_⟩;split
  ·rw[<-uV hp]at k;have:=of_decide_eq_true k;omega
  ·have:=h1 j (by omega) (by omega);simpa using this
def hv (x:Nd):Bool:=wV x.2.2.2.2.2.2.2.1&&(decide (x.2.2.2.2.2.2.2.1=[]) || x.2.2.2.2.2.1 == 1)&&ids x.2.1 x.2.2.2.2.2.2.2.1
def lW (x:Nd):Option Bool:=if nK x lN/\1<=x.2.1/\x.2.1<=5 then some (hv x)else none
theorem aOg:Sat prog cxT 128 (aKK lW):=aYh dD aCz lW λx t h=>by
 unfold lW at h;split at h
 ·rename_i hc;cases h;obtain⟨hl,hp⟩:=hc;refine⟨x.2.2.2.2.2.2.2.1.length+1,?_⟩;show aIL dD _ x=_
  (try unfold aNw);unfold aIL A128_0 G128;dsimp only[dX]
  have e:=aMy (x.2.2.2.2.2.2.2.1.length+1) x hl.2.1 (some true) (x.2.2.2.2.2.2.2.1.length+1) 0 (-1) rfl (by omega) (by omega);rw[nI,aQJ hp]at e;simp only[jM]at e;rw[e,aPu];unfold hv;rw[aE8];have eb:∀ b:Bool,(bif b then some true else some false)=some b:=λb=>by cases b<;>rfl
  rw[eb];by_cases hr:x.2.2.2.2.2.1=1
  ·rw[dt hr,cC,cond_false,Bool.or_true,Bool.and_true]
  ·rw[df hr,kY,cond_true,Bool.or_false];by_cases hn:x.2.2.2.2.2.2.2.1=[]
   ·rw[dt hn,hn];simp
   ·rw[df hn];have:x.2.2.2.2.2.2.2.1.length≠0:=λh=>hn (bH h)
    rw[dt (show(x.2.2.2.2.2.2.2.1.length:Int) > 0 by omega),cond_true,Bool.and_false,Bool.false_and]
 ·cases h
def hr (x:Nd):Bool:=decide ((x.2.2.2.2.2.2.2.2.1.length:Int)=if x.2.2.2.2.2.1=2 then x.2.1 else 0)&&decide ((x.2.2.2.2.2.2.2.2.2.length:Int)=if x.2.2.2.2.2.1=2 then x.2.1 else 0)
theorem aDI (x:Nd):xA x=(hv x&&hr x):=rfl
def mO (x:Nd):Option Bool:=some (hr x)
theorem aOf:Sat prog cxT 129 (aKJ mO):=aYg mO λx t h=>by
 cases h;refine⟨0,?_⟩;show aIK 0 x=some (hr x)
 (try unfold aNv);unfold aIK G129 hr;dsimp only[dX]
 rw[aPu,aE8,aE8,aE8,aE8];by_cases h2:x.2.2.2.2.2.1=2
 ·rw[dt h2,if_pos h2,cC,cond_false];cases decide ((x.2.2.2.2.2.2.2.2.1.length:Int)=x.2.1)<;>rfl
 ·rw[df h2,if_neg h2,kY,cond_true];cases decide ((x.2.2.2.2.2.2.2.2.1.length:Int)=0)<;>rfl
def btw (l h:Int)(a:List Int)(i:Nat):Bool:=decide (l<=a.getD i 0/\a.getD i 0<=h)
theorem aMx (L:Nat)(a:List Int)(l h:Int)(ha:a.length<=1000000000)(K:Option Bool):∀ (n i:Nat),i<=a.length->a.length < n+i->
  tO cE L a l h n (i:Int) K=bif pP (btw l h a) (a.length-i) i then K else some false
 | 0,i,h0,h=>by omega
 | n+1,i,h0,hn=>by
  unfold tO B130_0;dsimp only[dX];by_cases hi:i < a.length
  ·simp(disch:=omega) only[dX,dt,wi,cond_true,bM,bB];rw[show cE (a.getD i 0,l,h)=some (btw l h a i) from rfl,aP,show a.length-i=a.length-(i+1)+1 by omega];unfold pP;cases btw l h a i
   ·rfl
   ·rw[cC,cond_false,show(i:Int)+1=((i+1:Nat):Int)by omega,aMx L a l h ha K n (i+1) (by omega) (by omega),fF]
  ·rw[df (by omega),cond_false,show a.length-i=0 by omega]
   rfl
def lB (x:List Int×Int×Int):Option Bool:=if x.1.length<=lN then some (pP (btw x.2.1 x.2.2 x.1) x.1.length 0)else none
theorem aOe:Sat prog cxT 130 (aKI lB):=aYf cE vT lB λx t h=>by
 obtain⟨a,l,u⟩:=x;unfold lB at h;split at h
 ·rename_i hm;cases h;refine⟨a.length+1,?_⟩;have e:=aMx (a.length+1) a l u hm (some true) (a.length+1) 0 (by omega) (by omega);simp only[jM,nI]at e;show aIJ cE _ a l u=_
  (try unfold aNu);unfold aIJ A130_0 G130;dsimp only[dX]
  rw[e];cases pP (btw l u a) a.length 0<;>rfl
 ·cases h
theorem aF4 {p q:Nat->Bool}:∀ (n i:Nat),pP (λj=>p j&&q j) n i=(pP p n i&&pP q n i)
 | 0,i=>rfl
 | n+1,i=>by
  show((p i&&q i)&&pP _ n (i+1))=((p i&&pP p n (i+1))&&(q i&&pP q n (i+1)))
  rw[aF4 n (i+1)];cases p i<;>cases q i<;>simp
theorem aRL {x:Nd}(h:x.2.2.2.2.2.2.2.2.2.length=x.2.2.2.2.2.2.2.2.1.length):pP (aFG x) x.2.2.2.2.2.2.2.2.1.length 0=(pP (btw 1 ((x.2.2.2.2.1.length:Int)+1) x.2.2.2.2.2.2.2.2.1) x.2.2.2.2.2.2.2.2.1.length 0&&pP (btw 0 (x.2.2.2.2.1.length:Int) x.2.2.2.2.2.2.2.2.2) x.2.2.2.2.2.2.2.2.2.length 0):=by
 rw[h];exact aF4 _ _
theorem aOM (a:List En):qH a=some (tL a):=rfl
theorem aHF:Sat prog cxT 106 (aHd eF):=aYB jC dD mR mQ mP qH jX xS cE lW mO lB aLc aCz aOj aOi aOh aHD aHC aQR vT aOg aOf aOe eF λx t h=>by
 obtain⟨a,b,c,d,lg,e,f,vt,nx,mt⟩:=x;unfold eF at h;split at h
 ·rename_i hm;cases h;have hl:=hm;obtain⟨h1,h2,h3,h4⟩:=hm;refine⟨0,?_⟩;show aIW jC dD mR mQ mP qH jX xS cE lW mO lB 0 a b c d lg e f vt nx mt=_
  (try unfold aNG);unfold aIW G106 ndF;dsimp only[dX]
  simp only[jC,dD,mR,mQ,mP,xS,cE,mO,aP,aOM];by_cases hp:1<=b/\b<=5
  case neg=>rw[df hp];rfl
  rw[dt hp];simp only[cC,cond_false];rw[uV hp];cases hi:uW b a
  case false=>rfl
  simp only[cC,cond_false];cases ht:decide (0<=c/\c<=100000)
  case false=>rfl
  simp only[cC,cond_false];rw[show(decide (d=-1) || aAr b d)=decide (-1<=d/\d<=wrap .i64 (b-1))by
   rw[wi (show -9223372036854775808<=b-1 by omega) (by omega)];unfold aAr;rw[<-fX];exact decide_eq_decide.2 (by omega)]
  cases hd:decide (-1<=d/\d<=wrap .i64 (b-1))
  case false=>rfl
  simp only[cC,cond_false];cases hro:decide (0<=e/\e<=2)
  case false=>rfl
  simp only[cC,cond_false];have bq:∀ (b:Bool) (u v:Int),(bif b then some u else some v)=some (bif b then u else v):=λb u v=>by cases b<;>rfl
  cases hlf:tL lg != 0
  case true=>rfl
  simp only[cond_false];rw[show jX lg=some (lO lg) from if_pos h1];simp only[aP];cases htm:decide ((lO lg).1 > c)
  case true=>rfl
  simp only[cond_false];cases hcm:decide (0<=f/\f<=(lg.length:Int))
  case false=>rfl
  simp only[cC,cond_false];rw[show lW (a,b,c,d,lg,e,f,vt,nx,mt)=some (hv (a,b,c,d,lg,e,f,vt,nx,mt)) from if_pos ⟨hl,hp⟩];simp only[aP];rw[aDI];cases hhv:hv (a,b,c,d,lg,e,f,vt,nx,mt)
  case false=>rfl
  simp only[cC,cond_false,fF];cases hhr:hr (a,b,c,d,lg,e,f,vt,nx,mt)
  case false=>rfl
  simp only[cC,cond_false];have hlen:=aCb (x:=(a,b,c,d,lg,e,f,vt,nx,mt)) (by rw[aDI,hhv,hhr];rfl);rw[aRL hlen];simp only[lN]at h1;rw[wi (show -9223372036854775808<=(lg.length:Int)+1 by omega) (by omega)];rw[show lB (nx,1,(lg.length:Int)+1)=some (pP (btw 1 ((lg.length:Int)+1) nx) nx.length 0) from if_pos h3,
   show lB (mt,0,(lg.length:Int))=some (pP (btw 0 (lg.length:Int) mt) mt.length 0) from if_pos h4]
  simp only[aP];cases pP (btw 1 ((lg.length:Int)+1) nx) nx.length 0
  case false=>rfl
  simp only[cC,cond_false,fF];cases pP (btw 0 (lg.length:Int) mt) mt.length 0
  case false=>rfl
  simp only[cC,cond_false,cond_true];unfold aJa;simp only[bq]
 ·cases h
theorem bqi (b:Bool)(u v:Int):(bif b then some u else some v)=some (bif b then u else v):=by cases b<;>rfl
theorem aHY {x:Nd}(h:ndF x=0):1<=x.2.1/\x.2.1<=5:=by
 unfold ndF at h;by_cases hp:1<=x.2.1/\x.2.1<=5
 ·exact hp
 ·rw[df hp]at h;cases h
end Go.Proofs.Tryz
set_option maxHeartbeats 0
namespace Go.Proofs.Tryz
open Go.IntKind (wrap)
open Go Go.VM Go.RowKit
def zk (k i l c:Int):Bool:=bif k == 1 then c == 0 else bif k == 2 then(bif i == 0 then(bif l == 0 then c == 0 else false)else false)else bif k == 4 then(bif l == 0 then c == 0 else false)else true
theorem aFc (k i l c:Int):(bif (k == (1:Int))then some (c == (0:Int))else bif (k == (2:Int))then bif (i == (0:Int))then bif (l == (0:Int))then some (c == (0:Int))else some Bool.false else some Bool.false else bif (k == (4:Int))then bif (l == (0:Int))then some (c == (0:Int))else some Bool.false else some Bool.true)=some (zk k i l c):=by
 unfold zk;cases k == 1<;>cases k == 2<;>cases k == 4<;>cases i == 0<;>cases l == 0<;>rfl
def jD (m:Ml):Option Bool:=some (zk m.1 m.2.2.2.2.1 m.2.2.2.2.2.1 m.2.2.2.2.2.2.1)
theorem aOx:Sat prog cxT 100 (aKU jD):=aYG jD λx t h=>by
 obtain⟨a,b,c,d,e,f,g,o,l⟩:=x;cases h;exact⟨0,aFc a e f g⟩
theorem aOb:Sat prog cxT 133 (aKF jD):=aYc jD λx t h=>by
 obtain⟨a,b,c,d,e,f,g,o,l⟩:=x;cases h;exact⟨0,aFc a e f g⟩
def okK (m:Ml):Bool:=!m.2.2.2.2.2.2.2.1 || m.1 == 2 || m.1 == 4
def mN (m:Ml):Option Bool:=some (okK m)
theorem aOc:Sat prog cxT 132 (aKG mN):=aYd mN λx t h=>by
 obtain⟨a,b,c,d,e,f,g,o,l⟩:=x;cases h;refine⟨0,?_⟩;show aIH 0 a b c d e f g o l=some (!o || a == 2 || a == 4)
 (try unfold aNs);unfold aIH G132;dsimp only[dX]
 cases o<;>cases a == 2<;>cases a == 4<;>rfl
def heK (m:Ml):Bool:=decide ((wI m).length=0) || (m.1 == 3&&decide ((lO (wI m)).1<=m.2.2.2.1)&&decide (((wI m).getD 0 jG).1>=m.2.2.2.2.2.1))
def lV (m:Ml):Option Bool:=if(wI m).length<=lN then some (heK m)else none
theorem aYY (n:Nat):((n:Int) == 0)=decide (n=0):=by by_cases h:n=0<;>simp[h]
theorem aOd:Sat prog cxT 131 (aKH lV):=aYe jX aHC lV λx t h=>by
 obtain⟨a,b,c,d,e,f,g,o,l⟩:=x;unfold lV at h;split at h
 ·rename_i hm;cases h;refine⟨0,?_⟩;show aII jX 0 a b c d e f g o l=some (decide (l.length=0) || (a == 3&&decide ((lO l).1<=d)&&decide ((l.getD 0 jG).1>=f)))
  (try unfold aNt);unfold aII G131;dsimp only[dX]
  rw[show jX l=some (lO l) from if_pos hm];simp only[aP];rw[aYY];by_cases h0:l.length=0
  ·rw[dt h0];rfl
  ·rw[df h0,cond_false,pL,dt (iH 0),dt (show(0:Int) < (l.length:Int)by omega)];cases a == 3
   ·rfl
   ·cases decide ((lO l).1<=d)<;>rfl
 ·cases h
def mlB (x:Nd)(m:Ml):Int:=
 bif !decide (1<=m.1/\m.1<=4)then 5 else bif !uW x.2.1 m.2.1 then 3 else bif m.2.1 == x.1 then 3 else bif m.2.2.1 != x.1 then 3
 else bif !decide (1<=m.2.2.2.1/\m.2.2.2.1<=100000)then 3 else bif !decide (0<=m.2.2.2.2.1/\m.2.2.2.2.1<=40)then 3 else bif !decide (0<=m.2.2.2.2.2.1/\m.2.2.2.2.2.1<=m.2.2.2.1)then 3 else bif !decide (0<=m.2.2.2.2.2.2.1/\m.2.2.2.2.2.2.1<=40)then 3
 else bif tL (wI m) != 0 then tL (wI m)else bif !heK m then 1 else bif !okK m then 1 else bif !zk m.1 m.2.2.2.2.1 m.2.2.2.2.2.1 m.2.2.2.2.2.2.1 then 1 else bif m.2.2.2.2.1 == 0 then(bif m.2.2.2.2.2.1 != 0 then 1 else 0)else 0
def mlF (x:Nd)(m:Ml):Int:=bif ndF x != 0 then ndF x else mlB x m
def eL (x:Nd×Ml):Option Int:=if(wI x.2).length<=lN then some (mlB x.1 x.2)else none
theorem aNK (o:Bool)(a e f g:Int)(T:Option Int):(bif o then bif (a != (2:Int))then bif (a != (4:Int))then some (1:Int)else T else T else T)=(bif !(!o || a == 2 || a == 4)then some 1 else T):=by
 cases o
 ·rfl
 ·show(bif !(a == 2)then bif !(a == 4)then some (1:Int)else T else T)=_;cases a == 2
  ·cases a == 4<;>rfl
  ·rfl
theorem aQ3:Sat prog cxT 69 (c69 eL):=s69 bN fL qH jX jD nA aHz aK8 aK7 aOx eL λx t h=>by
 obtain⟨x,a,b,c,d,e,f,g,o,l⟩:=x;unfold eL at h;split at h
 ·rename_i hm;have hm:l.length<=1000000000:=hm;cases h;refine⟨0,?_⟩;show g69 bN fL qH jX jD 0 x a b c d e f g o l=_
  (try unfold w69);unfold g69 G69 mlB;dsimp only[dX]
  rw[show jX l=some (lO l) from if_pos hm];simp only[bN,fL,jD,aP,show qH l=some (tL l) from rfl,aNK o a e f g];show(bif !decide (1<=a/\a<=4)then some 5 else bif !uW x.2.1 b then some 3 else _)=some (bif !decide (1<=a/\a<=4)then 5 else bif !uW x.2.1 b then 3 else _);cases decide (1<=a/\a<=4)
  case false=>rfl
  cases uW x.2.1 b
  case false=>rfl
  simp only[cC,cond_false];cases b == x.1
  case true=>rfl
  simp only[cond_false];cases c != x.1
  case true=>rfl
  simp only[cond_false];cases decide (1<=d/\d<=100000)
  case false=>rfl
  simp only[cC,cond_false];cases decide (0<=e/\e<=40)
  case false=>rfl
  simp only[cC,cond_false];cases decide (0<=f/\f<=d)
  case false=>rfl
  simp only[cC,cond_false];cases decide (0<=g/\g<=40)
  case false=>rfl
  simp only[cC,cond_false];simp only[wI];cases tL l != 0
  case true=>rfl
  simp only[cond_false];have e1:(bif !zk a e f g then some (1:Int)else bif (e == (0:Int))then bif (f != (0:Int))then some (1:Int)else some (0:Int)else some (0:Int))=some (bif !zk a e f g then 1 else bif e == 0 then(bif f != 0 then 1 else 0)else 0):=by simp only[bqi]
  rw[show heK (a,b,c,d,e,f,g,o,l)=(decide (l.length=0) || (a == 3&&decide ((lO l).1<=d)&&decide ((l.getD 0 jG).1>=f))) from rfl,show okK (a,b,c,d,e,f,g,o,l)=(!o || a == 2 || a == 4) from rfl];simp only[e1];by_cases h0:l.length=0
  ·rw[df (show ¬ (l.length:Int) > 0 by omega),dt h0];simp only[cond_false,Bool.true_or,cC];exact bqi _ _ _
  ·rw[dt (show(l.length:Int) > 0 by omega),df h0,dt (iH 0)];simp only[cond_true,bM,pL];show(bif !(a == 3)then some (1:Int)else _)=_;cases a == 3
   case false=>rfl
   simp only[cC,cond_false,fF];by_cases h1:(lO l).1 > d
   ·rw[dt h1,df (show ¬ (lO l).1<=d by omega)];rfl
   ·rw[df h1,dt (show(lO l).1<=d by omega)];simp only[cond_false,fF];show(bif decide ((l.getD 0 jG).1 < f)then _ else _)=_;by_cases h2:(l.getD 0 jG).1 < f
    ·rw[dt h2,df (show ¬ (l.getD 0 jG).1>=f by omega)];rfl
    ·rw[df h2,dt (show(l.getD 0 jG).1>=f by omega)];simp only[cond_false,cC];exact bqi _ _ _
 ·cases h
def mK (x:Ml×Int):Option Int:=if 0<=x.2/\x.2<=1048576/\(wI x.1).length<=top then some (pM x.2 ((wI x.1).length:Int))else none
theorem aQ6:Sat prog cxT 66 (c66 mK):=s66 mZ aK9 mK λx t h=>by
 obtain⟨⟨ma,mb,mc,md,me,mf,mg,mo,ml⟩,v⟩:=x;unfold mK at h;split at h
 ·rename_i hm;cases h;refine⟨0,?_⟩;show g66 mZ 0 ma mb mc md me mf mg mo ml v=some (pM v (ml.length:Int))
  (try unfold w66);unfold g66 G66;dsimp only[dX]
  rw[show mZ (ml,v)=some (pM v (ml.length:Int)) from if_pos ⟨hm.2.2,hm.1,hm.2.1⟩,aP];unfold pM;split
  ·rfl
  ·rename_i hh;rw[df hh];rfl
 ·cases h
def mI (m:Ml):Option Ml:=if(wI m).length<=lN then some m else none
theorem aQ1:Sat prog cxT 73 (c73 mI):=s73 gS aHH mI λx t h=>by
 obtain⟨ma,mb,mc,md,me,mf,mg,mo,ml⟩:=x;unfold mI at h;split at h
 ·rename_i hm;cases h;refine⟨0,?_⟩;show g73 gS 0 ma mb mc md me mf mg mo ml=_
  (try unfold w73);unfold g73 G73;dsimp only[dX]
  rw[show gS ml=some ml from if_pos hm,aP]
 ·cases h
end Go.Proofs.Tryz
