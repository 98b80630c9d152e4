/- A part of the proof of FnExactSafeCluster: LmRa, LmRc. -/
import Derived.Test.YtnmbggfkmkcmkaaGreatLmPq
import Derived.Test.YtnmbggfkmkcmkaaGreatLmFi
set_option linter.unusedSimpArgs false
set_option linter.unusedVariables false
set_option maxHeartbeats 0
namespace Go.Proofs.Tryz
open Go.IntKind (wrap)
open Go Go.VM Go.RowKit
theorem aTq {a b c:Int}:(bif decide (a>=b)then some (decide (a<=c))else some false)=some (decide (b<=a/\a<=c)):=by
 by_cases h:a>=b
 ·rw[dt h,cond_true];exact congrArg some (decide_eq_decide.2 ⟨λk=>⟨h,k⟩,λk=>k.2⟩)
 ·rw[df h,cond_false,df (λk=>h k.1)]
def cE (x:Int×Int×Int):Option Bool:=some (decide (x.2.1<=x.1/\x.1<=x.2.2))
theorem wE:Sat prog cxT 105 (vX cE):=aZJ cE λx t h=>by
 obtain⟨a,b,c⟩:=x;cases h;exact⟨0,aTq⟩
def jI (p:Int):Option Bool:=some (decide (1<=p/\p<=5))
theorem aLk:Sat prog cxT 76 (c76 jI):=s76 cE wE jI λx t h=>by cases h;exact⟨0,rfl⟩
def aAv (p i:Int):Bool:=decide (0<=i/\i < p)
def dH (x:Int×Int):Option Bool:=some (aAv x.2 x.1)
theorem aCz:Sat prog cxT 122 (aBM dH):=aZs dH λx t h=>by
 obtain⟨a,b⟩:=x;cases h;refine⟨0,?_⟩;show aJd 0 a b=some (decide (0<=a/\a < b))
 (try unfold aN1);unfold aJd G122;dsimp only[eF]
 by_cases h:a>=0
 ·rw[dt h,cond_true];exact congrArg some (decide_eq_decide.2 ⟨λk=>⟨h,k⟩,λk=>k.2⟩)
 ·rw[df h,cond_false,df (λk=>h k.1)]
def eI (x:Int):Option Bool:=some (sS x)
def mX (x:Int):Option Bool:=some (decide (0<=x/\x<=100000))
theorem aFu (x y:Int):(x == y)=decide (x=y):=by by_cases h:x=y<;>simp[h]
theorem aP1 (x y:Int):(x != y)=!decide (x=y):=by by_cases h:x=y<;>simp[h]
theorem aOJ:Sat prog cxT 123 (aKS mX):=aZr eI aDv mX λx t h=>by
 cases h;refine⟨0,?_⟩;show aJc eI 0 x=some (decide (0<=x/\x<=100000))
 (try unfold aN0);unfold aJc G123;dsimp only[eF]
 simp only[eI,aR,sS];rw[aFu];by_cases h:x=0
 ·rw[dt h,cond_true,dt (by omega)]
 ·rw[df h,cond_false];exact congrArg some (decide_eq_decide.2 (by omega))
def mW (x:Int×Int):Option Bool:=some (decide (x.1=-1) || aAv x.2 x.1)
theorem aOI:Sat prog cxT 124 (aKR mW):=aZq dH aCz mW λx t h=>by
 obtain⟨a,b⟩:=x;cases h;refine⟨0,?_⟩;show aJb dH 0 a b=some (decide (a=-1) || aAv b a)
 (try unfold aNZ);unfold aJb G124;dsimp only[eF]
 simp only[dH,aR];rw[aFu];by_cases h:a=-1
 ·rw[dt h];rfl
 ·rw[df h];rfl
def mV (x:Int):Option Bool:=some (decide (0<=x/\x<=2))
theorem aOH:Sat prog cxT 125 (aKQ mV):=aZp cE wE mV λx t h=>by cases h;exact⟨0,rfl⟩
def iN (x:Nd):Option Int:=some (x.2.2.2.2.1.length:Int)
theorem aLi:Sat prog cxT 87 (c87 iN):=s87 dI aCA iN λx t h=>by cases h;exact⟨0,rfl⟩
def vq (p:Int)(v:List Int)(j:Nat):Bool:=aAv p (v.getD j 0)&&decide ((if j=0 then -1 else v.getD (j-1) 0) < v.getD j 0)
theorem aMU (L:Nat)(x:Nd)(hv:x.2.2.2.2.2.2.2.1.length<=1000000000)(K:Option Bool):∀ (n i:Nat) (ah:Int),ah=(if i=0 then -1 else x.2.2.2.2.2.2.2.1.getD (i-1) 0)->i<=x.2.2.2.2.2.2.2.1.length->x.2.2.2.2.2.2.2.1.length < n+i->
  uE dH L x n ah (i:Int) K=bif jW (vq x.2.1 x.2.2.2.2.2.2.2.1) (x.2.2.2.2.2.2.2.1.length-i) i then K else some false
 | 0,i,ah,_,h0,h=>by omega
 | n+1,i,ah,ha,h0,h=>by
  unfold uE B128_0;dsimp only[eF];by_cases hi:i < x.2.2.2.2.2.2.2.1.length
  ·simp(disch:=omega) only[eF,dt,wi,cond_true,bK,aY];rw[show dH (x.2.2.2.2.2.2.2.1.getD i 0,x.2.1)=some (aAv x.2.1 (x.2.2.2.2.2.2.2.1.getD i 0)) from rfl,aR,show x.2.2.2.2.2.2.2.1.length-i=x.2.2.2.2.2.2.2.1.length-(i+1)+1 by omega];unfold jW;rw[show vq x.2.1 x.2.2.2.2.2.2.2.1 i=(aAv x.2.1 (x.2.2.2.2.2.2.2.1.getD i 0)&&decide (ah < x.2.2.2.2.2.2.2.1.getD i 0))by rw[ha];rfl];cases hq:aAv x.2.1 (x.2.2.2.2.2.2.2.1.getD i 0)
   ·rfl
   ·by_cases hg:x.2.2.2.2.2.2.2.1.getD i 0<=ah
    ·rw[dt hg,df (show ¬ ah < _ by omega)];rfl
    ·rw[df hg,dt (show ah < x.2.2.2.2.2.2.2.1.getD i 0 by omega),cI,cond_false,cond_false,show(i:Int)+1=((i+1:Nat):Int)by omega,aMU L x hv K n (i+1) _ (by rw[if_neg (by omega)];rfl) (by omega) (by omega)]
     rfl
  ·rw[df (by omega),cond_false,show x.2.2.2.2.2.2.2.1.length-i=0 by omega]
   rfl
theorem vN {p i:Int}(hp:1<=p/\p<=5):aAv p i=vO p i:=by
 unfold aAv vO;rw[wi (show -9223372036854775808<=p-1 by omega) (by omega)];exact decide_eq_decide.2 (by omega)
theorem aRx {p:Int}(hp:1<=p/\p<=5)(v:List Int):jW (vq p v) v.length 0=(xA v&&ids p v):=by
 rw[Bool.eq_iff_iff,aD];unfold xA ids;rw[pR,pR,pR];constructor
 ·intro h;refine⟨λj h1 h2=>?_,λj h1 h2=>?_⟩
  ·have:=h j (by omega) (by omega);simp only[vq,aD,decide_eq_true_eq]at this ⊢;have:=this.2;rw[if_neg (by omega)]at this;exact this
  ·have:=h j (by omega) (by omega);simp only[vq,aD]at this;rw[vN hp]at this;exact this.1
 ·rintro⟨h1,h2⟩ j h3 h4;have k:=h2 j h3 h4;simp only[vq,aD,decide_eq_true_eq];rw[vN hp];refine⟨k,?_⟩;split
  ·rw[<-vN hp]at k;have:=of_decide_eq_true k;omega
  ·have:=h1 j (by omega) (by omega);simpa using this
def hv (x:Nd):Bool:=xA x.2.2.2.2.2.2.2.1&&(decide (x.2.2.2.2.2.2.2.1=[]) || x.2.2.2.2.2.1 == 1)&&ids x.2.1 x.2.2.2.2.2.2.2.1
def mA (x:Nd):Option Bool:=if mM x jL/\1<=x.2.1/\x.2.1<=5 then some (hv x)else none
theorem aOG:Sat prog cxT 128 (aKP mA):=aZm dH aCz mA λx t h=>by
 unfold mA at h;split at h
 ·rename_i hc;cases h;obtain⟨hl,hp⟩:=hc;refine⟨x.2.2.2.2.2.2.2.1.length+1,?_⟩;show aI9 dH _ x=_
  (try unfold aNW);unfold aI9 A128_0 G128;dsimp only[eF]
  have e:=aMU (x.2.2.2.2.2.2.2.1.length+1) x hl.2.1 (some true) (x.2.2.2.2.2.2.2.1.length+1) 0 (-1) rfl (by omega) (by omega);rw[nY,aRx hp]at e;simp only[lS]at e;rw[e,aP1];unfold hv;rw[aFu];have eb:∀ b:Bool,(bif b then some true else some false)=some b:=λb=>by cases b<;>rfl
  rw[eb];by_cases hr:x.2.2.2.2.2.1=1
  ·rw[dt hr,cI,cond_false,Bool.or_true,Bool.and_true]
  ·rw[df hr,lB,cond_true,Bool.or_false];by_cases hn:x.2.2.2.2.2.2.2.1=[]
   ·rw[dt hn,hn];simp
   ·rw[df hn];have:x.2.2.2.2.2.2.2.1.length≠0:=λh=>hn (bJ h)
    rw[dt (show(x.2.2.2.2.2.2.2.1.length:Int) > 0 by omega),cond_true,Bool.and_false,Bool.false_and]
 ·cases h
def hr (x:Nd):Bool:=decide ((x.2.2.2.2.2.2.2.2.1.length:Int)=if x.2.2.2.2.2.1=2 then x.2.1 else 0)&&decide ((x.2.2.2.2.2.2.2.2.2.length:Int)=if x.2.2.2.2.2.1=2 then x.2.1 else 0)
theorem aDQ (x:Nd):xD x=(hv x&&hr x):=rfl
def mU (x:Nd):Option Bool:=some (hr x)
theorem aOF:Sat prog cxT 129 (aKO mU):=aZl mU λx t h=>by
 cases h;refine⟨0,?_⟩;show aI8 0 x=some (hr x)
 (try unfold aNV);unfold aI8 G129 hr;dsimp only[eF]
 rw[aP1,aFu,aFu,aFu,aFu];by_cases h2:x.2.2.2.2.2.1=2
 ·rw[dt h2,if_pos h2,cI,cond_false];cases decide ((x.2.2.2.2.2.2.2.2.1.length:Int)=x.2.1)<;>rfl
 ·rw[df h2,if_neg h2,lB,cond_true];cases decide ((x.2.2.2.2.2.2.2.2.1.length:Int)=0)<;>rfl
def btw (l h:Int)(a:List Int)(i:Nat):Bool:=decide (l<=a.getD i 0/\a.getD i 0<=h)
theorem aMT (L:Nat)(a:List Int)(l h:Int)(ha:a.length<=1000000000)(K:Option Bool):∀ (n i:Nat),i<=a.length->a.length < n+i->
  uD cE L a l h n (i:Int) K=bif jW (btw l h a) (a.length-i) i then K else some false
 | 0,i,h0,h=>by omega
 | n+1,i,h0,hn=>by
  unfold uD B130_0;dsimp only[eF];by_cases hi:i < a.length
  ·simp(disch:=omega) only[eF,dt,wi,cond_true,bK,aY];rw[show cE (a.getD i 0,l,h)=some (btw l h a i) from rfl,aR,show a.length-i=a.length-(i+1)+1 by omega];unfold jW;cases btw l h a i
   ·rfl
   ·rw[cI,cond_false,show(i:Int)+1=((i+1:Nat):Int)by omega,aMT L a l h ha K n (i+1) (by omega) (by omega),dW]
  ·rw[df (by omega),cond_false,show a.length-i=0 by omega]
   rfl
def lG (x:List Int×Int×Int):Option Bool:=if x.1.length<=jL then some (jW (btw x.2.1 x.2.2 x.1) x.1.length 0)else none
theorem aOE:Sat prog cxT 130 (aKN lG):=aZk cE wE lG λx t h=>by
 obtain⟨a,l,u⟩:=x;unfold lG at h;split at h
 ·rename_i hm;cases h;refine⟨a.length+1,?_⟩;have e:=aMT (a.length+1) a l u hm (some true) (a.length+1) 0 (by omega) (by omega);simp only[lS,nY]at e;show aI7 cE _ a l u=_
  (try unfold aNU);unfold aI7 A130_0 G130;dsimp only[eF]
  rw[e];cases jW (btw l u a) a.length 0<;>rfl
 ·cases h
theorem aGm {p q:Nat->Bool}:∀ (n i:Nat),jW (λj=>p j&&q j) n i=(jW p n i&&jW q n i)
 | 0,i=>rfl
 | n+1,i=>by
  show((p i&&q i)&&jW _ n (i+1))=((p i&&jW p n (i+1))&&(q i&&jW q n (i+1)))
  rw[aGm n (i+1)];cases p i<;>cases q i<;>simp
theorem aSx {x:Nd}(h:x.2.2.2.2.2.2.2.2.2.length=x.2.2.2.2.2.2.2.2.1.length):jW (aIf x) x.2.2.2.2.2.2.2.2.1.length 0=(jW (btw 1 ((x.2.2.2.2.1.length:Int)+1) x.2.2.2.2.2.2.2.2.1) x.2.2.2.2.2.2.2.2.1.length 0&&jW (btw 0 (x.2.2.2.2.1.length:Int) x.2.2.2.2.2.2.2.2.2) x.2.2.2.2.2.2.2.2.2.length 0):=by
 rw[h];exact aGm _ _
theorem aPc (a:List En):rD a=some (uA a):=rfl
theorem aHX:Sat prog cxT 106 (aHt eH):=aZI jI dH mX mW mV rD kD iN cE mA mU lG aLk aCz aOJ aOI aOH aHV aHU aLi wE aOG aOF aOE eH λx t h=>by
 obtain⟨a,b,c,d,lg,e,f,vt,nx,mt⟩:=x;unfold eH at h;split at h
 ·rename_i hm;cases h;have hl:=hm;obtain⟨h1,h2,h3,h4⟩:=hm;refine⟨0,?_⟩;show aJl jI dH mX mW mV rD kD iN cE mA mU lG 0 a b c d lg e f vt nx mt=_
  (try unfold aN7);unfold aJl G106 ndF;dsimp only[eF]
  simp only[jI,dH,mX,mW,mV,iN,cE,mU,aR,aPc];by_cases hp:1<=b/\b<=5
  case neg=>rw[df hp];rfl
  rw[dt hp];simp only[cI,cond_false];rw[vN hp];cases hi:vO b a
  case false=>rfl
  simp only[cI,cond_false];cases ht:decide (0<=c/\c<=100000)
  case false=>rfl
  simp only[cI,cond_false];rw[show(decide (d=-1) || aAv b d)=decide (-1<=d/\d<=wrap .i64 (b-1))by
   rw[wi (show -9223372036854775808<=b-1 by omega) (by omega)];unfold aAv;rw[<-fY];exact decide_eq_decide.2 (by omega)]
  cases hd:decide (-1<=d/\d<=wrap .i64 (b-1))
  case false=>rfl
  simp only[cI,cond_false];cases hro:decide (0<=e/\e<=2)
  case false=>rfl
  simp only[cI,cond_false];have bq:∀ (b:Bool) (u v:Int),(bif b then some u else some v)=some (bif b then u else v):=λb u v=>by cases b<;>rfl
  cases hlf:uA lg != 0
  case true=>rfl
  simp only[cond_false];rw[show kD lg=some (lT lg) from if_pos h1];simp only[aR];cases htm:decide ((lT lg).1 > c)
  case true=>rfl
  simp only[cond_false];cases hcm:decide (0<=f/\f<=(lg.length:Int))
  case false=>rfl
  simp only[cI,cond_false];rw[show mA (a,b,c,d,lg,e,f,vt,nx,mt)=some (hv (a,b,c,d,lg,e,f,vt,nx,mt)) from if_pos ⟨hl,hp⟩];simp only[aR];rw[aDQ];cases hhv:hv (a,b,c,d,lg,e,f,vt,nx,mt)
  case false=>rfl
  simp only[cI,cond_false,dW];cases hhr:hr (a,b,c,d,lg,e,f,vt,nx,mt)
  case false=>rfl
  simp only[cI,cond_false];have hlen:=aCd (x:=(a,b,c,d,lg,e,f,vt,nx,mt)) (by rw[aDQ,hhv,hhr];rfl);rw[aSx hlen];simp only[jL]at h1;rw[wi (show -9223372036854775808<=(lg.length:Int)+1 by omega) (by omega)];rw[show lG (nx,1,(lg.length:Int)+1)=some (jW (btw 1 ((lg.length:Int)+1) nx) nx.length 0) from if_pos h3,
   show lG (mt,0,(lg.length:Int))=some (jW (btw 0 (lg.length:Int) mt) mt.length 0) from if_pos h4]
  simp only[aR];cases jW (btw 1 ((lg.length:Int)+1) nx) nx.length 0
  case false=>rfl
  simp only[cI,cond_false,dW];cases jW (btw 0 (lg.length:Int) mt) mt.length 0
  case false=>rfl
  simp only[cI,cond_false,cond_true];unfold aPM;simp only[bq]
 ·cases h
theorem bqi (b:Bool)(u v:Int):(bif b then some u else some v)=some (bif b then u else v):=by cases b<;>rfl
theorem aIg {x:Nd}(h:ndF x=0):1<=x.2.1/\x.2.1<=5:=by
 unfold ndF at h;by_cases hp:1<=x.2.1/\x.2.1<=5
 ·exact hp
 ·rw[df hp]at h;cases h
end Go.Proofs.Tryz
set_option maxHeartbeats 0
namespace Go.Proofs.Tryz
open Go.IntKind (wrap)
open Go Go.VM Go.RowKit
def zk (k i l c:Int):Bool:=bif k == 1 then c == 0 else bif k == 2 then(bif i == 0 then(bif l == 0 then c == 0 else false)else false)else bif k == 4 then(bif l == 0 then c == 0 else false)else true
theorem aFy (k i l c:Int):(bif (k == (1:Int))then some (c == (0:Int))else bif (k == (2:Int))then bif (i == (0:Int))then bif (l == (0:Int))then some (c == (0:Int))else some Bool.false else some Bool.false else bif (k == (4:Int))then bif (l == (0:Int))then some (c == (0:Int))else some Bool.false else some Bool.true)=some (zk k i l c):=by
 unfold zk;cases k == 1<;>cases k == 2<;>cases k == 4<;>cases i == 0<;>cases l == 0<;>rfl
def jJ (m:Ml):Option Bool:=some (zk m.1 m.2.2.2.2.1 m.2.2.2.2.2.1 m.2.2.2.2.2.2.1)
theorem aOZ:Sat prog cxT 100 (aK1 jJ):=aZN jJ λx t h=>by
 obtain⟨a,b,c,d,e,f,g,o,l⟩:=x;cases h;exact⟨0,aFy a e f g⟩
theorem aOB:Sat prog cxT 133 (aKK jJ):=aZh jJ λx t h=>by
 obtain⟨a,b,c,d,e,f,g,o,l⟩:=x;cases h;exact⟨0,aFy a e f g⟩
def okK (m:Ml):Bool:=!m.2.2.2.2.2.2.2.1 || m.1 == 2 || m.1 == 4
def mT (m:Ml):Option Bool:=some (okK m)
theorem aOC:Sat prog cxT 132 (aKL mT):=aZi mT λx t h=>by
 obtain⟨a,b,c,d,e,f,g,o,l⟩:=x;cases h;refine⟨0,?_⟩;show aI5 0 a b c d e f g o l=some (!o || a == 2 || a == 4)
 (try unfold aNS);unfold aI5 G132;dsimp only[eF]
 cases o<;>cases a == 2<;>cases a == 4<;>rfl
def heK (m:Ml):Bool:=decide ((enM m).length=0) || (m.1 == 3&&decide ((lT (enM m)).1<=m.2.2.2.1)&&decide (((enM m).getD 0 gB).1>=m.2.2.2.2.2.1))
def lZ (m:Ml):Option Bool:=if(enM m).length<=jL then some (heK m)else none
theorem aZ2 (n:Nat):((n:Int) == 0)=decide (n=0):=by by_cases h:n=0<;>simp[h]
theorem aOD:Sat prog cxT 131 (aKM lZ):=aZj kD aHU lZ λx t h=>by
 obtain⟨a,b,c,d,e,f,g,o,l⟩:=x;unfold lZ at h;split at h
 ·rename_i hm;cases h;refine⟨0,?_⟩;show aI6 kD 0 a b c d e f g o l=some (decide (l.length=0) || (a == 3&&decide ((lT l).1<=d)&&decide ((l.getD 0 gB).1>=f)))
  (try unfold aNT);unfold aI6 G131;dsimp only[eF]
  rw[show kD l=some (lT l) from if_pos hm];simp only[aR];rw[aZ2];by_cases h0:l.length=0
  ·rw[dt h0];rfl
  ·rw[df h0,cond_false,pX,dt (jD 0),dt (show(0:Int) < (l.length:Int)by omega)];cases a == 3
   ·rfl
   ·cases decide ((lT l).1<=d)<;>rfl
 ·cases h
def mlB (x:Nd)(m:Ml):Int:=
 bif !decide (1<=m.1/\m.1<=4)then 5 else bif !vO x.2.1 m.2.1 then 3 else bif m.2.1 == x.1 then 3 else bif m.2.2.1 != x.1 then 3
 else bif !decide (1<=m.2.2.2.1/\m.2.2.2.1<=100000)then 3 else bif !decide (0<=m.2.2.2.2.1/\m.2.2.2.2.1<=40)then 3 else bif !decide (0<=m.2.2.2.2.2.1/\m.2.2.2.2.2.1<=m.2.2.2.1)then 3 else bif !decide (0<=m.2.2.2.2.2.2.1/\m.2.2.2.2.2.2.1<=40)then 3
 else bif uA (enM m) != 0 then uA (enM m)else bif !heK m then 1 else bif !okK m then 1 else bif !zk m.1 m.2.2.2.2.1 m.2.2.2.2.2.1 m.2.2.2.2.2.2.1 then 1 else bif m.2.2.2.2.1 == 0 then(bif m.2.2.2.2.2.1 != 0 then 1 else 0)else 0
def mlF (x:Nd)(m:Ml):Int:=bif ndF x != 0 then ndF x else mlB x m
def eO (x:Nd×Ml):Option Int:=if(enM x.2).length<=jL then some (mlB x.1 x.2)else none
theorem aOb (o:Bool)(a e f g:Int)(T:Option Int):(bif o then bif (a != (2:Int))then bif (a != (4:Int))then some (1:Int)else T else T else T)=(bif !(!o || a == 2 || a == 4)then some 1 else T):=by
 cases o
 ·rfl
 ·show(bif !(a == 2)then bif !(a == 4)then some (1:Int)else T else T)=_;cases a == 2
  ·cases a == 4<;>rfl
  ·rfl
theorem aRT:Sat prog cxT 69 (c69 eO):=s69 bP fK rD kD jJ nN aHT aLe aLd aOZ eO λx t h=>by
 obtain⟨x,a,b,c,d,e,f,g,o,l⟩:=x;unfold eO at h;split at h
 ·rename_i hm;have hm:l.length<=1000000000:=hm;cases h;refine⟨0,?_⟩;show g69 bP fK rD kD jJ 0 x a b c d e f g o l=_
  (try unfold w69);unfold g69 G69 mlB;dsimp only[eF]
  rw[show kD l=some (lT l) from if_pos hm];simp only[bP,fK,jJ,aR,show rD l=some (uA l) from rfl,aOb o a e f g];show(bif !decide (1<=a/\a<=4)then some 5 else bif !vO x.2.1 b then some 3 else _)=some (bif !decide (1<=a/\a<=4)then 5 else bif !vO x.2.1 b then 3 else _);cases decide (1<=a/\a<=4)
  case false=>rfl
  cases vO x.2.1 b
  case false=>rfl
  simp only[cI,cond_false];cases b == x.1
  case true=>rfl
  simp only[cond_false];cases c != x.1
  case true=>rfl
  simp only[cond_false];cases decide (1<=d/\d<=100000)
  case false=>rfl
  simp only[cI,cond_false];cases decide (0<=e/\e<=40)
  case false=>rfl
  simp only[cI,cond_false];cases decide (0<=f/\f<=d)
  case false=>rfl
  simp only[cI,cond_false];cases decide (0<=g/\g<=40)
  case false=>rfl
  simp only[cI,cond_false];simp only[enM];cases uA l != 0
  case true=>rfl
  simp only[cond_false];have e1:(bif !zk a e f g then some (1:Int)else bif (e == (0:Int))then bif (f != (0:Int))then some (1:Int)else some (0:Int)else some (0:Int))=some (bif !zk a e f g then 1 else bif e == 0 then(bif f != 0 then 1 else 0)else 0):=by simp only[bqi]
  rw[show heK (a,b,c,d,e,f,g,o,l)=(decide (l.length=0) || (a == 3&&decide ((lT l).1<=d)&&decide ((l.getD 0 gB).1>=f))) from rfl,show okK (a,b,c,d,e,f,g,o,l)=(!o || a == 2 || a == 4) from rfl];simp only[e1];by_cases h0:l.length=0
  ·rw[df (show ¬ (l.length:Int) > 0 by omega),dt h0];simp only[cond_false,Bool.true_or,cI];exact bqi _ _ _
  ·rw[dt (show(l.length:Int) > 0 by omega),df h0,dt (jD 0)];simp only[cond_true,bK,pX];show(bif !(a == 3)then some (1:Int)else _)=_;cases a == 3
   case false=>rfl
   simp only[cI,cond_false,dW];by_cases h1:(lT l).1 > d
   ·rw[dt h1,df (show ¬ (lT l).1<=d by omega)];rfl
   ·rw[df h1,dt (show(lT l).1<=d by omega)];simp only[cond_false,dW];show(bif decide ((l.getD 0 gB).1 < f)then _ else _)=_;by_cases h2:(l.getD 0 gB).1 < f
    ·rw[dt h2,df (show ¬ (l.getD 0 gB).1>=f by omega)];rfl
    ·rw[df h2,dt (show(l.getD 0 gB).1>=f by omega)];simp only[cond_false,cI];exact bqi _ _ _
 ·cases h
def mR (x:Ml×Int):Option Int:=if 0<=x.2/\x.2<=1048576/\(enM x.1).length<=top then some (qV x.2 ((enM x.1).length:Int))else none
theorem aRW:Sat prog cxT 66 (c66 mR):=s66 nL aLf mR λx t h=>by
 obtain⟨⟨ma,mb,mc,md,me,mf,mg,mo,ml⟩,v⟩:=x;unfold mR at h;split at h
 ·rename_i hm;cases h;refine⟨0,?_⟩;show g66 nL 0 ma mb mc md me mf mg mo ml v=some (qV v (ml.length:Int))
  (try unfold w66);unfold g66 G66;dsimp only[eF]
  rw[show nL (ml,v)=some (qV v (ml.length:Int)) from if_pos ⟨hm.2.2,hm.1,hm.2.1⟩,aR];unfold qV;split
  ·rfl
  ·rename_i hh;rw[df hh];rfl
 ·cases h
def mP (m:Ml):Option Ml:=if(enM m).length<=jL then some m else none
theorem aRR:Sat prog cxT 73 (c73 mP):=s73 gR aHZ mP λx t h=>by
 obtain⟨ma,mb,mc,md,me,mf,mg,mo,ml⟩:=x;unfold mP at h;split at h
 ·rename_i hm;cases h;refine⟨0,?_⟩;show g73 gR 0 ma mb mc md me mf mg mo ml=_
  (try unfold w73);unfold g73 G73;dsimp only[eF]
  rw[show gR ml=some ml from if_pos hm,aR]
 ·cases h
end Go.Proofs.Tryz
