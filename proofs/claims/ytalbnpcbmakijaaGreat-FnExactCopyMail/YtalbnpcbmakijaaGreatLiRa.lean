/- A part of the proof of FnExactCopyMail: LiRa, LiRc. -/
import Derived.Test.YtalbnpcbmakijaaGreatLiPq
import Derived.Test.YtalbnpcbmakijaaGreatLiFi
set_option linter.unusedSimpArgs false
set_option linter.unusedVariables false
set_option maxHeartbeats 0
namespace Go.Proofs.Tryz
open Go.IntKind (wrap)
open Go Go.VM Go.RowKit
theorem aV7 {a b c:Int}:(bif decide (a>=b)then some (decide (a<=c))else some false)=some (decide (b<=a/\a<=c)):=by
 by_cases h:a>=b
 ·rw[dt h,cond_true];exact congrArg some (decide_eq_decide.2 ⟨λk=>⟨h,k⟩,λk=>k.2⟩)
 ·rw[df h,cond_false,df (λk=>h k.1)]
def eM (x:Int×Int×Int):Option Bool:=some (decide (x.2.1<=x.1/\x.1<=x.2.2))
theorem aCM:Sat prog cxT 94 (c94 eM):=s94 eM λx t h=>by
 obtain⟨a,b,c⟩:=x;cases h;exact⟨0,aV7⟩
def jU (p:Int):Option Bool:=some (decide (1<=p/\p<=5))
theorem aNh:Sat prog cxT 44 (c44 jU):=s44 eM aCM jU λx t h=>by cases h;exact⟨0,rfl⟩
def aBn (p i:Int):Bool:=decide (0<=i/\i < p)
def dH (x:Int×Int):Option Bool:=some (aBn x.2 x.1)
theorem aDq:Sat prog cxT 143 (aCF dH):=bB2 dH λx t h=>by
 obtain⟨a,b⟩:=x;cases h;refine⟨0,?_⟩;show aKD 0 a b=some (decide (0<=a/\a < b))
 (try unfold aP7);unfold aKD G143;dsimp only[dY]
 by_cases h:a>=0
 ·rw[dt h,cond_true];exact congrArg some (decide_eq_decide.2 ⟨λk=>⟨h,k⟩,λk=>k.2⟩)
 ·rw[df h,cond_false,df (λk=>h k.1)]
def eN (x:Int):Option Bool:=some (tH x)
def oA (x:Int):Option Bool:=some (decide (0<=x/\x<=100000))
theorem aGh (x y:Int):(x == y)=decide (x=y):=by by_cases h:x=y<;>simp[h]
theorem aSu (x y:Int):(x != y)=!decide (x=y):=by by_cases h:x=y<;>simp[h]
theorem aQ3:Sat prog cxT 144 (aMQ oA):=bB1 eN aEh oA λx t h=>by
 cases h;refine⟨0,?_⟩;show aKC eN 0 x=some (decide (0<=x/\x<=100000))
 (try unfold aP6);unfold aKC G144;dsimp only[dY]
 simp only[eN,aO,tH];rw[aGh];by_cases h:x=0
 ·rw[dt h,cond_true,dt (by omega)]
 ·rw[df h,cond_false];exact congrArg some (decide_eq_decide.2 (by omega))
def nZ (x:Int×Int):Option Bool:=some (decide (x.1=-1) || aBn x.2 x.1)
theorem aQ2:Sat prog cxT 145 (aMP nZ):=bB0 dH aDq nZ λx t h=>by
 obtain⟨a,b⟩:=x;cases h;refine⟨0,?_⟩;show aKB dH 0 a b=some (decide (a=-1) || aBn b a)
 (try unfold aP5);unfold aKB G145;dsimp only[dY]
 simp only[dH,aO];rw[aGh];by_cases h:a=-1
 ·rw[dt h];rfl
 ·rw[df h];rfl
def nY (x:Int):Option Bool:=some (decide (0<=x/\x<=2))
theorem aQ1:Sat prog cxT 146 (aMO nY):=bBZ eM aCM nY λx t h=>by cases h;exact⟨0,rfl⟩
def mI (x:Nd):Option Int:=some (x.2.2.2.2.1.length:Int)
theorem aQ0:Sat prog cxT 149 (aMN mI):=bBW fH aFs mI λx t h=>by cases h;exact⟨0,rfl⟩
def vq (p:Int)(v:List Int)(j:Nat):Bool:=aBn p (v.getD j 0)&&decide ((if j=0 then -1 else v.getD (j-1) 0) < v.getD j 0)
theorem aOB (L:Nat)(x:Nd)(hv:x.2.2.2.2.2.2.2.1.length<=1000000000)(K:Option Bool):∀ (n i:Nat) (ah:Int),ah=(if i=0 then -1 else x.2.2.2.2.2.2.2.1.getD (i-1) 0)->i<=x.2.2.2.2.2.2.2.1.length->x.2.2.2.2.2.2.2.1.length < n+i->
  vI dH L x n ah (i:Int) K=bif sQ (vq x.2.1 x.2.2.2.2.2.2.2.1) (x.2.2.2.2.2.2.2.1.length-i) i then K else some false
 | 0,i,ah,_,h0,h=>by omega
 | n+1,i,ah,ha,h0,h=>by
  unfold vI B150_0;dsimp only[dY];by_cases hi:i < x.2.2.2.2.2.2.2.1.length
  ·simp(disch:=omega) only[dY,dt,wi,cond_true,bL,bF];rw[show dH (x.2.2.2.2.2.2.2.1.getD i 0,x.2.1)=some (aBn x.2.1 (x.2.2.2.2.2.2.2.1.getD i 0)) from rfl,aO,show x.2.2.2.2.2.2.2.1.length-i=x.2.2.2.2.2.2.2.1.length-(i+1)+1 by omega];unfold sQ;rw[show vq x.2.1 x.2.2.2.2.2.2.2.1 i=(aBn x.2.1 (x.2.2.2.2.2.2.2.1.getD i 0)&&decide (ah < x.2.2.2.2.2.2.2.1.getD i 0))by rw[ha];rfl];cases hq:aBn x.2.1 (x.2.2.2.2.2.2.2.1.getD i 0)
   ·rfl
   ·by_cases hg:x.2.2.2.2.2.2.2.1.getD i 0<=ah
    ·rw[dt hg,df (show ¬ ah < _ by omega)];rfl
    ·rw[df hg,dt (show ah < x.2.2.2.2.2.2.2.1.getD i 0 by omega),cI,cond_false,cond_false,show(i:Int)+1=((i+1:Nat):Int)by omega,aOB L x hv K n (i+1) _ (by rw[if_neg (by omega)];rfl) (by omega) (by omega)]
     rfl
  ·rw[df (by omega),cond_false,show x.2.2.2.2.2.2.2.1.length-i=0 by omega]
   rfl
theorem wY {p i:Int}(hp:1<=p/\p<=5):aBn p i=wZ p i:=by
 unfold aBn wZ;rw[wi (show -9223372036854775808<=p-1 by omega) (by omega)];exact decide_eq_decide.2 (by omega)
theorem aTM {p:Int}(hp:1<=p/\p<=5)(v:List Int):sQ (vq p v) v.length 0=(yS v&&ids p v):=by
 rw[Bool.eq_iff_iff,aE];unfold yS ids;rw[aAw,aAw,aAw];constructor
 ·intro h;refine⟨λj h1 h2=>?_,λj h1 h2=>?_⟩
  ·have:=h j (by omega) (by omega);simp only[vq,aE,decide_eq_true_eq]at this ⊢;have:=this.2;rw[if_neg (by omega)]at this;exact this
  ·have:=h j (by omega) (by omega);simp only[vq,aE]at this;rw[wY hp]at this;exact this.1
 ·rintro⟨h1,h2⟩ j h3 h4;have k:=h2 j h3 h4;simp only[vq,aE,decide_eq_true_eq];rw[wY hp];refine⟨k,?_⟩;split
  ·rw[<-wY hp]at k;have:=of_decide_eq_true k;omega
  ·have:=h1 j (by omega) (by omega);simpa using this
def hv (x:Nd):Bool:=yS x.2.2.2.2.2.2.2.1&&(decide (x.2.2.2.2.2.2.2.1=[]) || x.2.2.2.2.2.1 == 1)&&ids x.2.1 x.2.2.2.2.2.2.2.1
def mV (x:Nd):Option Bool:=if oS x oP/\1<=x.2.1/\x.2.1<=5 then some (hv x)else none
theorem aQZ:Sat prog cxT 150 (aMM mV):=bBV dH aDq mV λx t h=>by
 unfold mV at h;split at h
 ·rename_i hc;cases h;obtain⟨hl,hp⟩:=hc;refine⟨x.2.2.2.2.2.2.2.1.length+1,?_⟩;show aKz dH _ x=_
  (try unfold aP2);unfold aKz A150_0 G150;dsimp only[dY]
  have e:=aOB (x.2.2.2.2.2.2.2.1.length+1) x hl.2.1 (some true) (x.2.2.2.2.2.2.2.1.length+1) 0 (-1) rfl (by omega) (by omega);rw[pD,aTM hp]at e;simp only[hM]at e;rw[e,aSu];unfold hv;rw[aGh];have eb:∀ b:Bool,(bif b then some true else some false)=some b:=λb=>by cases b<;>rfl
  rw[eb];by_cases hr:x.2.2.2.2.2.1=1
  ·rw[dt hr,cI,cond_false,Bool.or_true,Bool.and_true]
  ·rw[df hr,lU,cond_true,Bool.or_false];by_cases hn:x.2.2.2.2.2.2.2.1=[]
   ·rw[dt hn,hn];simp
   ·rw[df hn];have:x.2.2.2.2.2.2.2.1.length≠0:=λh=>hn (bC h)
    rw[dt (show(x.2.2.2.2.2.2.2.1.length:Int) > 0 by omega),cond_true,Bool.and_false,Bool.false_and]
 ·cases h
def hr (x:Nd):Bool:=decide ((x.2.2.2.2.2.2.2.2.1.length:Int)=if x.2.2.2.2.2.1=2 then x.2.1 else 0)&&decide ((x.2.2.2.2.2.2.2.2.2.length:Int)=if x.2.2.2.2.2.1=2 then x.2.1 else 0)
theorem aEC (x:Nd):yW x=(hv x&&hr x):=rfl
def nX (x:Nd):Option Bool:=some (hr x)
theorem aQY:Sat prog cxT 151 (aML nX):=bBU nX λx t h=>by
 cases h;refine⟨0,?_⟩;show aKy 0 x=some (hr x)
 (try unfold aP1);unfold aKy G151 hr;dsimp only[dY]
 rw[aSu,aGh,aGh,aGh,aGh];by_cases h2:x.2.2.2.2.2.1=2
 ·rw[dt h2,if_pos h2,cI,cond_false];cases decide ((x.2.2.2.2.2.2.2.2.1.length:Int)=x.2.1)<;>rfl
 ·rw[df h2,if_neg h2,lU,cond_true];cases decide ((x.2.2.2.2.2.2.2.2.1.length:Int)=0)<;>rfl
def btw (l h:Int)(a:List Int)(i:Nat):Bool:=decide (l<=a.getD i 0/\a.getD i 0<=h)
theorem aOA (L:Nat)(a:List Int)(l h:Int)(ha:a.length<=1000000000)(K:Option Bool):∀ (n i:Nat),i<=a.length->a.length < n+i->
  vH eM L a l h n (i:Int) K=bif sQ (btw l h a) (a.length-i) i then K else some false
 | 0,i,h0,h=>by omega
 | n+1,i,h0,hn=>by
  unfold vH B152_0;dsimp only[dY];by_cases hi:i < a.length
  ·simp(disch:=omega) only[dY,dt,wi,cond_true,bL,bF];rw[show eM (a.getD i 0,l,h)=some (btw l h a i) from rfl,aO,show a.length-i=a.length-(i+1)+1 by omega];unfold sQ;cases btw l h a i
   ·rfl
   ·rw[cI,cond_false,show(i:Int)+1=((i+1:Nat):Int)by omega,aOA L a l h ha K n (i+1) (by omega) (by omega),eX]
  ·rw[df (by omega),cond_false,show a.length-i=0 by omega]
   rfl
def lZ (x:List Int×Int×Int):Option Bool:=if x.1.length<=oP then some (sQ (btw x.2.1 x.2.2 x.1) x.1.length 0)else none
theorem aQX:Sat prog cxT 152 (aMK lZ):=bBT eM aCM lZ λx t h=>by
 obtain⟨a,l,u⟩:=x;unfold lZ at h;split at h
 ·rename_i hm;cases h;refine⟨a.length+1,?_⟩;have e:=aOA (a.length+1) a l u hm (some true) (a.length+1) 0 (by omega) (by omega);simp only[hM,pD]at e;show aKx eM _ a l u=_
  (try unfold aP0);unfold aKx A152_0 G152;dsimp only[dY]
  rw[e];cases sQ (btw l u a) a.length 0<;>rfl
 ·cases h
theorem aHg {p q:Nat->Bool}:∀ (n i:Nat),sQ (λj=>p j&&q j) n i=(sQ p n i&&sQ q n i)
 | 0,i=>rfl
 | n+1,i=>by
  show((p i&&q i)&&sQ _ n (i+1))=((p i&&sQ p n (i+1))&&(q i&&sQ q n (i+1)))
  rw[aHg n (i+1)];cases p i<;>cases q i<;>simp
theorem aUS {x:Nd}(h:x.2.2.2.2.2.2.2.2.2.length=x.2.2.2.2.2.2.2.2.1.length):sQ (aJq x) x.2.2.2.2.2.2.2.2.1.length 0=(sQ (btw 1 ((x.2.2.2.2.1.length:Int)+1) x.2.2.2.2.2.2.2.2.1) x.2.2.2.2.2.2.2.2.1.length 0&&sQ (btw 0 (x.2.2.2.2.1.length:Int) x.2.2.2.2.2.2.2.2.2) x.2.2.2.2.2.2.2.2.2.length 0):=by
 rw[h];exact aHg _ _
theorem aRy (a:List En):rU a=some (vB a):=rfl
theorem aNd:Sat prog cxT 95 (c95 eJ):=s95 jU dH oA nZ nY rU kV mI eM mV nX lZ aNh aDq aQ3 aQ2 aQ1 aI3 aI2 aQ0 aCM aQZ aQY aQX eJ λx t h=>by
 obtain⟨a,b,c,d,lg,e,f,vt,nx,mt⟩:=x;unfold eJ at h;split at h
 ·rename_i hm;cases h;have hl:=hm;obtain⟨h1,h2,h3,h4⟩:=hm;refine⟨0,?_⟩;show g95 jU dH oA nZ nY rU kV mI eM mV nX lZ 0 a b c d lg e f vt nx mt=_
  (try unfold w95);unfold g95 G95 ndF;dsimp only[dY]
  simp only[jU,dH,oA,nZ,nY,mI,eM,nX,aO,aRy];by_cases hp:1<=b/\b<=5
  case neg=>rw[df hp];rfl
  rw[dt hp];simp only[cI,cond_false];rw[wY hp];cases hi:wZ b a
  case false=>rfl
  simp only[cI,cond_false];cases ht:decide (0<=c/\c<=100000)
  case false=>rfl
  simp only[cI,cond_false];rw[show(decide (d=-1) || aBn b d)=decide (-1<=d/\d<=wrap .i64 (b-1))by
   rw[wi (show -9223372036854775808<=b-1 by omega) (by omega)];unfold aBn;rw[<-gI];exact decide_eq_decide.2 (by omega)]
  cases hd:decide (-1<=d/\d<=wrap .i64 (b-1))
  case false=>rfl
  simp only[cI,cond_false];cases hro:decide (0<=e/\e<=2)
  case false=>rfl
  simp only[cI,cond_false];have bq:∀ (b:Bool) (u v:Int),(bif b then some u else some v)=some (bif b then u else v):=λb u v=>by cases b<;>rfl
  cases hlf:vB lg != 0
  case true=>rfl
  simp only[cond_false];rw[show kV lg=some (mO lg) from if_pos h1];simp only[aO];cases htm:decide ((mO lg).1 > c)
  case true=>rfl
  simp only[cond_false];cases hcm:decide (0<=f/\f<=(lg.length:Int))
  case false=>rfl
  simp only[cI,cond_false];rw[show mV (a,b,c,d,lg,e,f,vt,nx,mt)=some (hv (a,b,c,d,lg,e,f,vt,nx,mt)) from if_pos ⟨hl,hp⟩];simp only[aO];rw[aEC];cases hhv:hv (a,b,c,d,lg,e,f,vt,nx,mt)
  case false=>rfl
  simp only[cI,cond_false,eX];cases hhr:hr (a,b,c,d,lg,e,f,vt,nx,mt)
  case false=>rfl
  simp only[cI,cond_false];have hlen:=aC6 (x:=(a,b,c,d,lg,e,f,vt,nx,mt)) (by rw[aEC,hhv,hhr];rfl);rw[aUS hlen];simp only[oP]at h1;rw[wi (show -9223372036854775808<=(lg.length:Int)+1 by omega) (by omega)];rw[show lZ (nx,1,(lg.length:Int)+1)=some (sQ (btw 1 ((lg.length:Int)+1) nx) nx.length 0) from if_pos h3,
   show lZ (mt,0,(lg.length:Int))=some (sQ (btw 0 (lg.length:Int) mt) mt.length 0) from if_pos h4]
  simp only[aO];cases sQ (btw 1 ((lg.length:Int)+1) nx) nx.length 0
  case false=>rfl
  simp only[cI,cond_false,eX];cases sQ (btw 0 (lg.length:Int) mt) mt.length 0
  case false=>rfl
  simp only[cI,cond_false,cond_true];unfold aSi;simp only[bq]
 ·cases h
theorem bqi (b:Bool)(u v:Int):(bif b then some u else some v)=some (bif b then u else v):=by cases b<;>rfl
theorem aJr {x:Nd}(h:ndF x=0):1<=x.2.1/\x.2.1<=5:=by
 unfold ndF at h;by_cases hp:1<=x.2.1/\x.2.1<=5
 ·exact hp
 ·rw[df hp]at h;cases h
end Go.Proofs.Tryz
set_option maxHeartbeats 0
namespace Go.Proofs.Tryz
open Go.IntKind (wrap)
open Go Go.VM Go.RowKit
def zk (k i l c:Int):Bool:=bif k == 1 then c == 0 else bif k == 2 then(bif i == 0 then(bif l == 0 then c == 0 else false)else false)else bif k == 4 then(bif l == 0 then c == 0 else false)else true
theorem aGk (k i l c:Int):(bif (k == (1:Int))then some (c == (0:Int))else bif (k == (2:Int))then bif (i == (0:Int))then bif (l == (0:Int))then some (c == (0:Int))else some Bool.false else some Bool.false else bif (k == (4:Int))then bif (l == (0:Int))then some (c == (0:Int))else some Bool.false else some Bool.true)=some (zk k i l c):=by
 unfold zk;cases k == 1<;>cases k == 2<;>cases k == 4<;>cases i == 0<;>cases l == 0<;>rfl
def jV (m:Ml):Option Bool:=some (zk m.1 m.2.2.2.2.1 m.2.2.2.2.2.1 m.2.2.2.2.2.2.1)
theorem aQ6:Sat prog cxT 138 (aMS jV):=bB6 jV λx t h=>by
 obtain⟨a,b,c,d,e,f,g,o,l⟩:=x;cases h;exact⟨0,aGk a e f g⟩
theorem aQU:Sat prog cxT 155 (aMH jV):=bBQ jV λx t h=>by
 obtain⟨a,b,c,d,e,f,g,o,l⟩:=x;cases h;exact⟨0,aGk a e f g⟩
def okK (m:Ml):Bool:=!m.2.2.2.2.2.2.2.1 || m.1 == 2 || m.1 == 4
def nW (m:Ml):Option Bool:=some (okK m)
theorem aQV:Sat prog cxT 154 (aMI nW):=bBR nW λx t h=>by
 obtain⟨a,b,c,d,e,f,g,o,l⟩:=x;cases h;refine⟨0,?_⟩;show aKv 0 a b c d e f g o l=some (!o || a == 2 || a == 4)
 (try unfold aPY);unfold aKv G154;dsimp only[dY]
 cases o<;>cases a == 2<;>cases a == 4<;>rfl
def heK (m:Ml):Bool:=decide ((tL m).length=0) || (m.1 == 3&&decide ((mO (tL m)).1<=m.2.2.2.1)&&decide (((tL m).getD 0 jY).1>=m.2.2.2.2.2.1))
def mU (m:Ml):Option Bool:=if(tL m).length<=oP then some (heK m)else none
theorem bCD (n:Nat):((n:Int) == 0)=decide (n=0):=by by_cases h:n=0<;>simp[h]
theorem aQW:Sat prog cxT 153 (aMJ mU):=bBS kV aI2 mU λx t h=>by
 obtain⟨a,b,c,d,e,f,g,o,l⟩:=x;unfold mU at h;split at h
 ·rename_i hm;cases h;refine⟨0,?_⟩;show aKw kV 0 a b c d e f g o l=some (decide (l.length=0) || (a == 3&&decide ((mO l).1<=d)&&decide ((l.getD 0 jY).1>=f)))
  (try unfold aPZ);unfold aKw G153;dsimp only[dY]
  rw[show kV l=some (mO l) from if_pos hm];simp only[aO];rw[bCD];by_cases h0:l.length=0
  ·rw[dt h0];rfl
  ·rw[df h0,cond_false,rC,dt (iJ 0),dt (show(0:Int) < (l.length:Int)by omega)];cases a == 3
   ·rfl
   ·cases decide ((mO l).1<=d)<;>rfl
 ·cases h
def mlB (x:Nd)(m:Ml):Int:=
 bif !decide (1<=m.1/\m.1<=4)then 5 else bif !wZ x.2.1 m.2.1 then 3 else bif m.2.1 == x.1 then 3 else bif m.2.2.1 != x.1 then 3
 else bif !decide (1<=m.2.2.2.1/\m.2.2.2.1<=100000)then 3 else bif !decide (0<=m.2.2.2.2.1/\m.2.2.2.2.1<=40)then 3 else bif !decide (0<=m.2.2.2.2.2.1/\m.2.2.2.2.2.1<=m.2.2.2.1)then 3 else bif !decide (0<=m.2.2.2.2.2.2.1/\m.2.2.2.2.2.2.1<=40)then 3
 else bif vB (tL m) != 0 then vB (tL m)else bif !heK m then 1 else bif !okK m then 1 else bif !zk m.1 m.2.2.2.2.1 m.2.2.2.2.2.1 m.2.2.2.2.2.2.1 then 1 else bif m.2.2.2.2.1 == 0 then(bif m.2.2.2.2.2.1 != 0 then 1 else 0)else 0
def mlF (x:Nd)(m:Ml):Int:=bif ndF x != 0 then ndF x else mlB x m
def eV (x:Nd×Ml):Option Int:=if(tL x.2).length<=oP then some (mlB x.1 x.2)else none
theorem aQj (o:Bool)(a e f g:Int)(T:Option Int):(bif o then bif (a != (2:Int))then bif (a != (4:Int))then some (1:Int)else T else T else T)=(bif !(!o || a == 2 || a == 4)then some 1 else T):=by
 cases o
 ·rfl
 ·show(bif !(a == 2)then bif !(a == 4)then some (1:Int)else T else T)=_;cases a == 2
  ·cases a == 4<;>rfl
  ·rfl
theorem aT1:Sat prog cxT 87 (c87 eV):=s87 bM dC rU kV jV nN aFt aI6 aI8 aQ6 eV λx t h=>by
 obtain⟨x,a,b,c,d,e,f,g,o,l⟩:=x;unfold eV at h;split at h
 ·rename_i hm;have hm:l.length<=1000000000:=hm;cases h;refine⟨0,?_⟩;show g87 bM dC rU kV jV 0 x a b c d e f g o l=_
  (try unfold w87);unfold g87 G87 mlB;dsimp only[dY]
  rw[show kV l=some (mO l) from if_pos hm];simp only[bM,dC,jV,aO,show rU l=some (vB l) from rfl,aQj o a e f g];show(bif !decide (1<=a/\a<=4)then some 5 else bif !wZ x.2.1 b then some 3 else _)=some (bif !decide (1<=a/\a<=4)then 5 else bif !wZ x.2.1 b then 3 else _);cases decide (1<=a/\a<=4)
  case false=>rfl
  cases wZ x.2.1 b
  case false=>rfl
  simp only[cI,cond_false];cases b == x.1
  case true=>rfl
  simp only[cond_false];cases c != x.1
  case true=>rfl
  simp only[cond_false];cases decide (1<=d/\d<=100000)
  case false=>rfl
  simp only[cI,cond_false];cases decide (0<=e/\e<=40)
  case false=>rfl
  simp only[cI,cond_false];cases decide (0<=f/\f<=d)
  case false=>rfl
  simp only[cI,cond_false];cases decide (0<=g/\g<=40)
  case false=>rfl
  simp only[cI,cond_false];simp only[tL];cases vB l != 0
  case true=>rfl
  simp only[cond_false];have e1:(bif !zk a e f g then some (1:Int)else bif (e == (0:Int))then bif (f != (0:Int))then some (1:Int)else some (0:Int)else some (0:Int))=some (bif !zk a e f g then 1 else bif e == 0 then(bif f != 0 then 1 else 0)else 0):=by simp only[bqi]
  rw[show heK (a,b,c,d,e,f,g,o,l)=(decide (l.length=0) || (a == 3&&decide ((mO l).1<=d)&&decide ((l.getD 0 jY).1>=f))) from rfl,show okK (a,b,c,d,e,f,g,o,l)=(!o || a == 2 || a == 4) from rfl];simp only[e1];by_cases h0:l.length=0
  ·rw[df (show ¬ (l.length:Int) > 0 by omega),dt h0];simp only[cond_false,Bool.true_or,cI];exact bqi _ _ _
  ·rw[dt (show(l.length:Int) > 0 by omega),df h0,dt (iJ 0)];simp only[cond_true,bL,rC];show(bif !(a == 3)then some (1:Int)else _)=_;cases a == 3
   case false=>rfl
   simp only[cI,cond_false,eX];by_cases h1:(mO l).1 > d
   ·rw[dt h1,df (show ¬ (mO l).1<=d by omega)];rfl
   ·rw[df h1,dt (show(mO l).1<=d by omega)];simp only[cond_false,eX];show(bif decide ((l.getD 0 jY).1 < f)then _ else _)=_;by_cases h2:(l.getD 0 jY).1 < f
    ·rw[dt h2,df (show ¬ (l.getD 0 jY).1>=f by omega)];rfl
    ·rw[df h2,dt (show(l.getD 0 jY).1>=f by omega)];simp only[cond_false,cI];exact bqi _ _ _
 ·cases h
def nU (x:Ml×Int):Option Int:=if 0<=x.2/\x.2<=1048576/\(tL x.1).length<=top then some (qJ x.2 ((tL x.1).length:Int))else none
theorem aT4:Sat prog cxT 84 (c84 nU):=s84 hI aI7 nU λx t h=>by
 obtain⟨⟨ma,mb,mc,md,me,mf,mg,mo,ml⟩,v⟩:=x;unfold nU at h;split at h
 ·rename_i hm;cases h;refine⟨0,?_⟩;show g84 hI 0 ma mb mc md me mf mg mo ml v=some (qJ v (ml.length:Int))
  (try unfold w84);unfold g84 G84;dsimp only[dY]
  rw[show hI (ml,v)=some (qJ v (ml.length:Int)) from if_pos ⟨hm.2.2,hm.1,hm.2.1⟩,aO];unfold qJ;split
  ·rfl
  ·rename_i hh;rw[df hh];rfl
 ·cases h
def nS (m:Ml):Option Ml:=if(tL m).length<=oP then some m else none
theorem aTZ:Sat prog cxT 91 (c91 nS):=s91 hH aI5 nS λx t h=>by
 obtain⟨ma,mb,mc,md,me,mf,mg,mo,ml⟩:=x;unfold nS at h;split at h
 ·rename_i hm;cases h;refine⟨0,?_⟩;show g91 hH 0 ma mb mc md me mf mg mo ml=_
  (try unfold w91);unfold g91 G91;dsimp only[dY]
  rw[show hH ml=some ml from if_pos hm,aO]
 ·cases h
end Go.Proofs.Tryz
