/- A part of the proof of FnExactClusterFault: LiRa, LiRc. -/
import Derived.Test.YtalbnpcbmakijaaGreatLiPq
import Derived.Test.YtalbnpcbmakijaaGreatLiFi
set_option linter.unusedSimpArgs false
set_option linter.unusedVariables false
set_option maxHeartbeats 0
namespace Go.Proofs.Tryz
open Go.IntKind (wrap)
open Go Go.VM Go.RowKit
theorem aQx {a b c:Int}:(bif decide (a>=b)then some (decide (a<=c))else some false)=some (decide (b<=a/\a<=c)):=by
 by_cases h:a>=b
 ·rw[dt h,cond_true];exact congrArg some (decide_eq_decide.2 ⟨λk=>⟨h,k⟩,λk=>k.2⟩)
 ·rw[df h,cond_false,df (λk=>h k.1)]
def dY (x:Int×Int×Int):Option Bool:=some (decide (x.2.1<=x.1/\x.1<=x.2.2))
theorem aAw:Sat prog cxT 94 (c94 dY):=s94 dY λx t h=>by
 obtain⟨a,b,c⟩:=x;cases h;exact⟨0,aQx⟩
def iQ (p:Int):Option Bool:=some (decide (1<=p/\p<=5))
theorem aJn:Sat prog cxT 44 (c44 iQ):=s44 dY aAw iQ λx t h=>by cases h;exact⟨0,rfl⟩
def yE (p i:Int):Bool:=decide (0<=i/\i < p)
def cZ (x:Int×Int):Option Bool:=some (yE x.2 x.1)
theorem aA9:Sat prog cxT 143 (aAq cZ):=aVm cZ λx t h=>by
 obtain⟨a,b⟩:=x;cases h;refine⟨0,?_⟩;show aHq 0 a b=some (decide (0<=a/\a < b))
 (try unfold aLM);unfold aHq G143;dsimp only[fB]
 by_cases h:a>=0
 ·rw[dt h,cond_true];exact congrArg some (decide_eq_decide.2 ⟨λk=>⟨h,k⟩,λk=>k.2⟩)
 ·rw[df h,cond_false,df (λk=>h k.1)]
def dZ (x:Int):Option Bool:=some (qS x)
def mD (x:Int):Option Bool:=some (decide (0<=x/\x<=100000))
theorem aDP (x y:Int):(x == y)=decide (x=y):=by by_cases h:x=y<;>simp[h]
theorem aNH (x y:Int):(x != y)=!decide (x=y):=by by_cases h:x=y<;>simp[h]
theorem aMC:Sat prog cxT 144 (aI2 mD):=aVl dZ aB0 mD λx t h=>by
 cases h;refine⟨0,?_⟩;show aHp dZ 0 x=some (decide (0<=x/\x<=100000))
 (try unfold aLL);unfold aHp G144;dsimp only[fB]
 simp only[dZ,aV,qS];rw[aDP];by_cases h:x=0
 ·rw[dt h,cond_true,dt (by omega)]
 ·rw[df h,cond_false];exact congrArg some (decide_eq_decide.2 (by omega))
def mC (x:Int×Int):Option Bool:=some (decide (x.1=-1) || yE x.2 x.1)
theorem aMB:Sat prog cxT 145 (aI1 mC):=aVk cZ aA9 mC λx t h=>by
 obtain⟨a,b⟩:=x;cases h;refine⟨0,?_⟩;show aHo cZ 0 a b=some (decide (a=-1) || yE b a)
 (try unfold aLK);unfold aHo G145;dsimp only[fB]
 simp only[cZ,aV];rw[aDP];by_cases h:a=-1
 ·rw[dt h];rfl
 ·rw[df h];rfl
def mB (x:Int):Option Bool:=some (decide (0<=x/\x<=2))
theorem aMA:Sat prog cxT 146 (aI0 mB):=aVj dY aAw mB λx t h=>by cases h;exact⟨0,rfl⟩
def kX (x:Nd):Option Int:=some (x.2.2.2.2.1.length:Int)
theorem aMz:Sat prog cxT 149 (aIZ kX):=aVg eO aC5 kX λx t h=>by cases h;exact⟨0,rfl⟩
def vq (p:Int)(v:List Int)(j:Nat):Bool:=yE p (v.getD j 0)&&decide ((if j=0 then -1 else v.getD (j-1) 0) < v.getD j 0)
theorem aKw (L:Nat)(x:Nd)(hv:x.2.2.2.2.2.2.2.1.length<=1000000000)(K:Option Bool):∀ (n i:Nat) (ah:Int),ah=(if i=0 then -1 else x.2.2.2.2.2.2.2.1.getD (i-1) 0)->i<=x.2.2.2.2.2.2.2.1.length->x.2.2.2.2.2.2.2.1.length < n+i->
  sH cZ L x n ah (i:Int) K=bif qE (vq x.2.1 x.2.2.2.2.2.2.2.1) (x.2.2.2.2.2.2.2.1.length-i) i then K else some false
 | 0,i,ah,_,h0,h=>by omega
 | n+1,i,ah,ha,h0,h=>by
  unfold sH B150_0;dsimp only[fB];by_cases hi:i < x.2.2.2.2.2.2.2.1.length
  ·simp(disch:=omega) only[fB,dt,wi,cond_true,cI,cD];rw[show cZ (x.2.2.2.2.2.2.2.1.getD i 0,x.2.1)=some (yE x.2.1 (x.2.2.2.2.2.2.2.1.getD i 0)) from rfl,aV,show x.2.2.2.2.2.2.2.1.length-i=x.2.2.2.2.2.2.2.1.length-(i+1)+1 by omega];unfold qE;rw[show vq x.2.1 x.2.2.2.2.2.2.2.1 i=(yE x.2.1 (x.2.2.2.2.2.2.2.1.getD i 0)&&decide (ah < x.2.2.2.2.2.2.2.1.getD i 0))by rw[ha];rfl];cases hq:yE x.2.1 (x.2.2.2.2.2.2.2.1.getD i 0)
   ·rfl
   ·by_cases hg:x.2.2.2.2.2.2.2.1.getD i 0<=ah
    ·rw[dt hg,df (show ¬ ah < _ by omega)];rfl
    ·rw[df hg,dt (show ah < x.2.2.2.2.2.2.2.1.getD i 0 by omega),cE,cond_false,cond_false,show(i:Int)+1=((i+1:Nat):Int)by omega,aKw L x hv K n (i+1) _ (by rw[if_neg (by omega)];rfl) (by omega) (by omega)]
     rfl
  ·rw[df (by omega),cond_false,show x.2.2.2.2.2.2.2.1.length-i=0 by omega]
   rfl
theorem tM {p i:Int}(hp:1<=p/\p<=5):yE p i=tN p i:=by
 unfold yE tN;rw[wi (show -9223372036854775808<=p-1 by omega) (by omega)];exact decide_eq_decide.2 (by omega)
theorem aOK {p:Int}(hp:1<=p/\p<=5)(v:List Int):qE (vq p v) v.length 0=(uS v&&ids p v):=by
 rw[Bool.eq_iff_iff,aD];unfold uS ids;rw[wO,wO,wO];constructor
 ·intro h;refine⟨λj h1 h2=>?_,λj h1 h2=>?_⟩
  ·have:=h j (by omega) (by omega);simp only[vq,aD,decide_eq_true_eq]at this ⊢;have:=this.2;rw[if_neg (by omega)]at this;exact this
  ·have:=h j (by omega) (by omega);simp only[vq,aD]at this;rw[tM hp]at this;exact this.1
 ·rintro⟨h1,h2⟩ j h3 h4;have k:=h2 j h3 h4;simp only[vq,aD,decide_eq_true_eq];rw[tM hp];refine⟨k,?_⟩;split
  ·rw[<-tM hp]at k;have:=of_decide_eq_true k;omega
  ·have:=h1 j (by omega) (by omega);simpa using this
def hv (x:Nd):Bool:=uS x.2.2.2.2.2.2.2.1&&(decide (x.2.2.2.2.2.2.2.1=[]) || x.2.2.2.2.2.1 == 1)&&ids x.2.1 x.2.2.2.2.2.2.2.1
def lJ (x:Nd):Option Bool:=if pA x mH/\1<=x.2.1/\x.2.1<=5 then some (hv x)else none
theorem aMy:Sat prog cxT 150 (aIY lJ):=aVf cZ aA9 lJ λx t h=>by
 unfold lJ at h;split at h
 ·rename_i hc;cases h;obtain⟨hl,hp⟩:=hc;refine⟨x.2.2.2.2.2.2.2.1.length+1,?_⟩;show aHm cZ _ x=_
  (try unfold aLH);unfold aHm A150_0 G150;dsimp only[fB]
  have e:=aKw (x.2.2.2.2.2.2.2.1.length+1) x hl.2.1 (some true) (x.2.2.2.2.2.2.2.1.length+1) 0 (-1) rfl (by omega) (by omega);rw[mR,aOK hp]at e;simp only[lA]at e;rw[e,aNH];unfold hv;rw[aDP];have eb:∀ b:Bool,(bif b then some true else some false)=some b:=λb=>by cases b<;>rfl
  rw[eb];by_cases hr:x.2.2.2.2.2.1=1
  ·rw[dt hr,cE,cond_false,Bool.or_true,Bool.and_true]
  ·rw[df hr,kJ,cond_true,Bool.or_false];by_cases hn:x.2.2.2.2.2.2.2.1=[]
   ·rw[dt hn,hn];simp
   ·rw[df hn];have:x.2.2.2.2.2.2.2.1.length≠0:=λh=>hn (bB h)
    rw[dt (show(x.2.2.2.2.2.2.2.1.length:Int) > 0 by omega),cond_true,Bool.and_false,Bool.false_and]
 ·cases h
def hr (x:Nd):Bool:=decide ((x.2.2.2.2.2.2.2.2.1.length:Int)=if x.2.2.2.2.2.1=2 then x.2.1 else 0)&&decide ((x.2.2.2.2.2.2.2.2.2.length:Int)=if x.2.2.2.2.2.1=2 then x.2.1 else 0)
theorem aCh (x:Nd):uW x=(hv x&&hr x):=rfl
def mA (x:Nd):Option Bool:=some (hr x)
theorem aMx:Sat prog cxT 151 (aIX mA):=aVe mA λx t h=>by
 cases h;refine⟨0,?_⟩;show aHl 0 x=some (hr x)
 (try unfold aLG);unfold aHl G151 hr;dsimp only[fB]
 rw[aNH,aDP,aDP,aDP,aDP];by_cases h2:x.2.2.2.2.2.1=2
 ·rw[dt h2,if_pos h2,cE,cond_false];cases decide ((x.2.2.2.2.2.2.2.2.1.length:Int)=x.2.1)<;>rfl
 ·rw[df h2,if_neg h2,kJ,cond_true];cases decide ((x.2.2.2.2.2.2.2.2.1.length:Int)=0)<;>rfl
def btw (l h:Int)(a:List Int)(i:Nat):Bool:=decide (l<=a.getD i 0/\a.getD i 0<=h)
theorem aKv (L:Nat)(a:List Int)(l h:Int)(ha:a.length<=1000000000)(K:Option Bool):∀ (n i:Nat),i<=a.length->a.length < n+i->
  sG dY L a l h n (i:Int) K=bif qE (btw l h a) (a.length-i) i then K else some false
 | 0,i,h0,h=>by omega
 | n+1,i,h0,hn=>by
  unfold sG B152_0;dsimp only[fB];by_cases hi:i < a.length
  ·simp(disch:=omega) only[fB,dt,wi,cond_true,cI,cD];rw[show dY (a.getD i 0,l,h)=some (btw l h a i) from rfl,aV,show a.length-i=a.length-(i+1)+1 by omega];unfold qE;cases btw l h a i
   ·rfl
   ·rw[cE,cond_false,show(i:Int)+1=((i+1:Nat):Int)by omega,aKv L a l h ha K n (i+1) (by omega) (by omega),eW]
  ·rw[df (by omega),cond_false,show a.length-i=0 by omega]
   rfl
def kN (x:List Int×Int×Int):Option Bool:=if x.1.length<=mH then some (qE (btw x.2.1 x.2.2 x.1) x.1.length 0)else none
theorem aMw:Sat prog cxT 152 (aIW kN):=aVd dY aAw kN λx t h=>by
 obtain⟨a,l,u⟩:=x;unfold kN at h;split at h
 ·rename_i hm;cases h;refine⟨a.length+1,?_⟩;have e:=aKv (a.length+1) a l u hm (some true) (a.length+1) 0 (by omega) (by omega);simp only[lA,mR]at e;show aHk dY _ a l u=_
  (try unfold aLF);unfold aHk A152_0 G152;dsimp only[fB]
  rw[e];cases qE (btw l u a) a.length 0<;>rfl
 ·cases h
theorem aEF {p q:Nat->Bool}:∀ (n i:Nat),qE (λj=>p j&&q j) n i=(qE p n i&&qE q n i)
 | 0,i=>rfl
 | n+1,i=>by
  show((p i&&q i)&&qE _ n (i+1))=((p i&&qE p n (i+1))&&(q i&&qE q n (i+1)))
  rw[aEF n (i+1)];cases p i<;>cases q i<;>simp
theorem aPz {x:Nd}(h:x.2.2.2.2.2.2.2.2.2.length=x.2.2.2.2.2.2.2.2.1.length):qE (aGw x) x.2.2.2.2.2.2.2.2.1.length 0=(qE (btw 1 ((x.2.2.2.2.1.length:Int)+1) x.2.2.2.2.2.2.2.2.1) x.2.2.2.2.2.2.2.2.1.length 0&&qE (btw 0 (x.2.2.2.2.1.length:Int) x.2.2.2.2.2.2.2.2.2) x.2.2.2.2.2.2.2.2.2.length 0):=by
 rw[h];exact aEF _ _
theorem aMW (a:List En):pK a=some (sA a):=rfl
theorem aJk:Sat prog cxT 95 (c95 dX):=s95 iQ cZ mD mC mB pK jM kX dY lJ mA kN aJn aA9 aMC aMB aMA aGe aGd aMz aAw aMy aMx aMw dX λx t h=>by
 obtain⟨a,b,c,d,lg,e,f,vt,nx,mt⟩:=x;unfold dX at h;split at h
 ·rename_i hm;cases h;have hl:=hm;obtain⟨h1,h2,h3,h4⟩:=hm;refine⟨0,?_⟩;show g95 iQ cZ mD mC mB pK jM kX dY lJ mA kN 0 a b c d lg e f vt nx mt=_
  (try unfold w95);unfold g95 G95 ndF;dsimp only[fB]
  simp only[iQ,cZ,mD,mC,mB,kX,dY,mA,aV,aMW];by_cases hp:1<=b/\b<=5
  case neg=>rw[df hp];rfl
  rw[dt hp];simp only[cE,cond_false];rw[tM hp];cases hi:tN b a
  case false=>rfl
  simp only[cE,cond_false];cases ht:decide (0<=c/\c<=100000)
  case false=>rfl
  simp only[cE,cond_false];rw[show(decide (d=-1) || yE b d)=decide (-1<=d/\d<=wrap .i64 (b-1))by
   rw[wi (show -9223372036854775808<=b-1 by omega) (by omega)];unfold yE;rw[<-fH];exact decide_eq_decide.2 (by omega)]
  cases hd:decide (-1<=d/\d<=wrap .i64 (b-1))
  case false=>rfl
  simp only[cE,cond_false];cases hro:decide (0<=e/\e<=2)
  case false=>rfl
  simp only[cE,cond_false];have bq:∀ (b:Bool) (u v:Int),(bif b then some u else some v)=some (bif b then u else v):=λb u v=>by cases b<;>rfl
  cases hlf:sA lg != 0
  case true=>rfl
  simp only[cond_false];rw[show jM lg=some (lC lg) from if_pos h1];simp only[aV];cases htm:decide ((lC lg).1 > c)
  case true=>rfl
  simp only[cond_false];cases hcm:decide (0<=f/\f<=(lg.length:Int))
  case false=>rfl
  simp only[cE,cond_false];rw[show lJ (a,b,c,d,lg,e,f,vt,nx,mt)=some (hv (a,b,c,d,lg,e,f,vt,nx,mt)) from if_pos ⟨hl,hp⟩];simp only[aV];rw[aCh];cases hhv:hv (a,b,c,d,lg,e,f,vt,nx,mt)
  case false=>rfl
  simp only[cE,cond_false,eW];cases hhr:hr (a,b,c,d,lg,e,f,vt,nx,mt)
  case false=>rfl
  simp only[cE,cond_false];have hlen:=aAP (x:=(a,b,c,d,lg,e,f,vt,nx,mt)) (by rw[aCh,hhv,hhr];rfl);rw[aPz hlen];simp only[mH]at h1;rw[wi (show -9223372036854775808<=(lg.length:Int)+1 by omega) (by omega)];rw[show kN (nx,1,(lg.length:Int)+1)=some (qE (btw 1 ((lg.length:Int)+1) nx) nx.length 0) from if_pos h3,
   show kN (mt,0,(lg.length:Int))=some (qE (btw 0 (lg.length:Int) mt) mt.length 0) from if_pos h4]
  simp only[aV];cases qE (btw 1 ((lg.length:Int)+1) nx) nx.length 0
  case false=>rfl
  simp only[cE,cond_false,eW];cases qE (btw 0 (lg.length:Int) mt) mt.length 0
  case false=>rfl
  simp only[cE,cond_false,cond_true];unfold aNz;simp only[bq]
 ·cases h
theorem bqi (b:Bool)(u v:Int):(bif b then some u else some v)=some (bif b then u else v):=by cases b<;>rfl
theorem aGx {x:Nd}(h:ndF x=0):1<=x.2.1/\x.2.1<=5:=by
 unfold ndF at h;by_cases hp:1<=x.2.1/\x.2.1<=5
 ·exact hp
 ·rw[df hp]at h;cases h
end Go.Proofs.Tryz
set_option maxHeartbeats 0
namespace Go.Proofs.Tryz
open Go.IntKind (wrap)
open Go Go.VM Go.RowKit
def zk (k i l c:Int):Bool:=bif k == 1 then c == 0 else bif k == 2 then(bif i == 0 then(bif l == 0 then c == 0 else false)else false)else bif k == 4 then(bif l == 0 then c == 0 else false)else true
theorem aDS (k i l c:Int):(bif (k == (1:Int))then some (c == (0:Int))else bif (k == (2:Int))then bif (i == (0:Int))then bif (l == (0:Int))then some (c == (0:Int))else some Bool.false else some Bool.false else bif (k == (4:Int))then bif (l == (0:Int))then some (c == (0:Int))else some Bool.false else some Bool.true)=some (zk k i l c):=by
 unfold zk;cases k == 1<;>cases k == 2<;>cases k == 4<;>cases i == 0<;>cases l == 0<;>rfl
def iS (m:Ml):Option Bool:=some (zk m.1 m.2.2.2.2.1 m.2.2.2.2.2.1 m.2.2.2.2.2.2.1)
theorem aMF:Sat prog cxT 138 (aI4 iS):=aVq iS λx t h=>by
 obtain⟨a,b,c,d,e,f,g,o,l⟩:=x;cases h;exact⟨0,aDS a e f g⟩
theorem aMt:Sat prog cxT 155 (aIT iS):=aVa iS λx t h=>by
 obtain⟨a,b,c,d,e,f,g,o,l⟩:=x;cases h;exact⟨0,aDS a e f g⟩
def okK (m:Ml):Bool:=!m.2.2.2.2.2.2.2.1 || m.1 == 2 || m.1 == 4
def lZ (m:Ml):Option Bool:=some (okK m)
theorem aMu:Sat prog cxT 154 (aIU lZ):=aVb lZ λx t h=>by
 obtain⟨a,b,c,d,e,f,g,o,l⟩:=x;cases h;refine⟨0,?_⟩;show aHi 0 a b c d e f g o l=some (!o || a == 2 || a == 4)
 (try unfold aLD);unfold aHi G154;dsimp only[fB]
 cases o<;>cases a == 2<;>cases a == 4<;>rfl
def heK (m:Ml):Bool:=decide ((enM m).length=0) || (m.1 == 3&&decide ((lC (enM m)).1<=m.2.2.2.1)&&decide (((enM m).getD 0 iZ).1>=m.2.2.2.2.2.1))
def lI (m:Ml):Option Bool:=if(enM m).length<=mH then some (heK m)else none
theorem aVO (n:Nat):((n:Int) == 0)=decide (n=0):=by by_cases h:n=0<;>simp[h]
theorem aMv:Sat prog cxT 153 (aIV lI):=aVc jM aGd lI λx t h=>by
 obtain⟨a,b,c,d,e,f,g,o,l⟩:=x;unfold lI at h;split at h
 ·rename_i hm;cases h;refine⟨0,?_⟩;show aHj jM 0 a b c d e f g o l=some (decide (l.length=0) || (a == 3&&decide ((lC l).1<=d)&&decide ((l.getD 0 iZ).1>=f)))
  (try unfold aLE);unfold aHj G153;dsimp only[fB]
  rw[show jM l=some (lC l) from if_pos hm];simp only[aV];rw[aVO];by_cases h0:l.length=0
  ·rw[dt h0];rfl
  ·rw[df h0,cond_false,oR,dt (jA 0),dt (show(0:Int) < (l.length:Int)by omega)];cases a == 3
   ·rfl
   ·cases decide ((lC l).1<=d)<;>rfl
 ·cases h
def mlB (x:Nd)(m:Ml):Int:=
 bif !decide (1<=m.1/\m.1<=4)then 5 else bif !tN x.2.1 m.2.1 then 3 else bif m.2.1 == x.1 then 3 else bif m.2.2.1 != x.1 then 3
 else bif !decide (1<=m.2.2.2.1/\m.2.2.2.1<=100000)then 3 else bif !decide (0<=m.2.2.2.2.1/\m.2.2.2.2.1<=40)then 3 else bif !decide (0<=m.2.2.2.2.2.1/\m.2.2.2.2.2.1<=m.2.2.2.1)then 3 else bif !decide (0<=m.2.2.2.2.2.2.1/\m.2.2.2.2.2.2.1<=40)then 3
 else bif sA (enM m) != 0 then sA (enM m)else bif !heK m then 1 else bif !okK m then 1 else bif !zk m.1 m.2.2.2.2.1 m.2.2.2.2.2.1 m.2.2.2.2.2.2.1 then 1 else bif m.2.2.2.2.1 == 0 then(bif m.2.2.2.2.2.1 != 0 then 1 else 0)else 0
def mlF (x:Nd)(m:Ml):Int:=bif ndF x != 0 then ndF x else mlB x m
def eH (x:Nd×Ml):Option Int:=if(enM x.2).length<=mH then some (mlB x.1 x.2)else none
theorem aLT (o:Bool)(a e f g:Int)(T:Option Int):(bif o then bif (a != (2:Int))then bif (a != (4:Int))then some (1:Int)else T else T else T)=(bif !(!o || a == 2 || a == 4)then some 1 else T):=by
 cases o
 ·rfl
 ·show(bif !(a == 2)then bif !(a == 4)then some (1:Int)else T else T)=_;cases a == 2
  ·cases a == 4<;>rfl
  ·rfl
theorem aOX:Sat prog cxT 87 (c87 eH):=s87 bI cR pK jM iS mK aC6 aGh aGj aMF eH λx t h=>by
 obtain⟨x,a,b,c,d,e,f,g,o,l⟩:=x;unfold eH at h;split at h
 ·rename_i hm;have hm:l.length<=1000000000:=hm;cases h;refine⟨0,?_⟩;show g87 bI cR pK jM iS 0 x a b c d e f g o l=_
  (try unfold w87);unfold g87 G87 mlB;dsimp only[fB]
  rw[show jM l=some (lC l) from if_pos hm];simp only[bI,cR,iS,aV,show pK l=some (sA l) from rfl,aLT o a e f g];show(bif !decide (1<=a/\a<=4)then some 5 else bif !tN x.2.1 b then some 3 else _)=some (bif !decide (1<=a/\a<=4)then 5 else bif !tN x.2.1 b then 3 else _);cases decide (1<=a/\a<=4)
  case false=>rfl
  cases tN x.2.1 b
  case false=>rfl
  simp only[cE,cond_false];cases b == x.1
  case true=>rfl
  simp only[cond_false];cases c != x.1
  case true=>rfl
  simp only[cond_false];cases decide (1<=d/\d<=100000)
  case false=>rfl
  simp only[cE,cond_false];cases decide (0<=e/\e<=40)
  case false=>rfl
  simp only[cE,cond_false];cases decide (0<=f/\f<=d)
  case false=>rfl
  simp only[cE,cond_false];cases decide (0<=g/\g<=40)
  case false=>rfl
  simp only[cE,cond_false];simp only[enM];cases sA l != 0
  case true=>rfl
  simp only[cond_false];have e1:(bif !zk a e f g then some (1:Int)else bif (e == (0:Int))then bif (f != (0:Int))then some (1:Int)else some (0:Int)else some (0:Int))=some (bif !zk a e f g then 1 else bif e == 0 then(bif f != 0 then 1 else 0)else 0):=by simp only[bqi]
  rw[show heK (a,b,c,d,e,f,g,o,l)=(decide (l.length=0) || (a == 3&&decide ((lC l).1<=d)&&decide ((l.getD 0 iZ).1>=f))) from rfl,show okK (a,b,c,d,e,f,g,o,l)=(!o || a == 2 || a == 4) from rfl];simp only[e1];by_cases h0:l.length=0
  ·rw[df (show ¬ (l.length:Int) > 0 by omega),dt h0];simp only[cond_false,Bool.true_or,cE];exact bqi _ _ _
  ·rw[dt (show(l.length:Int) > 0 by omega),df h0,dt (jA 0)];simp only[cond_true,cI,oR];show(bif !(a == 3)then some (1:Int)else _)=_;cases a == 3
   case false=>rfl
   simp only[cE,cond_false,eW];by_cases h1:(lC l).1 > d
   ·rw[dt h1,df (show ¬ (lC l).1<=d by omega)];rfl
   ·rw[df h1,dt (show(lC l).1<=d by omega)];simp only[cond_false,eW];show(bif decide ((l.getD 0 iZ).1 < f)then _ else _)=_;by_cases h2:(l.getD 0 iZ).1 < f
    ·rw[dt h2,df (show ¬ (l.getD 0 iZ).1>=f by omega)];rfl
    ·rw[df h2,dt (show(l.getD 0 iZ).1>=f by omega)];simp only[cond_false,cE];exact bqi _ _ _
 ·cases h
def lX (x:Ml×Int):Option Int:=if 0<=x.2/\x.2<=1048576/\(enM x.1).length<=top then some (pC x.2 ((enM x.1).length:Int))else none
theorem aO0:Sat prog cxT 84 (c84 lX):=s84 gG aGi lX λx t h=>by
 obtain⟨⟨ma,mb,mc,md,me,mf,mg,mo,ml⟩,v⟩:=x;unfold lX at h;split at h
 ·rename_i hm;cases h;refine⟨0,?_⟩;show g84 gG 0 ma mb mc md me mf mg mo ml v=some (pC v (ml.length:Int))
  (try unfold w84);unfold g84 G84;dsimp only[fB]
  rw[show gG (ml,v)=some (pC v (ml.length:Int)) from if_pos ⟨hm.2.2,hm.1,hm.2.1⟩,aV];unfold pC;split
  ·rfl
  ·rename_i hh;rw[df hh];rfl
 ·cases h
def lV (m:Ml):Option Ml:=if(enM m).length<=mH then some m else none
theorem aOV:Sat prog cxT 91 (c91 lV):=s91 gF aGg lV λx t h=>by
 obtain⟨ma,mb,mc,md,me,mf,mg,mo,ml⟩:=x;unfold lV at h;split at h
 ·rename_i hm;cases h;refine⟨0,?_⟩;show g91 gF 0 ma mb mc md me mf mg mo ml=_
  (try unfold w91);unfold g91 G91;dsimp only[fB]
  rw[show gF ml=some ml from if_pos hm,aV]
 ·cases h
end Go.Proofs.Tryz
