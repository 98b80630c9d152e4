/- A part of the proof of FnExactSafeCluster: LmZd, LmZe, LmZf, LmTop. -/
import Derived.Test.YtnmbggfkmkcmkaaGreatLmZa
import Derived.Test.YtnmbggfkmkcmkaaGreatLmFo
import Derived.Test.YtnmbggfkmkcmkaaGreatVmOpen
set_option linter.unusedSimpArgs false
set_option linter.unusedVariables false
set_option maxHeartbeats 0
namespace Go.Proofs.Tryz
open Go.IntKind (wrap)
open Go Go.VM Go.RowKit
def sld (d:List Sl):List En:=d.map λs=>s.2
theorem yG (d:List Sl):(sld d).length=d.length:=cL ..
theorem aHO {d:List Sl}{i:Nat}(h:i < d.length):(sld d).getD i gB=(d.getD i dS).2:=by
 unfold sld;rw[vQ gB (by rw[cL];exact h),vQ dS h,List.getElem_map]
def aBc (d:List Sl)(i:Nat):List En:=sld (d.take i)
theorem aHE {d:List Sl}{i:Nat}(h:i<=d.length):(aBc d i).length=i:=by unfold aBc;rw[yG,eA];omega
theorem aGs {d:List Sl}{i:Nat}(h:i < d.length):aBc d i++[(d.getD i dS).2]=aBc d (i+1):=by
 unfold aBc sld;rw[vQ dS h,List.take_succ_eq_append_getElem h,cU]
 rfl
theorem aHF (d:List Sl):aBc d d.length=sld d:=by unfold aBc;rw[qM]
def lE (d:List Sl):Option (List En):=if d.length<=jL then some (sld d)else none
theorem aUW (L:Nat)(d:List Sl)(hd:d.length<=1000000000):∀ n i,i<=d.length->d.length < n+i->xH L d n (aBc d i) (i:Int) some=some (sld d)
 | 0,i,h1,h2=>by omega
 | n+1,i,h1,h2=>by
  show B53_0 (λx=>x) (λo v=>xH L d n o v some) some d (aBc d i) (i:Int)=_;unfold B53_0;by_cases hi:i < d.length
  ·have hu:=aHE h1;dsimp only[eF];rw[dt (by omega),cond_true,dt (by omega),bK,cond_true,dt (by rw[hu,List.length_singleton];omega),cond_true,wi (by omega) (by omega),aY];show xH L d n (aBc d i++[(d.getD i dS).2]) ((i+1:Nat):Int) some=_;rw[aGs hi];exact aUW L d hd n (i+1) (by omega) (by omega)
  ·rw[df (by omega),cond_false,show i=d.length by omega,aHF]
theorem aRZ:Sat prog cxT 53 (c53 lE):=s53 lE λd t h=>by
 unfold lE at h;split at h
 ·rename_i hc;cases h;exact⟨d.length+1,aUW _ d hc _ 0 (dQ _) (by omega)⟩
 ·cases h
theorem bz {p:Bool}{k y:Int}(h:(bif p then k else y)=0)(hk:k≠0):p=false/\y=0:=by
 cases p
 ·exact⟨rfl,h⟩
 ·exact absurd h hk
theorem bzl {k y:Int}(h:(bif k != 0 then k else y)=0):y=0:=by
 by_cases hk:k=0
 ·rwa [aA4 hk]at h
 ·rw[qU hk]at h;exact absurd h hk
theorem aIh {x:Nd}(h:ndF x=0):(0<=x.2.2.1/\0<=x.2.2.2.2.2.1/\x.2.2.2.2.2.1<=2)/\0<=x.2.2.2.2.2.2.1/\x.2.2.2.2.2.2.1<=((iI x).length:Int):=by
 unfold ndF at h;have h1:=bz (bz h (by decide)).2 (by decide);have h2:=bz h1.2 (by decide);have h3:=bz h2.2 (by decide);have h4:=bz h3.2 (by decide);have h5:=bzl h4.2;have h6:=bz h5 (by decide);have h7:=bz h6.2 (by decide);have e2:=of_decide_eq_true (by simpa using h2.1);have e4:=of_decide_eq_true (by simpa using h4.1);have e7:=of_decide_eq_true (by simpa using h7.1);exact⟨⟨e2.1,e4⟩,e7⟩
theorem aNL {c:Cl}(h:uU c=0):(∀ i,i < c.1.length->ndF (c.1.getD i dN)=0/\(c.1.getD i dN).1=(i:Int))/\∀ i,i < c.2.2.2.length->enF (c.2.2.2.getD i dS).2=0:=by
 unfold uU at h;split at h
 ·cases h
 split at h
 ·cases h
 split at h
 ·cases h
 split at h
 ·rename_i hN;split at h
  ·split at h
   ·cases h
   split at h
   ·cases h
   split at h
   ·refine⟨λi hi=>?_,λi hi=>?_⟩
    ·have:=yX _ _ hN i (dQ _) (by omega);unfold fN at this;split at this
     ·rename_i h1;split at this
      ·rename_i h2;exact⟨h1,h2⟩
      ·cases this
     ·rename_i h1;exact absurd this h1
    ·have:=yX _ _ h i (dQ _) (by omega);unfold fS at this;split at this
     ·exact this
     ·cases this
   ·rename_i h1;exact absurd h h1
  ·rename_i h1;exact absurd h h1
 ·rename_i h1;exact absurd h h1
theorem aNK {p:En->En->Bool}:∀ {a b:List En} {j:Nat},j<=a.length->j<=b.length->(j<=qK p a b↔∀ k,k < j->p (a.getD k gB) (b.getD k gB)=true)
 | a,b,0,_,_=>⟨λ_ k h=>by omega,λ_=>dQ _⟩
 | [],b,j+1,h,_=>by simp at h
 | x::a,[],j+1,_,h=>by simp at h
 | x::a,y::b,j+1,h1,h2=>by
  have ih:=aNK (p:=p) (a:=a) (b:=b) (j:=j) (by simpa using h1) (by simpa using h2);show j+1<=(if p x y then qK p a b+1 else 0)↔_;by_cases hp:p x y=true
  ·rw[if_pos hp];constructor
   ·intro h k hk;cases k with
    | zero=>exact hp
    | succ k=>exact ih.1 (by omega) k (by omega)
   ·intro h;have:=ih.2 λk hk=>h (k+1) (by omega)
    omega
  ·rw[if_neg hp];constructor
   ·intro h;omega
   ·intro h;exact absurd (h 0 (by omega)) hp
end Go.Proofs.Tryz
set_option maxHeartbeats 0
namespace Go.Proofs.Tryz
open Go.IntKind (wrap)
open Go Go.VM Go.RowKit
def aDd (x:Nd):Int:=x.2.2.2.2.2.2.1
def aAu (d:List Sl)(x:Nd):Bool:=decide (aDd x<=((qK eG (iI x) (sld d):Nat):Int))
def qH (c:Cl):Bool:=jW (λi=>aAu c.2.2.2 (c.1.getD i dN)) c.1.length 0
def aEU (c:Cl):Option Bool:=if cOk c then some (decide (uU c=0)&&qH c)else none
theorem aLt:Sat prog cxT 18 (c18 aEU):=s18 eQ lE fJ aFF aRZ aLo aEU λc t h=>by
 obtain⟨a,b,w,d⟩:=c;unfold aEU at h;split at h
 ·rename_i hc;cases h;obtain⟨ha,hn,_,hd⟩:=uS hc;have ha:a.length<=1000000000:=ha;have hd:d.length<=1000000000:=hd;refine⟨a.length+1,?_⟩
  generalize hL:a.length+1=L
  show g18 eQ lE fJ L a b w d=some (decide (uU (a,b,w,d)=0)&&qH (a,b,w,d));unfold g18 G18 A18_0;rw[show eQ (a,b,w,d)=some (uU (a,b,w,d)) from if_pos hc,aR];by_cases hz:uU (a,b,w,d)=0
  ·rw[aA4 hz,cond_false,dt hz,dW,show lE d=some (sld d) from if_pos hd,aR];refine(gI (N:=a.length) (p:=λi=>aAu d (a.getD i dN)) (F:=some false) (K:=some true) (l:=λn v=>vL eQ lE fJ L a b w d n (sld d) v (some true)) (λn i hi=>?_) (λn=>?_) (by omega)).trans iA
   ·show B18_0 (λx=>x) (λs v=>vL eQ lE fJ L a b w d n s v (some true)) (some true) eQ lE fJ a b w d (sld d) (i:Int)=_;unfold B18_0;dsimp only[eF];rw[dt (by omega),cond_true,dt (by omega),bK,cond_true,wi (by omega) (by omega),aY];show cM (fJ (iI (a.getD i dN),sld d)) 0 (λq=>bif decide (q < aDd (a.getD i dN))then some false else vL eQ lE fJ L a b w d n (sld d) ((i:Int)+1) (some true))=_;rw[show fJ (iI (a.getD i dN),sld d)=some ((qK eG (iI (a.getD i dN)) (sld d):Nat):Int) from if_pos ⟨(hn _ (iC dN hi)).1,by rw[yG];exact hd⟩,aR];unfold aAu;by_cases hk:aDd (a.getD i dN)<=((qK eG (iI (a.getD i dN)) (sld d):Nat):Int)
    ·rw[dt hk,df (by omega)];rfl
    ·rw[df hk,dt (by omega)];rfl
   ·show B18_0 (λx=>x) (λs v=>vL eQ lE fJ L a b w d n s v (some true)) (some true) eQ lE fJ a b w d (sld d) (a.length:Int)=_;unfold B18_0;rw[df (by omega),cond_false]
  ·rw[qU hz,cond_true,df hz];rfl
 ·cases h
theorem aIN {d:List Sl}{x:Nd}{j:Nat}(hj:(j:Int)=aDd x)(h1:j<=(iI x).length)(h2:j<=d.length):aAu d x=jW (λk=>eG ((iI x).getD k gB) (d.getD k dS).2) j 0:=by
 unfold aAu;rw[Bool.eq_iff_iff,pR,decide_eq_true_iff,<-hj];have:=aNK (p:=eG) (a:=iI x) (b:=sld d) (j:=j) h1 (by rw[yG];exact h2);constructor
 ·intro h k _ hk;rw[<-aHO (show k < d.length by omega)];exact this.1 (by omega) k (by omega)
 ·intro h;have:=this.2 λk hk=>by rw[aHO (show k < d.length by omega)];exact h k (dQ _) (by omega)
  omega
def nR (c:Cl):Option Bool:=if cOk c/\uU c=0 then some (qH c)else none
theorem aPP (L:Nat)(c:Cl)(i:Nat)(K:Option Bool)(hd:c.2.2.2.length<=1000000000){x:Nd}(hx:c.1.getD i dN=x){j:Nat}(hj:(j:Int)=aDd x)(h1:j<=(iI x).length)(h2:j<=c.2.2.2.length){n:Nat}(hn:j < n):rH L c (i:Int) n 0 K=bif jW (λk=>eG ((iI x).getD k gB) (c.2.2.2.getD k dS).2) j 0 then K else some false:=
 gI (l:=λn v=>rH L c (i:Int) n v K) (λn k hk=>by
  show B52_2 (λx=>x) (λv=>rH L c (i:Int) n v K) K c (i:Int) (k:Int)=_;unfold B52_2;dsimp only[eF,List.getD_cons_zero];rw[aY,show List.getD c.1 i (0,0,0,0,[],0,0,[],[],[])=x from hx,dt (show(k:Int) < x.2.2.2.2.2.2.1 by show(k:Int) < aDd x;omega),cond_true,aY,dt (show(0:Int)<=(k:Int)by omega),dt (show(k:Int) < ((x.2.2.2.2.1.length:Nat):Int)by show(k:Int) < ((iI x).length:Int);omega),dt (show(k:Int) < ((c.2.2.2.length:Nat):Int)by omega),bK,cond_true,cond_true,aDU,wi (by omega) (by omega)];show(bif !eG ((iI x).getD k gB) (c.2.2.2.getD k dS).2 then _ else _)=_;cases eG ((iI x).getD k gB) (c.2.2.2.getD k dS).2<;>rfl) (λn=>by
  show B52_2 (λx=>x) (λv=>rH L c (i:Int) n v K) K c (i:Int) (j:Int)=_;unfold B52_2;dsimp only[List.getD_cons_zero];rw[aY,show List.getD c.1 i (0,0,0,0,[],0,0,[],[],[])=x from hx,df (show ¬ (j:Int) < x.2.2.2.2.2.2.1 by show ¬ (j:Int) < aDd x;omega),cond_false]) hn
theorem aLp:Sat prog cxT 52 (c52 nR):=s52 nR λc t h=>by
 unfold nR at h;split at h
 ·rename_i hc;cases h;obtain⟨ha,hn,_,hd⟩:=uS hc.1;have hf:=(aNL hc.2).1;refine⟨c.1.length+c.2.2.2.length+1,?_⟩
  generalize hL:c.1.length+c.2.2.2.length+1=L
  show g52 L c=some (qH c);unfold g52 G52 A52_0;refine(gI (N:=c.1.length) (p:=λi=>aAu c.2.2.2 (c.1.getD i dN)) (F:=some false) (K:=some true) (l:=λn v=>qA L c n v (some true)) (λn i hi=>?_) (λn=>?_) (by omega)).trans iA
  ·show B52_0 (λx=>x) (λv=>qA L c n v (some true)) (some true) (λv=>rH L c (i:Int) L v (qA L c n (wrap .i64 ((i:Int)+1)) (some true))) c (i:Int)=_;unfold B52_0;obtain⟨h0,h1⟩:=(aIh (hf i hi).1).2
   generalize hx:c.1.getD i dN=x at h0 h1
   dsimp only[eF,List.getD_cons_zero];rw[aY,show List.getD c.1 i (0,0,0,0,[],0,0,[],[],[])=x from hx,dt (show(i:Int) < (c.1.length:Int)by omega),dt (show(0:Int)<=(i:Int)by omega),bK,cond_true,cond_true];by_cases hk:x.2.2.2.2.2.2.1 > (c.2.2.2.length:Int)
   ·rw[dt hk,cond_true];have:aAu c.2.2.2 x=false:=df (by
     have h9:=(aFp eG (iI x) (sld c.2.2.2)).2;rw[yG]at h9;show ¬ x.2.2.2.2.2.2.1<=_;omega)
    rw[this];rfl
   ·obtain⟨j,hj⟩:∃ j:Nat,(j:Int)=aDd x:=⟨(aDd x).toNat,Int.toNat_of_nonneg h0⟩
    have hj':(j:Int)=x.2.2.2.2.2.2.1:=hj;rw[df hk,cond_false,wi (by omega) (by omega)];refine(aPP L c i _ hd hx hj (by omega) (by omega) (by omega)).trans ?_;rw[aIN hj (by omega) (by omega)]
    rfl
  ·show B52_0 (λx=>x) (λv=>qA L c n v (some true)) (some true) (λv=>rH L c (c.1.length:Int) L v (qA L c n (wrap .i64 ((c.1.length:Int)+1)) (some true))) c (c.1.length:Int)=_;unfold B52_0;dsimp only[List.getD_cons_zero];rw[df (by omega),cond_false]
 ·cases h
def hvK (d:List Sl)(x:Nd)(k:Nat):Bool:=!decide ((d.getD k dS).1<=x.2.2.1) || eG ((iI x).getD k gB) (d.getD k dS).2
def hvN (d:List Sl)(x:Nd):Bool:=jW (hvK d x) d.length 0
def aIU (d:List Sl)(x:Nd):Bool:=!(x.2.2.2.2.2.1 == 2) || hvN d x
def qI (c:Cl):Bool:=jW (λi=>aIU c.2.2.2 (c.1.getD i dN)) c.1.length 0
theorem aK5 {a:List En}{k:Nat}(ha:a.length<=1000000000):∃ b,iT (a,(k:Int)+1)=some (aDp (a.getD k gB) b):=by
 unfold iT;rw[if_pos (show(a,(k:Int)+1).1.length<=jL from ha)];by_cases h:k < a.length
 ·rw[if_pos (by dsimp only;omega)];refine⟨true,?_⟩;rw[show((a,(k:Int)+1).2-1).toNat=k by dsimp only;omega]
 ·rw[if_neg (by dsimp only;omega)];refine⟨false,?_⟩;rw[List.getD,bH (by omega)]
  rfl
def kR (x:Nd×List Sl):Option Bool:=if(iI x.1).length<=jL/\x.2.length<=jL then some (hvN x.2 x.1)else none
theorem aRY:Sat prog cxT 56 (c56 kR):=s56 iT aLh kR λx t h=>by
 obtain⟨⟨x0,x1,x2,x3,a,x5,x6,x7,x8,x9⟩,d⟩:=x;unfold kR at h;split at h
 ·rename_i hc;cases h;obtain⟨ha,hd⟩:a.length<=1000000000/\d.length<=1000000000:=hc;refine⟨d.length+1,?_⟩
  generalize hL:d.length+1=L
  show g56 iT L x0 x1 x2 x3 a x5 x6 x7 x8 x9 d=some (hvN d (x0,x1,x2,x3,a,x5,x6,x7,x8,x9));unfold g56 G56 A56_0;refine(gI (N:=d.length) (p:=hvK d (x0,x1,x2,x3,a,x5,x6,x7,x8,x9)) (F:=some false) (K:=some true) (l:=λn v=>xG iT L x0 x1 x2 x3 a x5 x6 x7 x8 x9 d n x0 x1 x2 x3 a x5 x6 x7 x8 x9 v (some true)) (λn i hi=>?_) (λn=>?_) (by omega)).trans iA
  ·show B56_0 (λx=>x) (λv0 v1 v2 v3 v4 v5 v6 v7 v8 v9 v=>xG iT L x0 x1 x2 x3 a x5 x6 x7 x8 x9 d n v0 v1 v2 v3 v4 v5 v6 v7 v8 v9 v (some true)) (some true) iT x0 x1 x2 x3 a x5 x6 x7 x8 x9 d x0 x1 x2 x3 a x5 x6 x7 x8 x9 (i:Int)=_;unfold B56_0;dsimp only[eF];obtain⟨b,hb⟩:=aK5 (a:=a) (k:=i) ha;rw[dt (by omega),cond_true,dt (by omega),bK,cond_true,wi (by omega) (by omega),hb,aR,aY];simp only[aDU];show(bif decide ((d.getD i dS).1<=x2)then(bif !eG (a.getD i gB) (d.getD i dS).2 then _ else _)else _)=(bif !decide ((d.getD i dS).1<=x2) || eG (a.getD i gB) (d.getD i dS).2 then _ else _)
   cases decide ((d.getD i dS).1<=x2)<;>cases eG (a.getD i gB) (d.getD i dS).2<;>rfl
  ·show B56_0 (λx=>x) (λv0 v1 v2 v3 v4 v5 v6 v7 v8 v9 v=>xG iT L x0 x1 x2 x3 a x5 x6 x7 x8 x9 d n v0 v1 v2 v3 v4 v5 v6 v7 v8 v9 v (some true)) (some true) iT x0 x1 x2 x3 a x5 x6 x7 x8 x9 d x0 x1 x2 x3 a x5 x6 x7 x8 x9 (d.length:Int)=_;unfold B56_0;rw[df (by omega),cond_false]
 ·cases h
def aEV (c:Cl):Option Bool:=if cOk c then some (decide (uU c=0)&&qI c)else none
theorem aLs:Sat prog cxT 20 (c20 aEV):=s20 eQ kR aFF aRY aEV λc t h=>by
 obtain⟨a,b,w,d⟩:=c;unfold aEV at h;split at h
 ·rename_i hc;cases h;obtain⟨ha,hn,_,hd⟩:=uS hc;have ha:a.length<=1000000000:=ha;have hd:d.length<=1000000000:=hd;refine⟨a.length+1,?_⟩
  generalize hL:a.length+1=L
  show g20 eQ kR L a b w d=some (decide (uU (a,b,w,d)=0)&&qI (a,b,w,d));unfold g20 G20 A20_0;rw[show eQ (a,b,w,d)=some (uU (a,b,w,d)) from if_pos hc,aR];by_cases hz:uU (a,b,w,d)=0
  ·rw[aA4 hz,cond_false,dt hz,dW];refine(gI (N:=a.length) (p:=λi=>aIU d (a.getD i dN)) (F:=some false) (K:=some true) (l:=λn v=>tH eQ kR L a b w d n a b w d v (some true)) (λn i hi=>?_) (λn=>?_) (by omega)).trans iA
   ·show B20_0 (λx=>x) (λv0 v1 v2 v3 v=>tH eQ kR L a b w d n v0 v1 v2 v3 v (some true)) (some true) eQ kR a b w d a b w d (i:Int)=_;unfold B20_0;dsimp only[eF];rw[dt (by omega),cond_true,dt (by omega),bK,cond_true,wi (by omega) (by omega),aY];show(bif (a.getD i dN).2.2.2.2.2.1 == 2 then cM (kR (a.getD i dN,d)) false (λq=>bif !q then some false else tH eQ kR L a b w d n a b w d ((i:Int)+1) (some true))else tH eQ kR L a b w d n a b w d ((i:Int)+1) (some true))=_;rw[show kR (a.getD i dN,d)=some (hvN d (a.getD i dN)) from if_pos ⟨(hn _ (iC dN hi)).1,hd⟩,aR];show _=(bif !((a.getD i dN).2.2.2.2.2.1 == 2) || hvN d (a.getD i dN)then _ else _)
    cases ((a.getD i dN).2.2.2.2.2.1 == 2)<;>cases hvN d (a.getD i dN)<;>rfl
   ·show B20_0 (λx=>x) (λv0 v1 v2 v3 v=>tH eQ kR L a b w d n v0 v1 v2 v3 v (some true)) (some true) eQ kR a b w d a b w d (a.length:Int)=_;unfold B20_0;rw[df (by omega),cond_false]
  ·rw[qU hz,cond_true,df hz];rfl
 ·cases h
def nQ (c:Cl):Option Bool:=if cOk c/\uU c=0 then some (qI c)else none
theorem aUQ:enF gB≠0:=by decide
theorem aPO (L:Nat)(c:Cl)(i:Nat)(K:Option Bool)(hd:c.2.2.2.length<=1000000000)(hf:∀ k,k < c.2.2.2.length->enF (c.2.2.2.getD k dS).2=0){x:Nd}(hx:c.1.getD i dN=x){n:Nat}(hn:c.2.2.2.length < n):rG L c (i:Int) n 0 K=bif hvN c.2.2.2 x then K else some false:=
 gI (l:=λn v=>rG L c (i:Int) n v K) (λn k hk=>by
  show B55_2 (λx=>x) (λv=>rG L c (i:Int) n v K) K c (i:Int) (k:Int)=_;unfold B55_2;dsimp only[eF,List.getD_cons_zero];rw[aY,aY,show List.getD c.1 i (0,0,0,0,[],0,0,[],[],[])=x from hx,dt (show(k:Int) < ((c.2.2.2.length:Nat):Int)by omega),dt (show(0:Int)<=(k:Int)by omega),bK,cond_true,cond_true,aDU,wi (by omega) (by omega)];have hz:=hf k hk;show(bif decide ((c.2.2.2.getD k dS).1<=x.2.2.1)then(bif decide ((k:Int)>=((iI x).length:Int))then some false else bif (true&&decide ((k:Int) < ((iI x).length:Int)))then(bif !eG ((iI x).getD k gB) (c.2.2.2.getD k dS).2 then some false else _)else none)else _)=(bif !decide ((c.2.2.2.getD k dS).1<=x.2.2.1) || eG ((iI x).getD k gB) (c.2.2.2.getD k dS).2 then _ else _)
  by_cases h1:k < (iI x).length
  ·rw[df (show ¬ (k:Int)>=((iI x).length:Int)by omega),dt (show(k:Int) < ((iI x).length:Int)by omega)];cases decide ((c.2.2.2.getD k dS).1<=x.2.2.1)<;>cases eG ((iI x).getD k gB) (c.2.2.2.getD k dS).2<;>rfl
  ·have:eG ((iI x).getD k gB) (c.2.2.2.getD k dS).2=false:=df (λe=>by
    rw[List.getD,bH (by omega)]at e;rw[<-e]at hz;exact aUQ hz)
   rw[dt (show(k:Int)>=((iI x).length:Int)by omega),this];cases decide ((c.2.2.2.getD k dS).1<=x.2.2.1)<;>rfl) (λn=>by
  show B55_2 (λx=>x) (λv=>rG L c (i:Int) n v K) K c (i:Int) (c.2.2.2.length:Int)=_;unfold B55_2;dsimp only[List.getD_cons_zero];rw[df (by omega),cond_false]) hn
theorem aLn:Sat prog cxT 55 (c55 nQ):=s55 nQ λc t h=>by
 unfold nQ at h;split at h
 ·rename_i hc;cases h;obtain⟨ha,hn,_,hd⟩:=uS hc.1;refine⟨c.1.length+c.2.2.2.length+1,?_⟩
  generalize hL:c.1.length+c.2.2.2.length+1=L
  show g55 L c=some (qI c);unfold g55 G55 A55_0;refine(gI (N:=c.1.length) (p:=λi=>aIU c.2.2.2 (c.1.getD i dN)) (F:=some false) (K:=some true) (l:=λn v=>pZ L c n v (some true)) (λn i hi=>?_) (λn=>?_) (by omega)).trans iA
  ·show B55_0 (λx=>x) (λv=>pZ L c n v (some true)) (some true) (λv=>rG L c (i:Int) L v (pZ L c n (wrap .i64 ((i:Int)+1)) (some true))) c (i:Int)=_;unfold B55_0
   generalize hx:c.1.getD i dN=x
   dsimp only[eF,List.getD_cons_zero];rw[aY,show List.getD c.1 i (0,0,0,0,[],0,0,[],[],[])=x from hx,dt (show(i:Int) < (c.1.length:Int)by omega),dt (show(0:Int)<=(i:Int)by omega),bK,cond_true,cond_true,wi (by omega) (by omega),aPO L c i _ hd (aNL hc.2).2 hx (by omega)];show _=(bif !(x.2.2.2.2.2.1 == 2) || hvN c.2.2.2 x then _ else _)
   show(bif !(x.2.2.2.2.2.1 == 2)then _ else _)=_;cases (x.2.2.2.2.2.1 == 2)<;>cases hvN c.2.2.2 x<;>rfl
  ·show B55_0 (λx=>x) (λv=>pZ L c n v (some true)) (some true) (λv=>rG L c (c.1.length:Int) L v (pZ L c n (wrap .i64 ((c.1.length:Int)+1)) (some true))) c (c.1.length:Int)=_;unfold B55_0;dsimp only[List.getD_cons_zero];rw[df (by omega),cond_false]
 ·cases h
end Go.Proofs.Tryz
set_option maxHeartbeats 0
namespace Go.Proofs.Tryz
open Go.IntKind (wrap)
open Go Go.VM Go.RowKit
def vG (c:Cl):Bool:=prs (0,0) wL c.2.2.1
def vJ (c:Cl):Bool:=prs dN prN c.1
def sX (p:Cl->Bool)(c:Cl):Option Bool:=if cOk c then some (decide (uU c=0)&&p c)else none
theorem wV {x:Int}{p:Bool}{o:Option Bool}(h:x=0->o=some p):(bif x == 0 then cM o false (λq=>some q)else some false)=some (decide (x=0)&&p):=by
 by_cases hx:x=0
 ·rw[hx,show((0:Int) == 0)=true from rfl,cond_true,h hx,aR,dt rfl,dW]
 ·rw[yB hx,df hx];rfl
theorem aSl:Sat prog cxT 11 (c11 (sX vG)):=s11 eQ nT aDw aLr _ λc t h=>by
 obtain⟨a,b,w,d⟩:=c;unfold sX at h;split at h
 ·rename_i hc;cases h;refine⟨0,?_⟩;show g11 eQ nT 0 a b w d=_;unfold g11 G11;rw[show eQ (a,b,w,d)=some (uU (a,b,w,d)) from if_pos hc,aR];exact wV λ_=>if_pos hc
 ·cases h
theorem aLv:Sat prog cxT 13 (c13 (sX vG)):=s13 eQ m43 aFF aR7 _ λc t h=>by
 obtain⟨a,b,w,d⟩:=c;unfold sX at h;split at h
 ·rename_i hc;cases h;obtain⟨_,_,hw,_⟩:=uS hc;refine⟨0,?_⟩;show g13 eQ m43 0 a b w d=_;unfold g13 G13;rw[show eQ (a,b,w,d)=some (uU (a,b,w,d)) from if_pos hc,aR];exact wV (p:=vG (a,b,w,d)) λ_=>if_pos hw
 ·cases h
theorem aSk:Sat prog cxT 15 (c15 (sX vJ)):=s15 eQ nS aDw aLq _ λc t h=>by
 obtain⟨a,b,w,d⟩:=c;unfold sX at h;split at h
 ·rename_i hc;cases h;refine⟨0,?_⟩;show g15 eQ nS 0 a b w d=_;unfold g15 G15;rw[show eQ (a,b,w,d)=some (uU (a,b,w,d)) from if_pos hc,aR];exact wV λ_=>if_pos hc
 ·cases h
theorem aLu:Sat prog cxT 16 (c16 (sX vJ)):=s16 eQ m50 aFF aR1 _ λc t h=>by
 obtain⟨a,b,w,d⟩:=c;unfold sX at h;split at h
 ·rename_i hc;cases h;obtain⟨ha,hn,_,_⟩:=uS hc;refine⟨0,?_⟩;show g16 eQ m50 0 a b w d=_;unfold g16 G16;rw[show eQ (a,b,w,d)=some (uU (a,b,w,d)) from if_pos hc,aR];exact wV (p:=vJ (a,b,w,d)) λ_=>if_pos ⟨ha,hn⟩
 ·cases h
theorem aSj:Sat prog cxT 17 (c17 (sX qH)):=s17 eQ nR aDw aLp _ λc t h=>by
 obtain⟨a,b,w,d⟩:=c;unfold sX at h;split at h
 ·rename_i hc;cases h;refine⟨0,?_⟩;show g17 eQ nR 0 a b w d=_;unfold g17 G17;rw[show eQ (a,b,w,d)=some (uU (a,b,w,d)) from if_pos hc,aR];exact wV λhz=>if_pos ⟨hc,hz⟩
 ·cases h
theorem aSi:Sat prog cxT 19 (c19 (sX qI)):=s19 eQ nQ aDw aLn _ λc t h=>by
 obtain⟨a,b,w,d⟩:=c;unfold sX at h;split at h
 ·rename_i hc;cases h;refine⟨0,?_⟩;show g19 eQ nQ 0 a b w d=_;unfold g19 G19;rw[show eQ (a,b,w,d)=some (uU (a,b,w,d)) from if_pos hc,aR];exact wV λhz=>if_pos ⟨hc,hz⟩
 ·cases h
def aFx (c:Cl):Bool:=vG c&&(vJ c&&(qH c&&qI c))
theorem aSh:Sat prog cxT 21 (c21 (sX aFx)):=s21 eQ nT nS nR nQ aDw aLr aLq aLp aLn _ λc t h=>by
 obtain⟨a,b,w,d⟩:=c;unfold sX at h;split at h
 ·rename_i hc;cases h;refine⟨0,?_⟩;show g21 eQ nT nS nR nQ 0 a b w d=_;unfold g21 G21;rw[show eQ (a,b,w,d)=some (uU (a,b,w,d)) from if_pos hc,aR];by_cases hz:uU (a,b,w,d)=0
  ·rw[show nT (a,b,w,d)=some (vG (a,b,w,d)) from if_pos hc,show nS (a,b,w,d)=some (vJ (a,b,w,d)) from if_pos hc,show nR (a,b,w,d)=some (qH (a,b,w,d)) from if_pos ⟨hc,hz⟩,show nQ (a,b,w,d)=some (qI (a,b,w,d)) from if_pos ⟨hc,hz⟩,hz];simp only[aR];unfold aFx;cases vG (a,b,w,d)<;>cases vJ (a,b,w,d)<;>cases qH (a,b,w,d)<;>cases qI (a,b,w,d)<;>rfl
  ·rw[yB hz,df hz];rfl
 ·cases h
theorem aSg:Sat prog cxT 22 (c22 (sX aFx)):=s22 (sX vG) (sX vJ) aEU aEV aLv aLu aLt aLs _ λc t h=>by
 obtain⟨a,b,w,d⟩:=c;unfold sX at h;split at h
 ·rename_i hc;cases h;refine⟨0,?_⟩;show g22 (sX vG) (sX vJ) aEU aEV 0 a b w d=_;unfold g22 G22;rw[show sX vG (a,b,w,d)=some (decide (uU (a,b,w,d)=0)&&vG (a,b,w,d)) from if_pos hc,show sX vJ (a,b,w,d)=some (decide (uU (a,b,w,d)=0)&&vJ (a,b,w,d)) from if_pos hc,show aEU (a,b,w,d)=some (decide (uU (a,b,w,d)=0)&&qH (a,b,w,d)) from if_pos hc,show aEV (a,b,w,d)=some (decide (uU (a,b,w,d)=0)&&qI (a,b,w,d)) from if_pos hc];simp only[aR];unfold aFx;cases decide (uU (a,b,w,d)=0)<;>cases vG (a,b,w,d)<;>cases vJ (a,b,w,d)<;>cases qH (a,b,w,d)<;>cases qI (a,b,w,d)<;>rfl
 ·cases h
def mL (c:Cl):Option Bool:=if aCm c then some true else none
theorem aDR (p:Cl->Bool)(a:List Nd)(b:List Ml)(w:List Wn)(d:List Sl)(hc:aCm (a,b,w,d)):g3 fA eR (sX p) (sX p) fB 0 a b w d=some true:=by
 have e1:fA ((a,b,w,d),1048576)=some (qV 1048576 (szC (a,b,w,d))):=if_pos ⟨rfl,hc⟩;unfold g3 G3;dsimp only[List.getD_cons_zero];rw[show fA _=some _ from e1,aR];by_cases hz:qV 1048576 (szC (a,b,w,d)) < 0
 ·rw[dt hz];rfl
 have ho:=aRz hz;rw[df hz,cond_false,show eR (a,b,w,d)=some (a,b,w,d) from if_pos ho];simp only[aR];rw[show sX p (a,b,w,d)=some (decide (uU (a,b,w,d)=0)&&p (a,b,w,d)) from if_pos ho];simp only[aR];rw[show ∀ q:Bool,(!(q == q))=false by decide,cond_false,show fB ((a,b,w,d),(a,b,w,d))=some (decide ((a,b,w,d)=(a,b,w,d))) from if_pos ho,aR,dt rfl]
 rfl
theorem aY5:Sat prog cxT 3 (c3 mL):=s3 fA eR (sX vG) (sX vG) fB aDz aDy aSl aLv aDx mL λc t h=>by
 unfold mL at h;split at h
 ·rename_i hc;cases h;exact⟨0,aDR vG c.1 c.2.1 c.2.2.1 c.2.2.2 hc⟩
 ·cases h
theorem aY4:Sat prog cxT 4 (c4 mL):=s4 fA eR (sX vJ) (sX vJ) fB aDz aDy aSk aLu aDx mL λc t h=>by
 unfold mL at h;split at h
 ·rename_i hc;cases h;exact⟨0,aDR vJ c.1 c.2.1 c.2.2.1 c.2.2.2 hc⟩
 ·cases h
theorem aY3:Sat prog cxT 5 (c5 mL):=s5 fA eR (sX qH) aEU fB aDz aDy aSj aLt aDx mL λc t h=>by
 unfold mL at h;split at h
 ·rename_i hc;cases h;exact⟨0,aDR qH c.1 c.2.1 c.2.2.1 c.2.2.2 hc⟩
 ·cases h
theorem aY2:Sat prog cxT 6 (c6 mL):=s6 fA eR (sX qI) aEV fB aDz aDy aSi aLs aDx mL λc t h=>by
 unfold mL at h;split at h
 ·rename_i hc;cases h;exact⟨0,aDR qI c.1 c.2.1 c.2.2.1 c.2.2.2 hc⟩
 ·cases h
theorem aY1:Sat prog cxT 7 (c7 mL):=s7 fA eR (sX aFx) (sX aFx) fB aDz aDy aSh aSg aDx mL λc t h=>by
 unfold mL at h;split at h
 ·rename_i hc;cases h;exact⟨0,aDR aFx c.1 c.2.1 c.2.2.1 c.2.2.2 hc⟩
 ·cases h
theorem sats:Sat prog cxT 3 (c3 mL)/\Sat prog cxT 4 (c4 mL)/\Sat prog cxT 5 (c5 mL)/\Sat prog cxT 6 (c6 mL)/\Sat prog cxT 7 (c7 mL):=⟨aY5,aY4,aY3,aY2,aY1⟩
end Go.Proofs.Tryz
set_option maxHeartbeats 0
namespace Go.Proofs.Tryz
open Go.IntKind (wrap)
open Go Go.VM Go.RowKit
theorem fZ:prog.cellsOf 2=1:=by kernel_rfl
theorem aPV:prog.cellsOf 4=1:=by kernel_rfl
theorem aGe:prog.cellsOf 86=1:=by kernel_rfl
theorem aDg:prog.cellsOf 71=1:=by kernel_rfl
theorem aEh:prog.cellsOf 111=6:=by kernel_rfl
theorem aA2:prog.cellsOf 113=9:=by kernel_rfl
theorem aGd:prog.cellsOf 88=10:=by kernel_rfl
theorem aGc:prog.cellsOf 91=9:=by kernel_rfl
theorem aEi:prog.cellsOf 109=2:=by kernel_rfl
theorem aEg:prog.cellsOf 115=10:=by kernel_rfl
theorem aKG:prog.cellsOf 22=1:=by kernel_rfl
theorem aKF:prog.cellsOf 23=1:=by kernel_rfl
theorem aKE:prog.cellsOf 24=1:=by kernel_rfl
theorem aKD:prog.cellsOf 25=1:=by kernel_rfl
theorem aKC:prog.cellsOf 27=4:=by kernel_rfl
def gJ (x:Int):Prop:=(Lit.int .i64 x).wf=true
def zR (f:Cm):Prop:=gJ f.1/\gJ f.2.1/\gJ f.2.2.1/\gJ f.2.2.2.1/\gJ f.2.2.2.2.1/\gJ f.2.2.2.2.2
def aPN (f:Cm):List (L cxT.ty):=[lv (.int .i64 f.1),lv (.int .i64 f.2.1),lv (.int .i64 f.2.2.1),lv (.int .i64 f.2.2.2.1),lv (.int .i64 f.2.2.2.2.1),lv (.int .i64 f.2.2.2.2.2)]
set_option maxRecDepth 100000 in
theorem opM:Opens prog cxT 111 aPN zR:=
 kC underlying111 aEh (cT (eB underlying2) rfl fZ (cT (eB underlying2) rfl fZ (cT (eB underlying2) rfl fZ (cT (eB underlying2) rfl fZ (cT (eB underlying2) rfl fZ (kP (l:=λx:Int=>lv (.int .i64 x)) (eB underlying2) rfl fZ))))))
def oM (x:En):Prop:=gJ x.1/\gJ x.2.1/\gJ x.2.2.1/\zR x.2.2.2
def aKy (x:En):List (L cxT.ty):=[lv (.int .i64 x.1),lv (.int .i64 x.2.1),lv (.int .i64 x.2.2.1),lv (.int .i64 x.2.2.2.1),lv (.int .i64 x.2.2.2.2.1),lv (.int .i64 x.2.2.2.2.2.1),lv (.int .i64 x.2.2.2.2.2.2.1),lv (.int .i64 x.2.2.2.2.2.2.2.1),lv (.int .i64 x.2.2.2.2.2.2.2.2)]
def i1 (x:Int):List (L cxT.ty):=[lv (.int .i64 x)]
theorem aKc:Opens prog cxT 2 i1 gJ:=eB underlying2
set_option maxRecDepth 100000 in
theorem opE:Opens prog cxT 113 aKy oM:=
 tB (T:=En) (k:=1+(1+(1+6))) (enc:=λx=>i1 x.1++(i1 x.2.1++(i1 x.2.2.1++aPN x.2.2.2))) (good:=oM) underlying113 aA2
  (nP (enc1:=i1) (good:=gJ) aKc rfl fZ (nP (enc1:=i1) (good:=gJ) aKc rfl fZ (nP (enc1:=i1) (good:=gJ) aKc rfl fZ (tZ (enc:=aPN) (good:=zR) opM rfl aEh))))
def wK (x:List En):Prop:=x.length<=maxLen/\∀ y∈x,oM y
def zG (xs:List En):L cxT.ty:=some (.inr (ro 113 xs))
set_option maxRecDepth 100000 in
theorem aSu:Opens prog cxT 86 (λx:List En=>[zG x]) wK:=
 jR (cx:=cxT) (e:=113) (good:=oM) underlying86 aA2 (by decide) bB opE
def sO (x:List Int):Prop:=x.length<=maxLen/\∀ y∈x,gJ y
def aEK (xs:List Int):L cxT.ty:=some (.inr (ro 2 xs))
set_option maxRecDepth 100000 in
theorem aO3:Opens prog cxT 71 (λx:List Int=>[aEK x]) sO:=
 jR (cx:=cxT) (e:=2) (good:=gJ) underlying71 fZ (by decide) bB (eB (cx:=cxT) underlying2)
def bBM (x:Nd):List (L cxT.ty):=[lv (.int .i64 x.1),lv (.int .i64 x.2.1),lv (.int .i64 x.2.2.1),lv (.int .i64 x.2.2.2.1),zG x.2.2.2.2.1,lv (.int .i64 x.2.2.2.2.2.1),lv (.int .i64 x.2.2.2.2.2.2.1),aEK x.2.2.2.2.2.2.2.1,aEK x.2.2.2.2.2.2.2.2.1,aEK x.2.2.2.2.2.2.2.2.2]
def rA (x:Nd):Prop:=gJ x.1/\gJ x.2.1/\gJ x.2.2.1/\gJ x.2.2.2.1/\wK x.2.2.2.2.1/\gJ x.2.2.2.2.2.1/\gJ x.2.2.2.2.2.2.1/\sO x.2.2.2.2.2.2.2.1/\sO x.2.2.2.2.2.2.2.2.1/\sO x.2.2.2.2.2.2.2.2.2
set_option maxRecDepth 100000 in
theorem opN:Opens prog cxT 88 bBM rA:=
 kC underlying88 aGd (cT (eB underlying2) rfl fZ (cT (eB underlying2) rfl fZ (cT (eB underlying2) rfl fZ (cT (eB underlying2) rfl fZ (cT (l:=zG) aSu rfl aGe
  (cT (eB underlying2) rfl fZ (cT (eB underlying2) rfl fZ (cT (l:=aEK) aO3 rfl aDg (cT (l:=aEK) aO3 rfl aDg (kP (l:=aEK) aO3 rfl aDg))))))))))
def bBN (x:Ml):List (L cxT.ty):=[lv (.int .i64 x.1),lv (.int .i64 x.2.1),lv (.int .i64 x.2.2.1),lv (.int .i64 x.2.2.2.1),lv (.int .i64 x.2.2.2.2.1),lv (.int .i64 x.2.2.2.2.2.1),lv (.int .i64 x.2.2.2.2.2.2.1),lv (.bool x.2.2.2.2.2.2.2.1),zG x.2.2.2.2.2.2.2.2]
def vF (x:Ml):Prop:=gJ x.1/\gJ x.2.1/\gJ x.2.2.1/\gJ x.2.2.2.1/\gJ x.2.2.2.2.1/\gJ x.2.2.2.2.2.1/\gJ x.2.2.2.2.2.2.1/\True/\wK x.2.2.2.2.2.2.2.2
set_option maxRecDepth 100000 in
theorem opL:Opens prog cxT 91 bBN vF:=
 kC underlying91 aGc (cT (eB underlying2) rfl fZ (cT (eB underlying2) rfl fZ (cT (eB underlying2) rfl fZ (cT (eB underlying2) rfl fZ (cT (eB underlying2) rfl fZ
  (cT (eB underlying2) rfl fZ (cT (eB underlying2) rfl fZ (cT (l:=λx:Bool=>lv (.bool x)) (aEQ underlying4) rfl aPV (kP (l:=zG) aSu rfl aGe)))))))))
def bBK (x:Wn):List (L cxT.ty):=[lv (.int .i64 x.1),lv (.int .i64 x.2)]
def vE (x:Wn):Prop:=gJ x.1/\gJ x.2
set_option maxRecDepth 100000 in
theorem opW:Opens prog cxT 109 bBK vE:=kC underlying109 aEi (cT (eB underlying2) rfl fZ (kP (l:=λx:Int=>lv (.int .i64 x)) (eB underlying2) rfl fZ))
def bBL (x:Sl):List (L cxT.ty):=lv (.int .i64 x.1)::aKy x.2
def qZ (x:Sl):Prop:=gJ x.1/\oM x.2
set_option maxRecDepth 100000 in
theorem opS:Opens prog cxT 115 bBL qZ:=
 tB (T:=Sl) (k:=1+9) (enc:=λx=>i1 x.1++aKy x.2) (good:=qZ) underlying115 aEg (nP (enc1:=i1) (good:=gJ) aKc rfl fZ (tZ (enc:=aKy) (good:=oM) opE rfl aA2))
def qY {α:Type}(p:α->Prop)(x:List α):Prop:=x.length<=maxLen/\∀ y∈x,p y
def aH2 (xs:List Nd):L cxT.ty:=some (.inr (ro 88 xs))
def aH1 (xs:List Ml):L cxT.ty:=some (.inr (ro 91 xs))
def aEM (xs:List Wn):L cxT.ty:=some (.inr (ro 109 xs))
def aEL (xs:List Sl):L cxT.ty:=some (.inr (ro 115 xs))
set_option maxRecDepth 100000 in
theorem aZV:Opens prog cxT 22 (λx:List Nd=>[aH2 x]) (qY rA):=jR (cx:=cxT) (e:=88) (good:=rA) underlying22 aGd (by decide) bB opN
set_option maxRecDepth 100000 in
theorem aZW:Opens prog cxT 23 (λx:List Ml=>[aH1 x]) (qY vF):=jR (cx:=cxT) (e:=91) (good:=vF) underlying23 aGc (by decide) bB opL
set_option maxRecDepth 100000 in
theorem aZT:Opens prog cxT 24 (λx:List Wn=>[aEM x]) (qY vE):=jR (cx:=cxT) (e:=109) (good:=vE) underlying24 aEi (by decide) bB opW
set_option maxRecDepth 100000 in
theorem aZU:Opens prog cxT 25 (λx:List Sl=>[aEL x]) (qY qZ):=jR (cx:=cxT) (e:=115) (good:=qZ) underlying25 aEg (by decide) bB opS
def encC (c:Cl):List (L cxT.ty):=[aH2 c.1,aH1 c.2.1,aEM c.2.2.1,aEL c.2.2.2]
def opC_good (c:Cl):Prop:=qY rA c.1/\qY vF c.2.1/\qY vE c.2.2.1/\qY qZ c.2.2.2
set_option maxRecDepth 100000 in
theorem opC:Opens prog cxT 27 encC opC_good:=
 kC underlying27 aKC (cT (l:=aH2) aZV rfl aKG (cT (l:=aH1) aZW rfl aKF (cT (l:=aEM) aZT rfl aKE (kP (l:=aEL) aZU rfl aKD))))
theorem pB {α:Type}{x:List α}{p:α->Prop}(h:x.length<=maxLen/\∀ y∈x,p y):x.length<=top:=dR h.1 (by decide)
theorem aO6 {x:Nd}(h:rA x):mM x top:=⟨pB h.2.2.2.2.1,pB h.2.2.2.2.2.2.2.1,pB h.2.2.2.2.2.2.2.2.1,pB h.2.2.2.2.2.2.2.2.2⟩
theorem cl_top {c:Cl}(h:opC_good c):aCm c:=⟨⟨pB h.1,λx hx=>aO6 (h.1.2 x hx)⟩,⟨pB h.2.1,λx hx=>pB (h.2.1.2 x hx).2.2.2.2.2.2.2.2⟩,pB h.2.2.1,pB h.2.2.2⟩
end Go.Proofs.Tryz
