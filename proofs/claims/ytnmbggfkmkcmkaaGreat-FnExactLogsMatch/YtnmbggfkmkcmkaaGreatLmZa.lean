/- A part of the proof of FnExactSafeCluster: LmZa, LmZb, LmZc. -/
import Derived.Test.YtnmbggfkmkcmkaaGreatLmWa
import Derived.Test.YtnmbggfkmkcmkaaGreatLmFo
import Derived.Test.YtnmbggfkmkcmkaaGreatLmFi
import Derived.Test.YtnmbggfkmkcmkaaGreatLmFc
import Derived.Test.YtnmbggfkmkcmkaaGreatVmPl
set_option linter.unusedSimpArgs false
set_option linter.unusedVariables false
set_option maxHeartbeats 0
namespace Go.Proofs.Tryz
open Go.IntKind (wrap)
open Go Go.VM Go.RowKit
def eG (x y:En):Bool:=decide (x=y)
def lC (x y:En):Bool:=x.1 == y.1
theorem aDU {a b c d e f g i j a' b' c' d' e' f' g' i' j':Int}:(((((((((a == a')&&(b == b'))&&(c == c'))&&(d == d'))&&(e == e'))&&(f == f'))&&(g == g'))&&(i == i'))&&(j == j'))=decide (((a,b,c,d,e,f,g,i,j):En)=(a',b',c',d',e',f',g',i',j')):=by
 simp only[aN,Bool.decide_and,oG]
 rfl
theorem aRE:Sat prog cxT 90 (c90 λx=>some (eG x.1 x.2)):=s90 _ λx t h=>by
 obtain⟨⟨a,b,c,d,e,f,g,i,j⟩,a',b',c',d',e',f',g',i',j'⟩:=x;cases h;exact⟨0,congrArg some aDU⟩
theorem aRG:Sat prog cxT 88 (c88 λx=>some (lC x.1 x.2)):=s88 _ λx t h=>by cases h;exact⟨0,rfl⟩
def yH (x:List En×List En×Unit):Option Int:=if x.1.length<=jL/\x.2.1.length<=jL then some (qK eG x.1 x.2.1:Nat)else none
theorem aDN {a b:Nat}:(if(b:Int) < (a:Int)then(b:Int)else(a:Int))=((min a b:Nat):Int):=by
 by_cases h:b < a
 ·rw[if_pos (by omega)];omega
 ·rw[if_neg (by omega)];omega
theorem aUT (L:Nat)(a b:List En)(u:Unit)(ha:a.length<=1000000000)(hb:b.length<=1000000000):∀ (n i:Nat),i<=min a.length b.length->min a.length b.length < n+i->
  aAg dI (λx=>some (eG x.1 x.2)) L a b u n (min a.length b.length:Nat) (min a.length b.length:Nat) i some=some ((i+qK eG (a.drop i) (b.drop i):Nat):Int)
 | 0,i,h1,h2=>by omega
 | n+1,i,h1,h2=>by
  unfold aAg B89_0;dsimp only[eF];by_cases hi:i < min a.length b.length
  ·simp(disch:=omega) only[dt,cond_true,bK,aY,aR];have ih:=aUT L a b u ha hb n (i+1) (by omega) (by omega);rw[wi (by omega) (by omega),show(i:Int)+1=((i+1:Nat):Int)by omega,ih,aEe gB eG (i:=i) (by omega) (by omega)]
   change (bif !eG (a.getD i gB) (b.getD i gB)then _ else _)=_
   cases eG (a.getD i gB) (b.getD i gB)
   ·rfl
   ·simp only[cI,cond_false,if_true];congr 2;omega
  ·rw[df (by omega),cond_false];have:i=min a.length b.length:=by omega
   rw[aGb eG (by
    rcases gW a.length b.length with h | h
    ·exact .inl (cR (by omega))
    ·exact .inr (cR (by omega))),this]
   rfl
theorem aRF:Sat prog cxT 89 (c89 yH):=s89 dI _ aCA aRE yH λx t h=>by
 obtain⟨a,b,u⟩:=x;unfold yH at h;split at h
 ·rename_i hm;have h1:a.length<=1000000000:=hm.1;have h2:b.length<=1000000000:=hm.2;cases h;refine⟨a.length+1,?_⟩;show g89 dI _ (a.length+1) a b u=_
  (try unfold w89);unfold g89 A89_0 G89;dsimp only[eF]
  rw[show dI a=some (a.length:Int) from rfl,aR,show dI b=some (b.length:Int) from rfl,aR,aDN];refine(aUT _ a b u h1 h2 (a.length+1) 0 (by omega) (by omega)).trans ?_;simp
 ·cases h
def fJ (x:List En×List En):Option Int:=if x.1.length<=jL/\x.2.length<=jL then some (qK eG x.1 x.2:Nat)else none
theorem aLo:Sat prog cxT 54 (c54 fJ):=s54 yH aRF fJ λx t h=>by
 obtain⟨a,b⟩:=x;unfold fJ at h;split at h
 ·rename_i hm;cases h;refine⟨0,?_⟩;show g54 yH 0 a b=_
  (try unfold w54);unfold g54 G54;dsimp only[eF]
  rw[show yH (a,(b,PUnit.unit))=some ((qK eG a b:Nat):Int) from if_pos hm,aR]
 ·cases h
theorem aMX (L:Nat)(a b:List En)(ha:a.length<=1000000000)(hb:b.length<=1000000000):∀ (n i:Nat),i<=min a.length b.length->min a.length b.length < n+i->
  uG L a b n i some=some ((i+qK eG (a.drop i) (b.drop i):Nat):Int)
 | 0,i,h1,h2=>by omega
 | n+1,i,h1,h2=>by
  unfold uG B110_0;dsimp only[eF];by_cases hi:i < min a.length b.length
  ·simp(disch:=omega) only[dt,cond_true,bK,aY];have ih:=aMX L a b ha hb n (i+1) (by omega) (by omega);rw[wi (by omega) (by omega),show(i:Int)+1=((i+1:Nat):Int)by omega,ih,aEe gB eG (i:=i) (by omega) (by omega)];rw[aDU]
   change (bif eG (a.getD i gB) (b.getD i gB)then _ else _)=_
   cases eG (a.getD i gB) (b.getD i gB)
   ·rfl
   ·simp only[cond_true,if_true];congr 2;omega
  ·have hE:qK eG (a.drop i) (b.drop i)=0:=aGb eG (by
    rcases gW a.length b.length with h | h
    ·exact .inl (cR (by omega))
    ·exact .inr (cR (by omega)))
   rw[hE];by_cases h3:i < a.length
   ·rw[dt (by omega),cond_true,df (by omega),cond_false];rfl
   ·rw[df (by omega),cond_false];rfl
theorem aOU:Sat prog cxT 110 (aKX fJ):=aZE fJ λx t h=>by
 obtain⟨a,b⟩:=x;unfold fJ at h;split at h
 ·rename_i hm;cases h;refine⟨a.length+1,?_⟩;show aJh (a.length+1) a b=_
  (try unfold aN4);unfold aJh A110_0 G110;dsimp only[eF]
  refine(aMX _ a b hm.1 hm.2 (a.length+1) 0 (by omega) (by omega)).trans ?_;simp
 ·cases h
end Go.Proofs.Tryz
set_option maxHeartbeats 0
namespace Go.Proofs.Tryz
open Go.IntKind (wrap)
open Go Go.VM Go.RowKit
theorem aJQ {p q:Nat->Bool}:∀ (n i:Nat),(∀ j,i<=j->j < i+n->p j=q j)->jW p n i=jW q n i
 | 0,_,_=>rfl
 | n+1,i,h=>by
  show(p i&&jW p n (i+1))=(q i&&jW q n (i+1))
  rw[h i (aK _) (by omega),aJQ n (i+1) λj h1 h2=>h j (by omega) (by omega)]
theorem aDj {β:Type}{N:Nat}{p:Nat->Bool}{F K:β}{l:Nat->Int->β}(hs:∀ n (i:Nat),i < N->l (n+1) (i:Int)=bif p i then l n ((i+1:Nat):Int)else F)(he:∀ n,l (n+1) ((N:Nat):Int)=K) :
  ∀ (m i n:Nat),i+m=N->m < n->l n (i:Int)=bif jW p m i then K else F
 | 0,i,n,h1,h2=>by
  obtain⟨n,rfl⟩:∃ k,n=k+1:=⟨n-1,by omega⟩
  rw[show i=N by omega,he];rfl
 | m+1,i,n,h1,h2=>by
  obtain⟨n,rfl⟩:∃ k,n=k+1:=⟨n-1,by omega⟩
  rw[hs n i (by omega),aDj hs he m (i+1) n (by omega) (by omega)];show _=bif (p i&&jW p m (i+1))then K else F
  cases p i<;>rfl
theorem gI {β:Type}{N:Nat}{p:Nat->Bool}{F K:β}{l:Nat->Int->β}(hs:∀ n (i:Nat),i < N->l (n+1) (i:Int)=bif p i then l n ((i+1:Nat):Int)else F)(he:∀ n,l (n+1) ((N:Nat):Int)=K){n:Nat}(hn:N < n):l n 0=bif jW p N 0 then K else F:=
 aDj hs he N 0 n (by omega) hn
def prs {α:Type}(d:α)(r:α->α->Bool)(a:List α):Bool:=jW (λi=>jW (λk=>r (a.getD k d) (a.getD i d)) i 0) a.length 0
theorem iA {p:Bool}:(bif p then some true else some false)=some p:=by cases p<;>rfl
def wL (x y:Wn):Bool:=(x.1 != y.1) || (x.2 == y.2)
def gQ (x:Wn×Wn):Option Bool:=some (wL x.1 x.2)
theorem aR6:Sat prog cxT 44 (c44 gQ):=s44 gQ λx t h=>by
 obtain⟨⟨a,b⟩,c,d⟩:=x;cases h;refine⟨0,?_⟩;show(bif a != c then some true else some (b == d))=some ((a != c) || (b == d));cases (a != c)<;>rfl
def m43 (x:List Wn×Unit):Option Bool:=if x.1.length<=jL then some (prs (0,0) wL x.1)else none
theorem aPS (L:Nat)(a:List Wn)(u:Unit)(i:Nat)(K:Option Bool)(ha:a.length<=1000000000)(hi:i < a.length){n:Nat}(hn:i < n):rI gQ L a u (i:Int) n 0 K=bif jW (λk=>wL (a.getD k (0,0)) (a.getD i (0,0))) i 0 then K else some false:=
 gI (l:=λn v=>rI gQ L a u (i:Int) n v K) (λn k hk=>by
  show B43_2 (λx=>x) (λv=>rI gQ L a u (i:Int) n v K) K gQ a u (i:Int) (k:Int)=_;unfold B43_2;simp(disch:=omega) only[eF,dt,wi,cond_true,bK,aY];rw[show gQ _=some (wL (a.getD k (0,0)) (a.getD i (0,0))) from rfl,aR];cases wL (a.getD k (0,0)) (a.getD i (0,0))<;>rfl) (λn=>by
  show B43_2 (λx=>x) (λv=>rI gQ L a u (i:Int) n v K) K gQ a u (i:Int) (i:Int)=_;unfold B43_2;rw[df (by omega),cond_false]) hn
theorem aR7:Sat prog cxT 43 (c43 m43):=s43 gQ aR6 m43 λx t h=>by
 obtain⟨a,u⟩:=x;unfold m43 at h;split at h
 ·rename_i hc;cases h;have hc:a.length<=1000000000:=hc;refine⟨a.length+1,?_⟩;show g43 gQ (a.length+1) a u=some (prs (0,0) wL a);unfold g43 G43 A43_0;refine(gI (N:=a.length) (p:=λi=>jW (λk=>wL (a.getD k (0,0)) (a.getD i (0,0))) i 0) (F:=some false) (K:=some true) (l:=λn v=>qF gQ (a.length+1) a u n v (some true)) (λn i hi=>?_) (λn=>?_) (Nat.lt_succ_self _)).trans iA
  ·show B43_0 (λx=>x) (λv=>qF gQ (a.length+1) a u n v (some true)) (some true) (λv=>rI gQ (a.length+1) a u (i:Int) (a.length+1) v (qF gQ (a.length+1) a u n (wrap .i64 ((i:Int)+1)) (some true))) gQ a u (i:Int)=_;unfold B43_0;rw[dt (by omega),cond_true,wi (by omega) (by omega)];exact aPS _ a u i _ hc hi (by omega)
  ·show B43_0 (λx=>x) (λv=>qF gQ (a.length+1) a u n v (some true)) (some true) (λv=>rI gQ (a.length+1) a u (a.length:Int) (a.length+1) v (qF gQ (a.length+1) a u n (wrap .i64 ((a.length:Int)+1)) (some true))) gQ a u (a.length:Int)=_;unfold B43_0;rw[df (by omega),cond_false]
 ·cases h
def nT (c:Cl):Option Bool:=if cOk c then some (prs (0,0) wL c.2.2.1)else none
theorem aPT (L:Nat)(a:Cl)(i:Nat)(K:Option Bool)(ha:a.2.2.1.length<=1000000000)(hi:i < a.2.2.1.length){n:Nat}(hn:i < n):rJ L a (i:Int) n 0 K=bif jW (λk=>wL (a.2.2.1.getD k (0,0)) (a.2.2.1.getD i (0,0))) i 0 then K else some false:=
 gI (l:=λn v=>rJ L a (i:Int) n v K) (λn k hk=>by
  show B37_2 (λx=>x) (λv=>rJ L a (i:Int) n v K) K a (i:Int) (k:Int)=_;unfold B37_2;dsimp only[eF,List.getD_cons_zero];simp(disch:=omega) only[dt,wi,cond_true,bK,aY]
  generalize a.2.2.1.getD k (0,0)=x
  generalize a.2.2.1.getD i (0,0)=y
  unfold wL;by_cases h1:y.1=x.1
  ·by_cases h2:y.2=x.2
   ·simp[h1,h2]
   ·rw[qU h2,aA4 h1.symm,yB (Ne.symm h2),h1,show(x.1 == x.1)=true by simp];rfl
  ·rw[qU (Ne.symm h1),yB h1];rfl) (λn=>by
  show B37_2 (λx=>x) (λv=>rJ L a (i:Int) n v K) K a (i:Int) (i:Int)=_;unfold B37_2;rw[df (by omega),cond_false]) hn
theorem aLr:Sat prog cxT 37 (c37 nT):=s37 nT λx t h=>by
 unfold nT at h;split at h
 ·rename_i hc;cases h;obtain⟨b1,b2,b3,b4,b5,b6⟩:=mC (a:=x.1) (b:=x.2.1) (c:=x.2.2.1) (d:=x.2.2.2) hc;have hl:x.2.2.1.length<=1000000000:=by omega
  refine⟨x.2.2.1.length+1,?_⟩;show g37 (x.2.2.1.length+1) x=some (prs (0,0) wL x.2.2.1);unfold g37 G37 A37_0;refine(gI (N:=x.2.2.1.length) (p:=λi=>jW (λk=>wL (x.2.2.1.getD k (0,0)) (x.2.2.1.getD i (0,0))) i 0) (F:=some false) (K:=some true) (l:=λn v=>qG (x.2.2.1.length+1) x n v (some true)) (λn i hi=>?_) (λn=>?_) (Nat.lt_succ_self _)).trans iA
  ·show B37_0 (λx=>x) (λv=>qG (x.2.2.1.length+1) x n v (some true)) (some true) (λv=>rJ (x.2.2.1.length+1) x (i:Int) (x.2.2.1.length+1) v (qG (x.2.2.1.length+1) x n (wrap .i64 ((i:Int)+1)) (some true))) x (i:Int)=_;unfold B37_0;dsimp only[List.getD_cons_zero];rw[dt (by omega),cond_true,wi (by omega) (by omega)];exact aPT _ x i _ hl hi (by omega)
  ·show B37_0 (λx=>x) (λv=>qG (x.2.2.1.length+1) x n v (some true)) (some true) (λv=>rJ (x.2.2.1.length+1) x (x.2.2.1.length:Int) (x.2.2.1.length+1) v (qG (x.2.2.1.length+1) x n (wrap .i64 ((x.2.2.1.length:Int)+1)) (some true))) x (x.2.2.1.length:Int)=_;unfold B37_0;dsimp only[List.getD_cons_zero];rw[df (by omega),cond_false]
 ·cases h
end Go.Proofs.Tryz
set_option maxHeartbeats 0
namespace Go.Proofs.Tryz
open Go.IntKind (wrap)
open Go Go.VM Go.RowKit
theorem aEf {α:Type}{p:α->α->Bool}(hp:∀ x y,p x y=p y x):∀ a b:List α,qK p a b=qK p b a
 | [],[]=>rfl
 | [],_::_=>rfl
 | _::_,[]=>rfl
 | x::a,y::b=>by
  show(if p x y then qK p a b+1 else 0)=(if p y x then qK p b a+1 else 0)
  rw[hp x y,aEf hp a b]
theorem aEI (x y:En):eG x y=eG y x:=by
 unfold eG;by_cases h:x=y
 ·rw[dt h,dt h.symm]
 ·rw[df h,df (Ne.symm h)]
theorem aEH (x y:En):lC x y=lC y x:=by
 unfold lC;by_cases h:x.1=y.1
 ·rw[h]
 ·rw[yB h,yB (Ne.symm h)]
def prt (a b:List En):Bool:=jW (λi=>!lC (a.getD i gB) (b.getD i gB)) (min a.length b.length-qK eG a b) (qK eG a b)
theorem aIa (a b:List En):prt a b=prt b a:=by
 unfold prt;rw[aEf aEI b a,Nat.min_comm b.length a.length];exact aJQ _ _ λi _ _=>by rw[aEH]
def gF (x:Int×Int):Option Int:=some (if x.1 < x.2 then x.1 else x.2)
theorem aOT:Sat prog cxT 111 (aKW gF):=aZD gF λx t h=>by
 obtain⟨a,b⟩:=x;cases h;refine⟨0,?_⟩;show(bif decide (a < b)then some a else some b)=some (if a < b then a else b);by_cases h:a < b
 ·rw[dt h,if_pos h];rfl
 ·rw[df h,if_neg h];rfl
def gN (x:List En×List En):Option Bool:=if x.1.length<=jL/\x.2.length<=jL then some (prt x.1 x.2)else none
theorem aJA (a b:List En):qK eG a b<=min a.length b.length:=by
 have:=aFp eG a b;omega
theorem aRH:Sat prog cxT 86 (c86 gN):=s86 fJ gF aOU aOT gN λx t h=>by
 obtain⟨a,b⟩:=x;unfold gN at h;split at h
 ·rename_i hc;cases h;have hd:=hc;obtain⟨ha,hb⟩:a.length<=1000000000/\b.length<=1000000000:=hc;have hm:=aJA a b;refine⟨min a.length b.length+1,?_⟩;show g86 fJ gF (min a.length b.length+1) a b=some (prt a b);unfold g86 G86 A86_0;rw[show fJ (a,b)=some ((qK eG a b:Nat):Int) from if_pos hd,aR];have hmin:gF ((a.length:Int),(b.length:Int))=some ((min a.length b.length:Nat):Int):=by
   show some (if(a.length:Int) < (b.length:Int)then(a.length:Int)else(b.length:Int))=_;split<;>congr 1<;>omega
  refine(aDj (N:=min a.length b.length) (p:=λi=>!lC (a.getD i gB) (b.getD i gB)) (F:=some false) (K:=some true) (l:=λn v=>xF fJ gF (min a.length b.length+1) a b n v (some true)) (λn i hi=>?_) (λn=>?_) (min a.length b.length-qK eG a b) (qK eG a b) _ (by omega) (by omega)).trans iA
  ·show B86_0 (λx=>x) (λv=>xF fJ gF (min a.length b.length+1) a b n v (some true)) (some true) fJ gF a b (i:Int)=_;unfold B86_0;rw[hmin,aR];simp(disch:=omega) only[dt,wi,cond_true,bK,aY];show(bif lC (a.getD i gB) (b.getD i gB)then _ else _)=_;cases lC (a.getD i gB) (b.getD i gB)<;>rfl
  ·show B86_0 (λx=>x) (λv=>xF fJ gF (min a.length b.length+1) a b n v (some true)) (some true) fJ gF a b ((min a.length b.length:Nat):Int)=_;unfold B86_0;rw[hmin,aR,df (by omega),cond_false]
 ·cases h
theorem aJP {q:Nat->Bool}{c n:Nat}(h:c<=n):jW (λi=>!(decide (c<=i)&&q i)) n 0=jW (λi=>!q i) (n-c) c:=by
 rw[Bool.eq_iff_iff,pR,pR];constructor
 ·intro k j h1 h2;have:=k j (dQ _) (by omega)
  rwa [dt h1,dW]at this
 ·intro k j h1 h2;by_cases h3:c<=j
  ·rw[dt h3,dW];exact k j h3 (by omega)
  ·rw[df h3];rfl
def iI (x:Nd):List En:=x.2.2.2.2.1
def gO (x:Nd×Nd):Option Bool:=if(iI x.1).length<=jL/\(iI x.2).length<=jL then some (prt (iI x.1) (iI x.2))else none
theorem aR0:Sat prog cxT 51 (c51 gO):=s51 fJ iN _ aLo aLi aRG gO λx t h=>by
 obtain⟨⟨x0,x1,x2,x3,a,x5,x6,x7,x8,x9⟩,y0,y1,y2,y3,b,y5,y6,y7,y8,y9⟩:=x;unfold gO at h;split at h
 ·rename_i hc;cases h;have hd:=hc;obtain⟨ha,hb⟩:a.length<=1000000000/\b.length<=1000000000:=hc;have hm:=aJA a b;refine⟨min a.length b.length+1,?_⟩
  generalize hL:min a.length b.length+1=L
  show g51 fJ iN (λx=>some (lC x.1 x.2)) L x0 x1 x2 x3 a x5 x6 x7 x8 x9 y0 y1 y2 y3 b y5 y6 y7 y8 y9=some (prt a b);unfold g51 G51 A51_0;rw[show fJ (a,b)=some ((qK eG a b:Nat):Int) from if_pos hd,aR,show iN (x0,x1,x2,x3,a,x5,x6,x7,x8,x9)=some (a.length:Int) from rfl,aR,show iN (y0,y1,y2,y3,b,y5,y6,y7,y8,y9)=some (b.length:Int) from rfl,aR,aDN];refine(gI (N:=min a.length b.length) (p:=λi=>!(decide (qK eG a b<=i)&&lC (a.getD i gB) (b.getD i gB))) (F:=some false) (K:=some true) (l:=λn v=>xI fJ iN (λx=>some (lC x.1 x.2)) L x0 x1 x2 x3 a x5 x6 x7 x8 x9 y0 y1 y2 y3 b y5 y6 y7 y8 y9 n x0 x1 x2 x3 a x5 x6 x7 x8 x9 y0 y1 y2 y3 b y5 y6 y7 y8 y9 (qK eG a b:Nat) (min a.length b.length:Nat) v (some true)) (λn i hi=>?_) (λn=>?_) (by omega)).trans ?_
  ·show B51_0 (λx=>x) (λv0 v1 v2 v3 v4 v5 v6 v7 v8 v9 u0 u1 u2 u3 u4 u5 u6 u7 u8 u9 c m v=>xI fJ iN (λx=>some (lC x.1 x.2)) L x0 x1 x2 x3 a x5 x6 x7 x8 x9 y0 y1 y2 y3 b y5 y6 y7 y8 y9 n v0 v1 v2 v3 v4 v5 v6 v7 v8 v9 u0 u1 u2 u3 u4 u5 u6 u7 u8 u9 c m v (some true)) (some true) fJ iN (λx=>some (lC x.1 x.2)) x0 x1 x2 x3 a x5 x6 x7 x8 x9 y0 y1 y2 y3 b y5 y6 y7 y8 y9 x0 x1 x2 x3 a x5 x6 x7 x8 x9 y0 y1 y2 y3 b y5 y6 y7 y8 y9 (qK eG a b:Nat) (min a.length b.length:Nat) (i:Int)=_;unfold B51_0;dsimp only[eF];rw[dt (c:=(i:Int) < ((min a.length b.length:Nat):Int)) (by omega),cond_true];by_cases hci:qK eG a b<=i
   ·simp(disch:=omega) only[dt,wi,cond_true,bK,aY,aR,dW];show(bif lC (a.getD i gB) (b.getD i gB)then _ else _)=_;cases lC (a.getD i gB) (b.getD i gB)<;>rfl
   ·rw[df (c:=(i:Int)>=((qK eG a b:Nat):Int)) (by omega),df hci,cond_false,wi (by omega) (by omega)]
    rfl
  ·show B51_0 (λx=>x) (λv0 v1 v2 v3 v4 v5 v6 v7 v8 v9 u0 u1 u2 u3 u4 u5 u6 u7 u8 u9 c m v=>xI fJ iN (λx=>some (lC x.1 x.2)) L x0 x1 x2 x3 a x5 x6 x7 x8 x9 y0 y1 y2 y3 b y5 y6 y7 y8 y9 n v0 v1 v2 v3 v4 v5 v6 v7 v8 v9 u0 u1 u2 u3 u4 u5 u6 u7 u8 u9 c m v (some true)) (some true) fJ iN (λx=>some (lC x.1 x.2)) x0 x1 x2 x3 a x5 x6 x7 x8 x9 y0 y1 y2 y3 b y5 y6 y7 y8 y9 x0 x1 x2 x3 a x5 x6 x7 x8 x9 y0 y1 y2 y3 b y5 y6 y7 y8 y9 (qK eG a b:Nat) (min a.length b.length:Nat) ((min a.length b.length:Nat):Int)=_;unfold B51_0;rw[df (c:=((min a.length b.length:Nat):Int) < ((min a.length b.length:Nat):Int)) (by omega),cond_false]
  ·rw[aJP hm];exact iA
 ·cases h
def prN (x y:Nd):Bool:=prt (iI x) (iI y)
def m50 (x:List Nd×Unit):Option Bool:=if x.1.length<=jL/\∀ y∈x.1,mM y jL then some (prs dN prN x.1)else none
theorem aPQ (L:Nat)(a:List Nd)(u:Unit)(i:Nat)(K:Option Bool)(ha:a.length<=1000000000)(hn:∀ y∈a,mM y jL)(hi:i < a.length){n:Nat}(hL:i < n):qB gO L a u (i:Int) n 0 K=bif jW (λk=>prN (a.getD k dN) (a.getD i dN)) i 0 then K else some false:=
 gI (l:=λn v=>qB gO L a u (i:Int) n v K) (λn k hk=>by
  show B50_2 (λx=>x) (λv=>qB gO L a u (i:Int) n v K) K gO a u (i:Int) (k:Int)=_;unfold B50_2;simp(disch:=omega) only[eF,dt,wi,cond_true,bK,aY];show cM (gO (a.getD k dN,a.getD i dN)) false (λq=>bif !q then some false else qB gO L a u (i:Int) n ((k:Int)+1) K)=_;rw[show gO (a.getD k dN,a.getD i dN)=some (prN (a.getD k dN) (a.getD i dN)) from if_pos ⟨(hn _ (iC dN (show k < a.length by omega))).1,(hn _ (iC dN hi)).1⟩,aR];cases prN (a.getD k dN) (a.getD i dN)<;>rfl) (λn=>by
  show B50_2 (λx=>x) (λv=>qB gO L a u (i:Int) n v K) K gO a u (i:Int) (i:Int)=_;unfold B50_2;rw[df (by omega),cond_false]) hL
theorem aR1:Sat prog cxT 50 (c50 m50):=s50 gO aR0 m50 λx t h=>by
 obtain⟨a,u⟩:=x;unfold m50 at h;split at h
 ·rename_i hc;cases h;obtain⟨ha,hn⟩:a.length<=1000000000/\∀ y∈a,mM y jL:=hc;refine⟨a.length+1,?_⟩;show g50 gO (a.length+1) a u=some (prs dN prN a);unfold g50 G50 A50_0;refine(gI (N:=a.length) (p:=λi=>jW (λk=>prN (a.getD k dN) (a.getD i dN)) i 0) (F:=some false) (K:=some true) (l:=λn v=>qC gO (a.length+1) a u n v (some true)) (λn i hi=>?_) (λn=>?_) (Nat.lt_succ_self _)).trans iA
  ·show B50_0 (λx=>x) (λv=>qC gO (a.length+1) a u n v (some true)) (some true) (λv=>qB gO (a.length+1) a u (i:Int) (a.length+1) v (qC gO (a.length+1) a u n (wrap .i64 ((i:Int)+1)) (some true))) gO a u (i:Int)=_;unfold B50_0;rw[dt (by omega),cond_true,wi (by omega) (by omega)];exact aPQ _ a u i _ ha hn hi (by omega)
  ·show B50_0 (λx=>x) (λv=>qC gO (a.length+1) a u n v (some true)) (some true) (λv=>qB gO (a.length+1) a u (a.length:Int) (a.length+1) v (qC gO (a.length+1) a u n (wrap .i64 ((a.length:Int)+1)) (some true))) gO a u (a.length:Int)=_;unfold B50_0;rw[df (by omega),cond_false]
 ·cases h
theorem uS {c:Cl}(h:cOk c):c.1.length<=1000000000/\(∀ y∈c.1,mM y jL)/\c.2.2.1.length<=1000000000/\c.2.2.2.length<=1000000000:=by
 obtain⟨b1,b2,b3,b4,b5,b6⟩:=mC (a:=c.1) (b:=c.2.1) (c:=c.2.2.1) (d:=c.2.2.2) h;exact⟨by omega,aCL (by unfold jL;omega),by omega,by omega⟩
def nS (c:Cl):Option Bool:=if cOk c then some (prs dN prN c.1)else none
theorem aPR (L:Nat)(a:Cl)(i:Nat)(K:Option Bool)(ha:a.1.length<=1000000000)(hn:∀ y∈a.1,mM y jL)(hi:i < a.1.length){n:Nat}(hL:i < n):qD gN L a (i:Int) n 0 K=bif jW (λk=>prN (a.1.getD k dN) (a.1.getD i dN)) i 0 then K else some false:=
 gI (l:=λn v=>qD gN L a (i:Int) n v K) (λn k hk=>by
  show B49_2 (λx=>x) (λv=>qD gN L a (i:Int) n v K) K gN a (i:Int) (k:Int)=_;unfold B49_2;dsimp only[eF,List.getD_cons_zero];simp(disch:=omega) only[dt,wi,cond_true,bK,aY];show cM (gN (iI (a.1.getD i dN),iI (a.1.getD k dN))) false (λq=>bif !q then some false else qD gN L a (i:Int) n ((k:Int)+1) K)=_;rw[show gN (iI (a.1.getD i dN),iI (a.1.getD k dN))=some (prt (iI (a.1.getD i dN)) (iI (a.1.getD k dN))) from if_pos ⟨(hn _ (iC dN hi)).1,(hn _ (iC dN (show k < a.1.length by omega))).1⟩,aR,aIa];show(bif !prN (a.1.getD k dN) (a.1.getD i dN)then _ else _)=_;cases prN (a.1.getD k dN) (a.1.getD i dN)<;>rfl) (λn=>by
  show B49_2 (λx=>x) (λv=>qD gN L a (i:Int) n v K) K gN a (i:Int) (i:Int)=_;unfold B49_2;rw[df (by omega),cond_false]) hL
theorem aLq:Sat prog cxT 49 (c49 nS):=s49 gN aRH nS λx t h=>by
 unfold nS at h;split at h
 ·rename_i hc;cases h;obtain⟨ha,hn,_,_⟩:=uS hc;refine⟨x.1.length+1,?_⟩;show g49 gN (x.1.length+1) x=some (prs dN prN x.1);unfold g49 G49 A49_0;refine(gI (N:=x.1.length) (p:=λi=>jW (λk=>prN (x.1.getD k dN) (x.1.getD i dN)) i 0) (F:=some false) (K:=some true) (l:=λn v=>qE gN (x.1.length+1) x n v (some true)) (λn i hi=>?_) (λn=>?_) (Nat.lt_succ_self _)).trans iA
  ·show B49_0 (λx=>x) (λv=>qE gN (x.1.length+1) x n v (some true)) (some true) (λv=>qD gN (x.1.length+1) x (i:Int) (x.1.length+1) v (qE gN (x.1.length+1) x n (wrap .i64 ((i:Int)+1)) (some true))) gN x (i:Int)=_;unfold B49_0;dsimp only[List.getD_cons_zero];rw[dt (by omega),cond_true,wi (by omega) (by omega)];exact aPR _ x i _ ha hn hi (by omega)
  ·show B49_0 (λx=>x) (λv=>qE gN (x.1.length+1) x n v (some true)) (some true) (λv=>qD gN (x.1.length+1) x (x.1.length:Int) (x.1.length+1) v (qE gN (x.1.length+1) x n (wrap .i64 ((x.1.length:Int)+1)) (some true))) gN x (x.1.length:Int)=_;unfold B49_0;dsimp only[List.getD_cons_zero];rw[df (by omega),cond_false]
 ·cases h
end Go.Proofs.Tryz
