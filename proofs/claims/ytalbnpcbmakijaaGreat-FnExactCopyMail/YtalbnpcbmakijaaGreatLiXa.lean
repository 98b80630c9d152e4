/- A part of the proof of FnExactCopyMail: LiXa, LiXb, LiXc, LiXd. -/
import Derived.Test.YtalbnpcbmakijaaGreatLiWa
import Derived.Test.YtalbnpcbmakijaaGreatLiFn
import Derived.Test.YtalbnpcbmakijaaGreatLiSi
set_option linter.unusedSimpArgs false
set_option linter.unusedVariables false
set_option maxHeartbeats 0
namespace Go.Proofs.Tryz
open Go.IntKind (wrap)
open Go Go.VM Go.RowKit
def eY (x:List E9):Option (List E9):=if x.length<=2000000 then some x else none
theorem aI9:Sat prog cxT 116 (aIE eY):=bCe eY λx t h=>by
 unfold eY at h;split at h
 ·rename_i hc;cases h;refine⟨0,?_⟩;unfold aQe aMi G116;rw[dt (by simp;omega)]
  rfl
 ·cases h
def aJo (y:N10):Prop:=y.2.2.2.2.1.length<=2000000/\y.2.2.2.2.2.2.2.1.length<=2000000/\y.2.2.2.2.2.2.2.2.1.length<=2000000/\y.2.2.2.2.2.2.2.2.2.length<=2000000
instance (y:N10):Decidable (aJo y):=by unfold aJo;infer_instance
def gR (y:N10):Option N10:=if aJo y then some y else none
theorem aRc:Sat prog cxT 115 (aMV gR):=bCf eY aI9 gR λx t h=>by
 unfold gR at h;split at h
 ·rename_i hc;cases h;obtain⟨h1,h2,h3,h4⟩:=hc;refine⟨0,?_⟩;unfold aQf aMj G115;rw[show eY x.2.2.2.2.1=some x.2.2.2.2.1 from if_pos h1,aO,dt (by simp;omega),dt (by simp;omega),dt (by simp;omega)]
  rfl
 ·cases h
theorem aJP (a:List M9)(hl:a.length<=2000000)(hy:∀ y∈a,y.2.2.2.2.2.2.2.2.length<=2000000)(L:Nat)(k:List M9->Option (List M9)):∀ (n j:Nat),j<=a.length->a.length-j < n->yY eY L a n (a.take j) (j:Int) k=k a
 | 0,j,_,h=>absurd h (by omega)
 | n+1,j,hj,h=>by
  unfold yY B67_0;by_cases hlt:j < a.length
  ·have e1:List.getD a (Int.toNat (j:Int)) (0,(0,(0,(0,(0,(0,(0,(false,[]))))))))=a[j]:=by simp[hlt]
   rw[dt (show(j:Int) < (Nat.cast a.length:Int)by omega),cond_true];simp only[dY,e1];rw[dt (show(0:Int)<=(j:Int)by omega),show eY a[j].2.2.2.2.2.2.2.2=some a[j].2.2.2.2.2.2.2.2 from if_pos (hy _ (eB hlt))];simp only[eX,cond_true,aO];rw[dt (by simp;omega),cond_true,wi (by omega) (by omega)];have e2:a.take j++[a[j]]=a.take (j+1):=by rw[jT,aC hlt];rfl
   show yY eY L a n (a.take j++[a[j]]) ((j:Int)+1) k=k a;rw[e2];exact aJP a hl hy L k n (j+1) (by omega) (by omega)
  ·have:j=a.length:=by omega
   subst this;rw[df (show ¬ ((Nat.cast a.length:Int) < (Nat.cast a.length:Int))by omega),cond_false,mJ]
def jN (a:List M9):Option (List M9):=if a.length<=2000000/\∀ y∈a,y.2.2.2.2.2.2.2.2.length<=2000000 then some a else none
theorem aNg:Sat prog cxT 67 (c67 jN):=s67 eY aI9 jN λa t h=>by
 unfold jN at h;split at h
 ·rename_i hc;cases h;refine⟨a.length+1,?_⟩;exact aJP a hc.1 hc.2 _ _ (a.length+1) 0 (dZ _) (by omega)
 ·cases h
theorem aJQ (a:List N10)(b:List M9)(c:List W2)(d:List S10)(x0:List N10)(x1:List M9)(x2:List W2)(x3:List S10)(o1:List M9)(o2:List W2)(o3:List S10)(hl:a.length<=2000000)(hy:∀ y∈a,aJo y)(L:Nat)
  (k:List N10->List M9->List W2->List S10->List N10->List M9->List W2->List S10->Option C4):∀ (n j:Nat),j<=a.length->a.length-j < n->yZ jN gR L a b c d n a b c d x0 x1 x2 x3 (a.take j) o1 o2 o3 (j:Int) k=k x0 x1 x2 x3 a o1 o2 o3
 | 0,j,_,h=>absurd h (by omega)
 | n+1,j,hj,h=>by
  unfold yZ B66_0;by_cases hlt:j < a.length
  ·have e1:List.getD a (Int.toNat (j:Int)) (0,(0,(0,(0,(([]:List E9),(0,(0,(([]:List (Int)),(([]:List (Int)),([]:List (Int)))))))))))=a[j]:=by simp[hlt]
   rw[dt (show(j:Int) < (Nat.cast a.length:Int)by omega),cond_true];simp only[dY,e1];rw[dt (show(0:Int)<=(j:Int)by omega),show gR (a[j].1,(a[j].2.1,(a[j].2.2.1,(a[j].2.2.2.1,(a[j].2.2.2.2.1,(a[j].2.2.2.2.2.1,(a[j].2.2.2.2.2.2.1,(a[j].2.2.2.2.2.2.2.1,(a[j].2.2.2.2.2.2.2.2.1,a[j].2.2.2.2.2.2.2.2.2)))))))))=some a[j] from if_pos (hy _ (eB hlt))];simp only[eX,cond_true,aO];rw[dt (by simp;omega),cond_true,wi (by omega) (by omega)];have e2:a.take j++[a[j]]=a.take (j+1):=by rw[jT,aC hlt];rfl
   show yZ jN gR L a b c d n a b c d x0 x1 x2 x3 (a.take j++[a[j]]) o1 o2 o3 ((j:Int)+1) k=_;rw[e2];exact aJQ a b c d x0 x1 x2 x3 o1 o2 o3 hl hy L k n (j+1) (by omega) (by omega)
  ·have:j=a.length:=by omega
   subst this;rw[df (show ¬ ((Nat.cast a.length:Int) < (Nat.cast a.length:Int))by omega),cond_false,mJ]
def aGd (x:C4):Prop:=(x.1.length<=2000000/\∀ y∈x.1,aJo y)/\(x.2.1.length<=2000000/\∀ y∈x.2.1,y.2.2.2.2.2.2.2.2.length<=2000000)/\x.2.2.1.length<=2000000/\x.2.2.2.length<=2000000
instance (x:C4):Decidable (aGd x):=by unfold aGd;infer_instance
def zZ (x:C4):Option C4:=if aGd x then some x else none
theorem aT8:Sat prog cxT 66 (c66 zZ):=s66 jN gR aNg aRc zZ λx t h=>by
 obtain⟨a,b,c,d⟩:=x;unfold zZ at h;split at h
 ·rename_i hc;cases h;obtain⟨⟨h1,h2⟩,h3,h4,h5⟩:=hc;replace h1:a.length<=2000000:=h1;replace h4:c.length<=2000000:=h4;replace h5:d.length<=2000000:=h5;refine⟨a.length+1,?_⟩;show g66 jN gR (a.length+1) a b c d=_;unfold g66 G66;rw[show jN b=some b from if_pos h3,aO,dt (by simp;omega),dt (by simp;omega)];simp only[cond_true,sU];exact aJQ a b c d [] [] [] [] b c d h1 h2 _ _ (a.length+1) 0 (dZ _) (by omega)
 ·cases h
end Go.Proofs.Tryz
set_option maxHeartbeats 0
namespace Go.Proofs.Tryz
open Go.IntKind (wrap)
open Go Go.VM Go.RowKit
def zR (q:Int):Cr:=(q,[],[],[],[])
def m55 (q:Int):Option Cr:=some (zR q)
theorem aUf:Sat prog cxT 55 (c55 m55):=s55 m55 λx t h=>⟨0,h⟩
def atF (c:Cl)(n i:Int):Int:=if clF c=0 then(if 0<=i/\i<=n-1 then 0 else 3)else clF c
def m54 (x:Cl×Int):Option Int:=if cOk x.1 then some (atF x.1 x.1.2.1.length x.2)else none
theorem aUg:Sat prog cxT 54 (c54 m54):=s54 vX bM aUs nN m54 λx t h=>by
 obtain⟨c,i⟩:=x;unfold m54 at h;split at h
 ·rename_i hc;cases h;obtain⟨a,b,w,d⟩:=c;obtain⟨h1,h2,h3,h4,h5,h6⟩:=kE hc;refine⟨0,?_⟩;show dB (vX (a,b,w,d)) 0 (λq1=>bif q1 != 0 then some q1 else dB (bM (i,0,wrap .i64 ((b.length:Int)-1))) false λq2=>bif !q2 then some 3 else some 0)=_;rw[show vX (a,b,w,d)=some (clF (a,b,w,d)) from if_pos hc,aO,wi (by omega) (by omega)];unfold atF;by_cases h0:clF (a,b,w,d)=0
  ·rw[if_pos h0,h0,show bM (i,0,(b.length:Int)-1)=some (decide (0<=i/\i<=(b.length:Int)-1)) from rfl];simp only[aO];by_cases hi:0<=i/\i<=(b.length:Int)-1
   ·rw[if_pos hi,dt hi];rfl
   ·rw[if_neg hi,df hi];rfl
  ·rw[if_neg h0,show(clF (a,b,w,d) != 0)=true by simpa using h0];rfl
 ·cases h
def m57 (x:Cl×Int×Int):Option Int:=if cOk x.1/\0<=x.2.2/\x.2.2<=1000000000 then some (atF x.1 x.2.2 x.2.1)else none
theorem aUe:Sat prog cxT 57 (c57 m57):=s57 vX fY aUD aIY m57 λx t h=>by
 obtain⟨⟨a,b,w,d⟩,i,n⟩:=x;unfold m57 at h;split at h
 ·rename_i hc;obtain⟨hc,k1,k2⟩:=hc;cases h;refine⟨0,?_⟩;show dB (vX (a,b,w,d)) 0 (λq1=>bif q1 != 0 then some q1 else dB (fY (i,n)) false λq2=>bif !q2 then some 3 else some 0)=_;rw[show vX (a,b,w,d)=some (clF (a,b,w,d)) from if_pos hc,aO];unfold atF;by_cases h0:clF (a,b,w,d)=0
  ·rw[if_pos h0,h0,show fY (i,n)=some (decide (0<=i/\i<=n-1)) from if_pos ⟨k1,k2⟩];simp only[aO];by_cases hi:0<=i/\i<=n-1
   ·rw[if_pos hi,dt hi];rfl
   ·rw[if_neg hi,df hi];rfl
  ·rw[if_neg h0,show(clF (a,b,w,d) != 0)=true by simpa using h0];rfl
 ·cases h
def xL (x:Cl×List Ml):Option (Bool×Cl):=if x.1.2.1.length+x.2.length<=1000000000 then some (decide (((x.1.2.1++x.2).length:Int)<=80),x.1.1,x.1.2.1++x.2,x.1.2.2.1,x.1.2.2.2)else none
theorem aT6:SatQ prog cxT 69 (c69 xL).nres (c69 xL).F (c69 xL).bx:=s69 xL λx t h=>by
 obtain⟨⟨a,b,w,d⟩,e⟩:=x;unfold xL at h;split at h
 ·rename_i hc;cases h;refine⟨0,?_⟩;show(bif decide (b.length+e.length<=1000000000)then _ else none)=_;rw[dt hc];rfl
 ·cases h
def pcs (b:List Ml)(i:Int):List Ml:=List.drop i.toNat (List.take (i+1).toNat b)
def cpF (c:Cl)(i:Int):Cr:=if atF c c.2.1.length i=0 then(if(c.2.1.length:Int)>=80 then zR 2 else(0,c.1,c.2.1++pcs c.2.1 i,c.2.2.1,c.2.2.2))else zR (atF c c.2.1.length i)
theorem aLg {c:Cl}{n i:Int}(h:atF c n i=0):0<=i/\i<=n-1:=by
 unfold atF at h;split at h
 ·split at h
  ·assumption
  ·cases h
 ·rename_i h0;exact absurd h h0
def m22 (x:Cl×Int):Option Cr:=if cOk x.1/\aGd x.1 then some (cpF x.1 x.2)else none
theorem aUz:Sat prog cxT 22 (c22 m22):=s22 m54 m55 zZ jN aUg aUf aT8 aNg m22 λx t h=>by
 obtain⟨⟨a,b,w,d⟩,i⟩:=x;unfold m22 at h;split at h
 ·rename_i hc;cases h;obtain⟨hc,hp⟩:=hc;obtain⟨h1,h2,h3,h4,h5,h6⟩:=kE hc;refine⟨0,?_⟩;show dB (m54 ((a,b,w,d),i)) 0 (λq1=>bif q1 != 0 then dB (m55 q1) _ (λq3=>some q3)else bif decide ((b.length:Int)>=80)then dB (m55 2) _ (λq3=>some q3)else
   dB (zZ (a,b,w,d)) _ λq2=>bif ((decide (0<=i))&&(decide (i<=wrap .i64 (i+1))))&&(decide (wrap .i64 (i+1)<=(b.length:Int)))then
    dB (jN (List.drop i.toNat (List.take (wrap .i64 (i+1)).toNat b))) [] λq4=>bif decide (q2.2.1.length+q4.length<=1000000000)then some (0,q2.1,q2.2.1++q4,q2.2.2.1,q2.2.2.2)else none else none)=_
  rw[show m54 ((a,b,w,d),i)=some (atF (a,b,w,d) b.length i) from if_pos hc,aO];show _=some (cpF (a,b,w,d) i);unfold cpF;by_cases h0:atF (a,b,w,d) b.length i=0
  ·rw[if_pos h0,h0];simp only[bne_self_eq_false,cond_false];obtain⟨i0,i1⟩:=aLg h0;by_cases h8:(b.length:Int)>=80
   ·rw[if_pos h8,dt h8];rfl
   ·rw[if_neg h8,df h8,cond_false,show zZ (a,b,w,d)=some (a,b,w,d) from if_pos hp,aO,wi (by omega) (by omega),dt i0,dt (show i<=i+1 by omega),dt (show i+1<=(b.length:Int)by omega)];have hl:(pcs b i).length<=b.length:=by unfold pcs;simp;omega
    have hm:jN (List.drop i.toNat (List.take (i+1).toNat b))=some (pcs b i):=if_pos ⟨by have:=hp.2.1.1;exact eD hl this,λy hy=>hp.2.1.2 y (jX (iM hy))⟩;rw[hm];simp only[bL,cond_true,aO];rw[dt (by omega)];rfl
  ·rw[if_neg h0,show(atF (a,b,w,d) b.length i != 0)=true by simpa using h0];rfl
 ·cases h
end Go.Proofs.Tryz
set_option maxHeartbeats 0
namespace Go.Proofs.Tryz
open Go.IntKind (wrap)
open Go Go.VM Go.RowKit
def zP (x:Cl×Int):Option Cr:=if cOk x.1/\aGd x.1 then some (cpF x.1 x.2)else none
theorem aJK {b:List Ml}(h:b.length<=2000000/\∀ y∈b,y.2.2.2.2.2.2.2.2.length<=2000000):wU b=some b:=if_pos h
theorem aRx {c:Cl}(h:aGd c):m68 c=some c:=if_pos ⟨h.1,by rw[aJK h.2.1];rfl,h.2.2.1,h.2.2.2⟩
theorem aLM {b:List Ml}{i:Int}(h0:0<=i)(h1:i<=(b.length:Int)-1):(pcs b i).length=1:=by
 unfold pcs;simp;omega
theorem aUy:Sat prog cxT 23 (c23 zP):=s23 m57 m68 wU xL aUe aT7 aNf aT6 zP λx t h=>by
 obtain⟨⟨a,b,w,d⟩,i⟩:=x;unfold zP at h;split at h
 ·rename_i hc;cases h;obtain⟨hc,hp⟩:=hc;obtain⟨h1,h2,h3,h4,h5,h6⟩:=kE hc;refine⟨0,?_⟩;show dB (m57 ((a,b,w,d),i,(b.length:Int))) 0 (λq1=>bif q1 != 0 then some (zR q1)else
   dB (m68 (a,b,w,d)) _ λq2=>bif ((decide (0<=i))&&(decide (i<=wrap .i64 (i+1))))&&(decide (wrap .i64 (i+1)<=(b.length:Int)))then
    dB (wU (List.drop i.toNat (List.take (wrap .i64 (i+1)).toNat b))) [] λq4=>dB (xL ((q2.1,(q2.2.1,(q2.2.2.1,q2.2.2.2))),q4)) _ λq5=>bif !q5.1 then some (zR 2)else some (0,q5.2.1,q5.2.2.1,q5.2.2.2.1,q5.2.2.2.2)else none)=_
  have hm57:m57 ((a,b,w,d),i,(b.length:Int))=some (atF (a,b,w,d) b.length i):=if_pos ⟨hc,by simp only;omega,by simp only;omega⟩;rw[hm57,aO];show _=some (cpF (a,b,w,d) i);unfold cpF;by_cases h0:atF (a,b,w,d) b.length i=0
  ·rw[if_pos h0,h0];simp only[bne_self_eq_false,cond_false];obtain⟨i0,i1⟩:=aLg h0;rw[aRx hp,aO,wi (by omega) (by omega),dt i0,dt (show i<=i+1 by omega),dt (show i+1<=(b.length:Int)by omega)];have hl:(pcs b i).length=1:=aLM i0 i1;have hm:wU (List.drop i.toNat (List.take (i+1).toNat b))=some (pcs b i):=aJK ⟨by have:=hp.2.1.1;show(pcs b i).length<=_;omega,λy hy=>hp.2.1.2 y (jX (iM hy))⟩;have hm69:xL ((a,b,w,d),pcs b i)=some (decide (((b++pcs b i).length:Int)<=80),a,b++pcs b i,w,d):=if_pos (by show b.length+(pcs b i).length<=_;omega);rw[hm];simp only[bL,cond_true,aO];rw[hm69];simp only[aO];have hla:((b++pcs b i).length:Int)=(b.length:Int)+1:=by rw[cT,hl];omega
   by_cases h8:(b.length:Int)>=80
   ·rw[if_pos h8,df (show ¬ (((b++pcs b i).length:Int)<=80)by omega)];rfl
   ·rw[if_neg h8,dt (show(((b++pcs b i).length:Int)<=80)by omega)];rfl
  ·rw[if_neg h0,show(atF (a,b,w,d) b.length i != 0)=true by simpa using h0];rfl
 ·cases h
end Go.Proofs.Tryz
set_option maxHeartbeats 0
namespace Go.Proofs.Tryz
open Go.IntKind (wrap)
open Go Go.VM Go.RowKit
theorem aTP {c:Cl}(h:¬ qJ 1048576 (szC c) < 0):aGd c/\wC c<=20000000:=by
 obtain⟨a,b,w,d⟩:=c;have h:¬ qJ 1048576 ((a.length:Int)+bZ wN a+((b.length:Int)+bZ kM b)+w.length+d.length) < 0:=h;have h2:(a.length:Int)+bZ wN a+((b.length:Int)+bZ kM b)+w.length+d.length<=1048576:=by
  unfold qJ at h;split at h<;>omega
 have e1:∀ l:List Nd,bZ wD l<=9 * ((l.length:Int)+bZ wN l):=by
  intro l
  induction l with
  | nil=>exact iJ _
  | cons x r ih=>
   show wD x+bZ wD r<=9 * (((r.length+1:Nat):Int)+(wN x+bZ wN r));have:wD x<=9 * (1+wN x):=by unfold wD wN;omega
   omega
 have e2:∀ l:List Ml,bZ wM l<=9 * ((l.length:Int)+bZ kM l):=by
  intro l
  induction l with
  | nil=>exact iJ _
  | cons x r ih=>
   show wM x+bZ wM r<=9 * (((r.length+1:Nat):Int)+(kM x+bZ kM r));have:wM x<=9 * (1+kM x):=by unfold wM kM;omega
   omega
 have k1:=e1 a;have k2:=e2 b;have k3:=fG (w:=wN) (l:=a) λx _=>aAy x
 have k4:=fG (w:=kM) (l:=b) λx _=>aBm x
 refine⟨⟨⟨by show a.length<=_;omega,λy hy=>?_⟩,⟨by show b.length<=_;omega,λy hy=>?_⟩,by show w.length<=_;omega,by show d.length<=_;omega⟩,?_⟩
 ·have:=lV (w:=wN) (l:=a) (λx _=>aAy x) y hy;have e:wN y=(y.2.2.2.2.1.length:Int)+y.2.2.2.2.2.2.2.1.length+y.2.2.2.2.2.2.2.2.1.length+y.2.2.2.2.2.2.2.2.2.length:=rfl;exact⟨by omega,by omega,by omega,by omega⟩
 ·have:=lV (w:=kM) (l:=b) (λx _=>aBm x) y hy;have e:kM y=(y.2.2.2.2.2.2.2.2.length:Int):=rfl;omega
 ·show bZ wD a+bZ wM b+2 * (w.length:Int)+10 * (d.length:Int)<=20000000;omega
theorem wE {α:Type}(w:α->Int):∀ l r:List α,bZ w (l++r)=bZ w l+bZ w r
 | [],r=>by show _=0+_;rw[Int.zero_add];rfl
 | x::l,r=>by
  show w x+bZ w (l++r)=w x+bZ w l+bZ w r;rw[wE w l r];omega
theorem aHa:cOk ([],[],[],[]):=of_decide_eq_true (show decide (cOk ([],[],[],[]))=true by kernel_rfl)
theorem aSl {c:Cl}{i:Int}(h:wC c<=20000000):cOk (cpF c i).2:=by
 obtain⟨a,b,w,d⟩:=c;unfold cpF;split
 ·rename_i h0;split
  ·exact aHa
  ·obtain⟨i0,i1⟩:=aLg h0;have hn:∀ l:List Ml,0<=bZ wM l:=λl=>fG λx _=>by have:=aAz x;omega
   have e1:bZ wM (pcs b i)<=bZ wM b:=by
    unfold pcs;have q1:=wE wM (List.take (i+1).toNat b) (List.drop (i+1).toNat b);have q2:=wE wM (List.take i.toNat (List.take (i+1).toNat b)) (List.drop i.toNat (List.take (i+1).toNat b));rw[cQ]at q1 q2;have:=hn (List.drop (i+1).toNat b);have:=hn (List.take i.toNat (List.take (i+1).toNat b));omega
   have h:bZ wD a+bZ wM b+2 * (w.length:Int)+10 * (d.length:Int)<=20000000:=h;have h3:=kW aHm a;have:=hn b;show bZ wD a+bZ wM (b++pcs b i)+2 * (w.length:Int)+10 * (d.length:Int)<=900000000;rw[wE];omega
 ·exact aHa
def mL5 (x:Cl×Int):Option Bool:=if aEY x.1 then some true else none
theorem sat5:Sat prog cxT 5 (c5 mL5):=s5 pH oB m22 zP yC kG mH wV yV aUF aUE aUz aUy aUC aNj aNi aUB aUA mL5 λx t h=>by
 obtain⟨c,i⟩:=x;unfold mL5 at h;split at h
 ·rename_i hc;cases h;refine⟨0,?_⟩;have e1:pH (c,1048576)=some (qJ 1048576 (szC c)):=if_pos ⟨rfl,hc⟩;obtain⟨a,b,w,d⟩:=c;show g5 pH oB m22 zP yC kG mH wV yV 0 a b w d i=_;unfold g5 G5;dsimp only;rw[show pH _=some _ from e1,aO];by_cases hz:qJ 1048576 (szC (a,b,w,d)) < 0
  ·rw[dt hz];rfl
  have ho:=aTO hz;obtain⟨hp,hw⟩:=aTP hz;have h0:=aPN (a,b,w,d);rw[df hz,cond_false,show oB (a,b,w,d)=some (a,b,w,d) from if_pos ho];simp only[aO];rw[show m22 ((a,b,w,d),i)=some (cpF (a,b,w,d) i) from if_pos ⟨ho,hp⟩];simp only[aO];rw[show zP ((a,b,w,d),i)=some (cpF (a,b,w,d) i) from if_pos ⟨ho,hp⟩];simp only[aO];obtain⟨f1,f2,f3,f4⟩:=aSk (aSl (i:=i) hw)
  generalize cpF (a,b,w,d) i=r at f1 f2 f3 f4
  rw[show yC _=some true from f1];simp only[aO,cI,cond_false];rw[show kG ((a,b,w,d),(a,b,w,d))=some (decide ((a,b,w,d)=(a,b,w,d))) from if_pos ho,aO,dt rfl];simp only[cI,cond_false];rw[show mH ((a,b,w,d),1)=some (1+wC (a,b,w,d),mkC (a,b,w,d) 1) from if_pos ⟨ho,by simp only;omega,by simp only;omega⟩];simp only[aO];rw[df (show ¬ (1+wC (a,b,w,d) < 0)by omega),cond_false];rw[show wV _=some _ from f2];simp only[aO];rw[show yV _=some _ from f3];simp only[aO];rw[df (show ¬ (1+wC r.2 < 0)by omega),rM rfl]
  rfl
 ·cases h
end Go.Proofs.Tryz
