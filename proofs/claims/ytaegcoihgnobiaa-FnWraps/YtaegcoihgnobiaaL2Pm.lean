/- A part of the proof of FnWraps: L2Pm, L2Qw. -/
import Derived.Test.YtaegcoihgnobiaaL2Fv
import Derived.Test.YtaegcoihgnobiaaL2Ft
set_option linter.unusedSimpArgs false
set_option linter.unusedVariables false
set_option maxHeartbeats 0
namespace Go.Proofs.Try
open Go.IntKind (wrap)
open Go Go.VM Go.RowKit
abbrev Src:=List Int×Int
def okZ (s:Src)(b:Int):Prop:=gE s.1=true/\s.1.length<=1048576/\0<=s.2/\s.2<=b
instance (s:Src)(b:Int):Decidable (okZ s b):=by unfold okZ;infer_instance
theorem okZ.up {s:Src}{b c:Int}(h:okZ s b)(hc:b<=c):okZ s c:=⟨h.1,h.2.1,h.2.2.1,Int.le_trans h.2.2.2 hc⟩
theorem okZ.add {s:Src}{b:Int}(h:okZ s b){k:Int}(hk:0<=k):okZ (s.1,s.2+k) (b+k):=by
 obtain⟨h1,h2,h3,h4⟩:=h;exact⟨h1,h2,by simp only;omega,by simp only;omega⟩
def xH (c:List Int):Option (List Int×Int):=some (c,0)
theorem aGn:SatN prog bH 41 (c41 xH).F:=s41 xH λx t h=>by
 cases h;exact⟨0,rfl⟩
def dF (x:Src×Int):Option (Int×List Int×Int):=if okZ x.1 1000000000 then g56 0 x.1.1 x.1.2 x.2 else none
theorem uX:SatP prog bH 56 (xK dF).nres (xK dF).F:=s56 dF λx t h=>by
 unfold dF at h;split at h
 ·exact⟨0,h⟩
 ·cases h
theorem kY (a:Int){n:Int}(ha:0<=a)(hn:1<=n):0<=a.tmod n/\a.tmod n < n:=by
 rw[Int.tmod_eq_emod_of_nonneg ha];exact⟨Int.emod_nonneg a (by omega),Int.emod_lt_of_pos a (by omega)⟩
theorem nx {s:Src}{b:Int}(h:okZ s b)(hb:b<=1000000000)(n:Int):∃ v,dF (s,n)=some (v,s.1,s.2+1)/\(n < 1->v=0)/\(1<=n->0<=v/\v < n):=by
 have hs:=h.up hb;obtain⟨h1,h2,h3,h4⟩:=hs;obtain⟨c,at'⟩:=s;simp only at h1 h2 h3 h4;have e0:dF ((c,at'),n)=g56 0 c at' n:=if_pos ⟨h1,h2,h3,h4⟩;rw[e0];unfold g56;have w1:wrap .i64 (at'+1)=at'+1:=wi (by omega) (by omega);have w2:wrap .i64 (at'+1-1)=at':=by rw[Int.add_sub_cancel];exact wi (by omega) (by omega)
 by_cases hn:n < 1
 ·rw[dt hn,cond_true,w1];exact⟨0,rfl,λ_=>rfl,λh=>by omega⟩
 ·rw[df hn,cond_false];have hn0:(n == 0)=false:=by simp;omega
  by_cases hl:c.length=0
  ·have e1:((Nat.cast c.length:Int) == 0)=true:=by simp[hl]
   simp only[e1,hn0,cond_true,cond_false,w1,w2];refine⟨_,rfl,λh=>by omega,λh=>kY _ ?_ h⟩;rw[wi (by omega) (by omega)];omega
  ·have e1:((Nat.cast c.length:Int) == 0)=false:=by simp;intro h;simp[h]at hl
   have hk:(1:Int)<=(c.length:Int):=by omega
   have r1:=kY at' h3 hk;have r2:=kY (at'+1) (by omega) hk;have hq:0<=at'.tdiv (c.length:Int)/\at'.tdiv (c.length:Int)<=at':=by
    rw[Int.tdiv_eq_ediv_of_nonneg h3];exact⟨Int.ediv_nonneg h3 (by omega),Int.ediv_le_self _ h3⟩
   have wq:wrap .i64 (at'.tdiv (c.length:Int))=at'.tdiv (c.length:Int):=wi (by omega) (by omega);have g1:=jU h1 (i:=(at'.tmod (c.length:Int)).toNat) (by omega);have g2:=jU h1 (i:=((at'+1).tmod (c.length:Int)).toNat) (by omega);have w3:wrap .i64 (at'+1)=at'+1:=w1;simp only[e1,hn0,cond_false,w1,w2,dt r1.1,dt r1.2,dt r2.1,dt r2.2,dY,cond_true,wq]
   generalize c.getD (at'.tmod (c.length:Int)).toNat 0=x at g1 ⊢
   generalize c.getD ((at'+1).tmod (c.length:Int)).toNat 0=y at g2 ⊢
   generalize at'.tdiv (c.length:Int)=q at hq ⊢
   by_cases hb2:n > 200
   ·rw[dt hb2,cond_true];refine⟨_,rfl,λh=>by omega,λh=>kY _ ?_ h⟩;simp(disch:=omega) only[wi];omega
   ·rw[df hb2,cond_false];refine⟨_,rfl,λh=>by omega,λh=>kY _ ?_ h⟩;simp(disch:=omega) only[wi];omega
def eE (x:Src×List Int):Option (Int×List Int×Int):=if okZ x.1 1000000000/\1<=x.2.length/\x.2.length<=1000 then g57 dF 0 x.1.1 x.1.2 x.2 else none
theorem aAR:SatP prog bH 57 (c57 eE).nres (c57 eE).F:=s57 dF uX eE λx t h=>by
 unfold eE at h;split at h
 ·exact⟨0,h⟩
 ·cases h
theorem pick {s:Src}{b:Int}(h:okZ s b)(hb:b<=1000000000)(l:List Int)(h1:1<=l.length)(h2:l.length<=1000):∃ v∈l,eE (s,l)=some (v,s.1,s.2+1):=by
 obtain⟨v,e,_,hv⟩:=nx h hb (l.length:Int);have hv:=hv (by omega);have e0:eE (s,l)=g57 dF 0 s.1 s.2 l:=if_pos ⟨h.up hb,h1,h2⟩;refine⟨l.getD v.toNat 0,?_,?_⟩
 ·have:v.toNat < l.length:=by omega
  simp only[List.getD,aC this,fK];exact eI this
 ·rw[e0];unfold g57;rw[e,bA,dt hv.1,dt hv.2]
  rfl
theorem okZ.at{s:Src}{b:Int}(h:okZ s b){at2:Int}(h1:s.2<=at2){c:Int}(h2:at2<=c):okZ (s.1,at2) c:=⟨h.1,h.2.1,by have:=h.2.2.1;simp only;omega,h2⟩
def okC (c:List Int):Prop:=gE c=true/\c.length<=1048576
instance (c:List Int):Decidable (okC c):=by unfold okC;infer_instance
theorem okC.src {c:List Int}(h:okC c):okZ (c,0) 0:=⟨h.1,h.2,Int.le_refl _,Int.le_refl _⟩
def yT (c:List Int):Option Bool:=some (decide ((c.length:Int) > 1048576))
theorem aJa:Sat prog bH 10 (c10 yT):=s10 yT λx t h=>by
 cases h;exact⟨0,rfl⟩
end Go.Proofs.Try
set_option maxHeartbeats 0
namespace Go.Proofs.Try
open Go.IntKind (wrap)
open Go Go.VM Go.RowKit
theorem aEv (v:Int):gE [wrap .u8 v]=true:=by
 rw[wbm];exact kA.2 ⟨⟨by omega,by omega⟩,rfl⟩
def pI (x:Src×Int):Option (Bool×List Int×Int):=if okZ x.1 1000000000 then g55 dF 0 x.1.1 x.1.2 x.2 else none
theorem aGg:SatP prog bH 55 (c55 pI).nres (c55 pI).F:=s55 dF uX pI λx t h=>by
 unfold pI at h;split at h
 ·exact⟨0,h⟩
 ·cases h
theorem chance {s:Src}{b:Int}(h:okZ s b)(hb:b<=1000000000)(n:Int):∃ v,pI (s,n)=some (v,s.1,s.2+1):=by
 obtain⟨v,e,_⟩:=nx h hb n;have e0:pI (s,n)=g55 dF 0 s.1 s.2 n:=if_pos (h.up hb);refine⟨v == 0,?_⟩;rw[e0];unfold g55;rw[e,bA]
def iT (s:Src):Option (Int×List Int×Int):=if okZ s 900000000 then g44 dF eE 0 s.1 s.2 else none
theorem aCy:SatP prog bH 44 (c44 iT).nres (c44 iT).F:=s44 dF eE uX aAR iT λx t h=>by
 unfold iT at h;split at h
 ·exact⟨0,h⟩
 ·cases h
theorem oS {s:Src}{b:Int}(h:okZ s b)(hb:b<=900000000):∃ v,iT s=some (v,s.1,s.2+3):=by
 have e0:iT s=g44 dF eE 0 s.1 s.2:=if_pos (h.up hb);obtain⟨v1,e1,_⟩:=nx h (by omega) 6;have s1:=h.add (k:=1) (by omega);obtain⟨v2,e2,_⟩:=nx s1 (by omega) 6;have s2:=s1.add (k:=1) (by omega);simp only at e1 e2 s1 s2;rw[e0];unfold g44;rw[e1,bA];simp only;rw[e2,bA];simp only;obtain⟨v3,m3,e3⟩:=pick s2 (by omega) [wrap .i64 (167772160+v1),wrap .i64 (167772160+v2),5,0,4294967295] (by simp) (by simp);simp only at e3;rw[e3,bA];exact⟨_,by simp only[rO];rfl⟩
def sV (x:Src×Int):Option (List Int×List Int×Int):=if okZ x.1 900000000/\0<=x.2/\x.2<=100 then g81 dF eE 200 x.1.1 x.1.2 x.2 else none
theorem aIU:SatP prog bH 81 (c81 sV).nres (c81 sV).F:=s81 dF eE uX aAR sV λx t h=>by
 unfold sV at h;split at h
 ·exact⟨200,h⟩
 ·cases h
theorem aEz (L:Nat)(c:List Int)(a0 a1:Int)(k:List Int->Int->List Int->Option (List Int×List Int×Int)):∀ (f:Nat) (at' j:Int) (o:List Int),okZ (c,at') (900000300-3 * j)->0<=j->j<=100->j < f->gE o=true->(o.length:Int)+j<=1000->
  ∃ at2 o2,sZ dF eE L c a0 a1 f c at' j o k=k c at2 o2/\gE o2=true/\(o2.length:Int)=o.length+j/\at'<=at2/\at2<=at'+3 * j
 | 0,at',j,o,hs,h0,h8,hf,ho,hl=>by omega
 | f+1,at',j,o,hs,h0,h8,hf,ho,hl=>by
  by_cases hz:j > 0
  ·obtain⟨v1,e1,_,r1⟩:=nx hs (by omega) 256;have s1:=hs.add (k:=1) (by omega);obtain⟨v2,e2,_,r2⟩:=nx s1 (by omega) 256;have s2:=s1.add (k:=1) (by omega);simp only at e1 e2 s1 s2;obtain⟨v3,m3,e3⟩:=pick s2 (by omega) [v1,v2,0,255] (by simp) (by simp);have s3:=s2.add (k:=1) (by omega);simp only at e3 s3;obtain⟨at2,o2,q1,q2,q3,q4,q5⟩:=aEz L c a0 a1 k f (at'+1+1+1) (j-1) (o++[wrap .u8 v3]) (s3.up (by omega)) (by omega) (by omega) (by omega)
    (fO ho (aEv v3)) (by simp;omega)
   refine⟨at2,o2,?_,q2,by simp at q3;omega,by omega,by omega⟩;rw[sZ,dt hz,cond_true,e1,bA];simp only;rw[e2,bA];simp only;rw[e3,bA];simp only[wi (show(-9223372036854775808:Int)<=j-1 by omega) (by omega)];rw[dt (by simp;omega),cond_true];exact q1
  ·refine⟨at',o,?_,ho,by omega,by omega,by omega⟩;rw[sZ,df hz,cond_false]
theorem aHV {s:Src}{b:Int}(h:okZ s b)(hb:b<=900000000){n:Int}(h0:0<=n)(h1:n<=100):∃ at2 o,sV (s,n)=some (o,s.1,at2)/\gE o=true/\(o.length:Int)=n/\s.2<=at2/\at2<=s.2+3 * n:=by
 have e0:sV (s,n)=g81 dF eE 200 s.1 s.2 n:=if_pos ⟨h.up hb,h0,h1⟩;obtain⟨at2,o2,q1,q2,q3,q4,q5⟩:=aEz 200 s.1 s.2 n (λw0 w1 w2=>some (w2,w0,w1)) 200 s.2 n [] (h.up (by omega)) h0 h1 (by omega) rfl (by simp;omega);refine⟨at2,o2,?_,q2,by simpa using q3,q4,q5⟩;rw[e0];exact q1
def m72 (s:Src):Option (Int×Int×Int×Int×Int×List Int×List Int×Int):=if okZ s 800000000 then g72 iT eE dF sV 0 s.1 s.2 else none
theorem aIY:SatP prog bH 72 (c72 m72).nres (c72 m72).F:=s72 iT eE dF sV aCy aAR uX aIU m72 λx t h=>by
 unfold m72 at h;split at h
 ·exact⟨0,h⟩
 ·cases h
theorem aHW {s:Src}{b:Int}(h:okZ s b)(hb:b<=800000000):∃ f t p fp tp o at2,m72 s=some (f,t,p,fp,tp,o,s.1,at2)/\gE o=true/\o.length<=8/\s.2<=at2/\at2<=s.2+100:=by
 have e0:m72 s=g72 iT eE dF sV 0 s.1 s.2:=if_pos (h.up hb);obtain⟨v1,e1⟩:=oS h (by omega);have s1:=h.add (k:=3) (by omega);obtain⟨v2,e2⟩:=oS s1 (by omega);have s2:=s1.add (k:=3) (by omega);obtain⟨v3,_,e3⟩:=pick s2 (by omega) [6,17] (by simp) (by simp);have s3:=s2.add (k:=1) (by omega);obtain⟨v4,e4,_⟩:=nx s3 (by omega) 30;have s4:=s3.add (k:=1) (by omega);obtain⟨v5,e5,_⟩:=nx s4 (by omega) 65536;have s5:=s4.add (k:=1) (by omega);obtain⟨v6,_,e6⟩:=pick s5 (by omega) [80,443,v5] (by simp) (by simp);have s6:=s5.add (k:=1) (by omega);obtain⟨v7,e7,_,r7⟩:=nx s6 (by omega) 9;have s7:=s6.add (k:=1) (by omega);have r7:=r7 (by omega);obtain⟨at2,o,e8,q1,q2,q3,q4⟩:=aHV s7 (by omega) (n:=v7) (by omega) (by omega);simp only at e1 e2 e3 e4 e5 e6 e7 e8 q3 q4;refine⟨v1,v2,v3,wrap .i64 (1000+v4),v6,o,at2,?_,q1,by omega,by omega,by omega⟩;rw[e0];unfold g72;rw[e1,bA];simp only;rw[e2,bA];simp only;rw[e3,bA];simp only;rw[e4,bA];simp only;rw[e5,bA];simp only;rw[e6,bA];simp only;rw[e7,bA];simp only;rw[e8,bA]
end Go.Proofs.Try
