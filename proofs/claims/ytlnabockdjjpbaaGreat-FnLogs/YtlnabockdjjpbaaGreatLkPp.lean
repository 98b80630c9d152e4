/- A part of the proof of FnLogs: LkPp, LkPg, LkPh. -/
import Derived.Test.YtlnabockdjjpbaaGreatLkPf
import Derived.Test.YtlnabockdjjpbaaGreatLkFe
import Derived.Test.YtlnabockdjjpbaaGreatLkFd
set_option linter.unusedSimpArgs false
set_option linter.unusedVariables false
set_option maxHeartbeats 0
namespace Go.Proofs.Tryz
open Go.IntKind (wrap)
open Go Go.VM Go.RowKit
abbrev Src:=List Int×Int
def okZ (s:Src)(b:Int):Prop:=okB s.1=true/\s.1.length<=1048576/\0<=s.2/\s.2<=b
instance (s:Src)(b:Int):Decidable (okZ s b):=by unfold okZ;infer_instance
theorem okZ.up {s:Src}{b c:Int}(h:okZ s b)(hc:b<=c):okZ s c:=⟨h.1,h.2.1,h.2.2.1,Int.le_trans h.2.2.2 hc⟩
theorem okZ.add {s:Src}{b:Int}(h:okZ s b){k:Int}(hk:0<=k):okZ (s.1,s.2+k) (b+k):=by
 obtain⟨h1,h2,h3,h4⟩:=h;exact⟨h1,h2,by(try simp only);omega,by(try simp only);omega⟩
def tQ (c:List Int):Option (List Int×Int):=some (c,0)
theorem aIn:SatN prog bL 14 (c14 tQ).F:=s14 tQ λx t h=>by
 cases h;exact⟨0,rfl⟩
def bN (x:Src×Int):Option (Int×List Int×Int):=if okZ x.1 1000000000 then g20 0 x.1.1 x.1.2 x.2 else none
theorem qM:SatP prog bL 20 (qD bN).nres (qD bN).F:=s20 bN λx t h=>by
 unfold bN at h;split at h
 ·exact⟨0,h⟩
 ·cases h
theorem kI (a:Int){n:Int}(ha:0<=a)(hn:1<=n):0<=a.tmod n/\a.tmod n < n:=by
 rw[Int.tmod_eq_emod_of_nonneg ha];exact⟨Int.emod_nonneg a (by omega),Int.emod_lt_of_pos a (by omega)⟩
theorem nx {s:Src}{b:Int}(h:okZ s b)(hb:b<=1000000000)(n:Int):∃ v,bN (s,n)=some (v,s.1,s.2+1)/\(n < 1->v=0)/\(1<=n->0<=v/\v < n):=by
 have hs:=h.up hb;obtain⟨h1,h2,h3,h4⟩:=hs;obtain⟨c,at'⟩:=s;simp only at h1 h2 h3 h4;have e0:bN ((c,at'),n)=g20 0 c at' n:=if_pos ⟨h1,h2,h3,h4⟩;rw[e0]
 (try unfold w20);unfold g20 G20;dsimp only[oJ]
 have w1:wrap .i64 (at'+1)=at'+1:=wi (by omega) (by omega);have w2:wrap .i64 (at'+1-1)=at':=by rw[Int.add_sub_cancel];exact wi (by omega) (by omega)
 by_cases hn:n < 1
 ·rw[dt hn,cond_true,w1];exact⟨0,rfl,λ_=>rfl,λh=>by omega⟩
 ·rw[df hn,cond_false];have hn0:(n == 0)=false:=by simp;omega
  by_cases hl:c.length=0
  ·have e1:((Nat.cast c.length:Int) == 0)=true:=by simp[hl]
   simp only[e1,hn0,cond_true,cond_false,w1,w2];refine⟨_,rfl,λh=>by omega,λh=>kI _ ?_ h⟩;rw[wi (by omega) (by omega)];omega
  ·have e1:((Nat.cast c.length:Int) == 0)=false:=by simp;intro h;simp[h]at hl
   have hk:(1:Int)<=(c.length:Int):=by omega
   have r1:=kI at' h3 hk;have r2:=kI (at'+1) (by omega) hk;have hq:0<=at'.tdiv (c.length:Int)/\at'.tdiv (c.length:Int)<=at':=by
    rw[Int.tdiv_eq_ediv_of_nonneg h3];exact⟨Int.ediv_nonneg h3 (by omega),Int.ediv_le_self _ h3⟩
   have wq:wrap .i64 (at'.tdiv (c.length:Int))=at'.tdiv (c.length:Int):=wi (by omega) (by omega);have g1:=aCu h1 (i:=(at'.tmod (c.length:Int)).toNat) (by omega);have g2:=aCu h1 (i:=((at'+1).tmod (c.length:Int)).toNat) (by omega);have w3:wrap .i64 (at'+1)=at'+1:=w1;simp only[e1,hn0,cond_false,w1,w2,dt r1.1,dt r1.2,dt r2.1,dt r2.2,cY,cond_true,wq]
   generalize c.getD (at'.tmod (c.length:Int)).toNat 0=x at g1 ⊢
   generalize c.getD ((at'+1).tmod (c.length:Int)).toNat 0=y at g2 ⊢
   generalize at'.tdiv (c.length:Int)=q at hq ⊢
   by_cases hb2:n > 200
   ·rw[dt hb2,cond_true];refine⟨_,rfl,λh=>by omega,λh=>kI _ ?_ h⟩;simp(disch:=omega) only[wi];omega
   ·rw[df hb2,cond_false];refine⟨_,rfl,λh=>by omega,λh=>kI _ ?_ h⟩;simp(disch:=omega) only[wi];omega
def dM (x:Src×List Int):Option (Int×List Int×Int):=if okZ x.1 1000000000/\1<=x.2.length/\x.2.length<=1000 then g32 bN 0 x.1.1 x.1.2 x.2 else none
theorem aAr:SatP prog bL 32 (c32 dM).nres (c32 dM).F:=s32 bN qM dM λx t h=>by
 unfold dM at h;split at h
 ·exact⟨0,h⟩
 ·cases h
theorem pick {s:Src}{b:Int}(h:okZ s b)(hb:b<=1000000000)(l:List Int)(h1:1<=l.length)(h2:l.length<=1000):∃ v∈l,dM (s,l)=some (v,s.1,s.2+1):=by
 obtain⟨v,e,_,hv⟩:=nx h hb (l.length:Int);have hv:=hv (by omega);have e0:dM (s,l)=g32 bN 0 s.1 s.2 l:=if_pos ⟨h.up hb,h1,h2⟩;refine⟨l.getD v.toNat 0,?_,?_⟩
 ·have:v.toNat < l.length:=by omega
  simp only[List.getD,aC this,iA];exact dY this
 ·rw[e0]
  (try unfold w32);unfold g32 G32;dsimp only[oJ]
  rw[e,aX,dt hv.1,dt hv.2]
  rfl
def okC (c:List Int):Prop:=okB c=true/\c.length<=1048576
instance (c:List Int):Decidable (okC c):=by unfold okC;infer_instance
theorem okC.src {c:List Int}(h:okC c):okZ (c,0) 0:=⟨h.1,h.2,kS _,kS _⟩
def m4 (c:List Int):Option Bool:=some (decide ((c.length:Int) > 1048576))
theorem aLM:Sat prog bL 4 (c4 m4):=s4 m4 λx t h=>by
 cases h;exact⟨0,rfl⟩
end Go.Proofs.Tryz
set_option maxHeartbeats 0
namespace Go.Proofs.Tryz
open Go.IntKind (wrap)
open Go Go.VM Go.RowKit
section
variable {β : Type} {Q : β → Prop} {c : List Int} {a b n : Int}
theorem nxG {d}{F:Int×List Int×Int->Option β}(h:okZ (c,a) b)(hb:b<=1000000000)(H:∀ v,(n < 1->v=0)->(1<=n->0<=v/\v < n)->okZ (c,a+1) (b+1)->∃ r,F (v,c,a+1)=some r/\Q r):∃ r,bS (bN ((c,a),n)) d F=some r/\Q r:=by
 obtain⟨v,e,h1,h2⟩:=nx h hb n;rw[e,aX];exact H v h1 h2 (h.add (k:=1) (by omega))
theorem pkG {d}{l:List Int}{F:Int×List Int×Int->Option β}(h:okZ (c,a) b)(hb:b<=1000000000)(h1:1<=l.length)(h2:l.length<=1000)(H:∀ v∈l,okZ (c,a+1) (b+1)->∃ r,F (v,c,a+1)=some r/\Q r):∃ r,bS (dM ((c,a),l)) d F=some r/\Q r:=by
 obtain⟨v,hv,e⟩:=pick h hb l h1 h2;rw[e,aX];exact H v hv (h.add (k:=1) (by omega))
theorem tJ {p:Bool}{x y:Option β}(h1:p=true->∃ r,x=some r/\Q r)(h2:p=false->∃ r,y=some r/\Q r):∃ r,(bif p then x else y)=some r/\Q r:=by
 cases p
 ·exact h2 rfl
 ·exact h1 rfl
def cK (x:Src×Int):Option (Bool×List Int×Int):=if okZ x.1 1000000000 then g17 bN 0 x.1.1 x.1.2 x.2 else none
theorem chG {d}{F:Bool×List Int×Int->Option β}(h:okZ (c,a) b)(hb:b<=1000000000)(H:∀ v,okZ (c,a+1) (b+1)->∃ r,F (v,c,a+1)=some r/\Q r):∃ r,bS (cK ((c,a),n)) d F=some r/\Q r:=by
 obtain⟨v,e,_,_⟩:=nx h hb n;have e2:cK ((c,a),n)=some (v == 0,c,a+1):=by
  unfold cK;rw[if_pos (h.up hb)];unfold g17 G17;dsimp only;rw[e,aX]
 rw[e2,aX];exact H _ (h.add (k:=1) (by omega))
theorem drG {α:Type}{m:Src->Option α}{sr:α->Src}{d}{k:Int}{F:α->Option β}(hm:∀ (a b:Int),okZ (c,a) b->b<=900000000->∃ r,m (c,a)=some r/\(sr r).1=c/\okZ (sr r) (b+k))(h:okZ (c,a) b)(hb:b<=900000000)(H:∀ r,(sr r).1=c->okZ (sr r) (b+k)->∃ t,F r=some t/\Q t):∃ t,bS (m (c,a)) d F=some t/\Q t:=by
 obtain⟨r,e,h1,h2⟩:=hm a b h hb;rw[e,aX];exact H r h1 h2
end
theorem aAt:SatP prog bL 17 (c17 cK).nres (c17 cK).F:=s17 bN qM cK λx t h=>by
 unfold cK at h;split at h
 ·exact⟨0,h⟩
 ·cases h
abbrev C8:Type:=Int×Int×Int×Int×Int×Int×List Int×Int
def aAo (r:C8):Src:=(r.2.2.2.2.2.2.1,r.2.2.2.2.2.2.2)
def jX (x:Src):Option C8:=if okZ x 900000000 then g34 dM bN qU cK 0 x.1 x.2 else none
theorem aFN:SatP prog bL 34 (c34 jX).nres (c34 jX).F:=s34 dM bN qU cK aAr qM aFM aAt jX λx t h=>by
 unfold jX at h;split at h
 ·exact⟨0,h⟩
 ·cases h
theorem ndG {β:Type}{Q:β->Prop}{k:Int}{d}{F:Bool×Bool×Bool×Bool->Option β}(H:∀ r,∃ t,F r=some t/\Q t):∃ t,bS (qU k) d F=some t/\Q t:=by
 obtain⟨r,e⟩:∃ r,qU k=some r:=⟨_,rfl⟩
 rw[e,aX];exact H r
theorem aFJ {c:List Int}(a b:Int)(h:okZ (c,a) b)(hb:b<=900000000):∃ r,jX (c,a)=some r/\(aAo r).1=c/\okZ (aAo r) (b+20):=by
 unfold jX;rw[if_pos (h.up hb)];show ∃ r,g34 dM bN qU cK 0 c a=some r/\_;unfold g34 G34
 repeat' first
  | refine pkG ‹okZ _ _› (by omega) (by decide) (by decide) λ_ _ _=>?_
  | refine nxG ‹okZ _ _› (by omega) λ_ _ _ _=>?_
  | refine chG ‹okZ _ _› (by omega) λ_ _=>?_
  | refine ndG λ_=>?_
  | refine tJ (λ_=>?_) (λ_=>?_)
  | exact⟨_,rfl,rfl,okZ.up ‹okZ _ _› (by omega)⟩
end Go.Proofs.Tryz
set_option maxHeartbeats 0
namespace Go.Proofs.Tryz
open Go.IntKind (wrap)
open Go Go.VM Go.RowKit
def rF (x:Src):Option C8:=if okZ x 900000000 then g33 jX bN dM 0 x.1 x.2 else none
theorem aIc:SatP prog bL 33 (c33 rF).nres (c33 rF).F:=s33 jX bN dM aFN qM aAr rF λx t h=>by
 unfold rF at h;split at h
 ·exact⟨0,h⟩
 ·cases h
theorem aHD {c:List Int}(a b:Int)(h:okZ (c,a) b)(hb:b<=800000000):∃ r,rF (c,a)=some r/\(aAo r).1=c/\okZ (aAo r) (b+30):=by
 unfold rF;rw[if_pos (h.up (by omega))];show ∃ r,g33 jX bN dM 0 c a=some r/\_;unfold g33 G33;refine drG (sr:=aAo) (k:=20) (λa b h hb=>aFJ a b h hb) h (by omega) λr hc hz=>?_
 obtain⟨r0,r1,r2,r3,r4,r5,c',a'⟩:=r;obtain rfl:c'=c:=hc;replace hz:okZ (c',a') (b+20):=hz
 repeat' first
  | refine pkG ‹okZ _ _› (by omega) (by simp) (by simp) λ_ _ _=>?_
  | refine nxG ‹okZ _ _› (by omega) λ_ _ _ _=>?_
  | refine tJ (λ_=>?_) (λ_=>?_)
  | exact⟨_,rfl,rfl,okZ.up ‹okZ _ _› (by omega)⟩
abbrev C11:Type:=Int×Int×Int×Int×Int×Int×Int×Int×Int×List Int×Int
def uB (r:C11):Src:=(r.2.2.2.2.2.2.2.2.2.1,r.2.2.2.2.2.2.2.2.2.2)
def fQ (x:Src×Int):Option C11:=if okZ x.1 900000000 then g21 cK bN jX 0 x.1.1 x.1.2 x.2 else none
theorem aFP:SatP prog bL 21 (c21 fQ).nres (c21 fQ).F:=s21 cK bN jX aAt qM aFN fQ λx t h=>by
 unfold fQ at h;split at h
 ·exact⟨0,h⟩
 ·cases h
theorem aDr {c:List Int}{v:Int}(a b:Int)(h:okZ (c,a) b)(hb:b<=800000000):∃ r,fQ ((c,a),v)=some r/\(uB r).1=c/\okZ (uB r) (b+30):=by
 unfold fQ;rw[if_pos (h.up (by omega))];show ∃ r,g21 cK bN jX 0 c a v=some r/\_;unfold g21 G21;refine chG h (by omega) λ_ h1=>tJ (λ_=>⟨_,rfl,rfl,okZ.up h1 (by omega)⟩) λ_=>nxG h1 (by omega) λ_ _ _ h2=>nxG h2 (by omega) λ_ _ _ h3=>?_
 refine drG (sr:=aAo) (k:=20) (λa b h hb=>aFJ a b h hb) h3 (by omega) λr hc hz=>?_
 exact⟨_,rfl,hc,okZ.up hz (by omega)⟩
theorem drV {β α:Type}{Q:β->Prop}{c:List Int}{a b v:Int}{m:Src×Int->Option α}{sr:α->Src}{d}{k:Int}{F:α->Option β}(hm:∀ (a b:Int),okZ (c,a) b->b<=800000000->∃ r,m ((c,a),v)=some r/\(sr r).1=c/\okZ (sr r) (b+k))(h:okZ (c,a) b)(hb:b<=800000000)(H:∀ r,(sr r).1=c->okZ (sr r) (b+k)->∃ t,F r=some t/\Q t):∃ t,bS (m ((c,a),v)) d F=some t/\Q t:=by
 obtain⟨r,e,h1,h2⟩:=hm a b h hb;rw[e,aX];exact H r h1 h2
abbrev Cl3:Type:=List En×List Int×Int
def aAp (r:Cl3):Src:=(r.2.1,r.2.2)
def rG (x:Src):Option Cl3:=if okZ x 700000000 then g31 bN dM cK fQ 100 x.1 x.2 else none
theorem aId:SatP prog bL 31 (c31 rG).nres (c31 rG).F:=s31 bN dM cK fQ qM aAr aAt aFP rG λx t h=>by
 unfold rG at h;split at h
 ·exact⟨100,h⟩
 ·cases h
theorem aFX {c c0:List Int}{a0:Int}(N:Nat):∀ (n k:Nat) (a b t:Int) (l:List En),k<=40->k < n->okZ (c,a) b->b+40 * (k:Int)<=800000000->l.length+k<=40->
  ∃ r,sJ bN dM cK fQ N c0 a0 n c a l t (k:Int) (λx y z=>A31_0 (λx=>x) bN dM cK fQ c0 a0 x y z)=some r/\(aAp r).1=c/\okZ (aAp r) (b+40 * (k:Int))/\r.1.length<=40
 | 0,k,a,b,t,l,h1,h2,_,_,_=>by omega
 | n+1,0,a,b,t,l,h1,h2,h,hb,hl=>by
  refine⟨(l,c,a),?_,rfl,okZ.up h (by omega),by show l.length<=40;omega⟩;show B31_0 (λx=>x) _ (λx y z=>A31_0 (λx=>x) bN dM cK fQ c0 a0 x y z) bN dM cK fQ c0 a0 c a l t 0=_;unfold B31_0
  rfl
 | n+1,k+1,a,b,t,l,h1,h2,h,hb,hl=>by
  show ∃ r,B31_0 (λx=>x) (λx0 x1 x2 x3 x4=>sJ bN dM cK fQ N c0 a0 n x0 x1 x2 x3 x4 (λx y z=>A31_0 (λx=>x) bN dM cK fQ c0 a0 x y z)) (λx y z=>A31_0 (λx=>x) bN dM cK fQ c0 a0 x y z) bN dM cK fQ c0 a0 c a l t ((k+1:Nat):Int)=some r/\_;unfold B31_0;rw[dt (show((k+1:Nat):Int) > 0 by omega),cond_true,show wrap .i64 (((k+1:Nat):Int)-1)=(k:Int)by rw[wi (by omega) (by omega)];omega];have go:∀ (r:C11) (tt:Int),(uB r).1=c->okZ (uB r) (b+40)->∃ t,(bif decide ((List.length l)+(List.length (List.cons (r.1,(r.2.1,(r.2.2.1,(r.2.2.2.1,(r.2.2.2.2.1,(r.2.2.2.2.2.1,(r.2.2.2.2.2.2.1,(r.2.2.2.2.2.2.2.1,r.2.2.2.2.2.2.2.2.1)))))))) ([]:List En)))<=(1000000000:Nat))then sJ bN dM cK fQ N c0 a0 n r.2.2.2.2.2.2.2.2.2.1 r.2.2.2.2.2.2.2.2.2.2 (l++(List.cons (r.1,(r.2.1,(r.2.2.1,(r.2.2.2.1,(r.2.2.2.2.1,(r.2.2.2.2.2.1,(r.2.2.2.2.2.2.1,(r.2.2.2.2.2.2.2.1,r.2.2.2.2.2.2.2.2.1)))))))) [])) tt (k:Int) (λx y z=>A31_0 (λx=>x) bN dM cK fQ c0 a0 x y z)else none)=some t/\(aAp t).1=c/\okZ (aAp t) (b+40 * ((k+1:Nat):Int))/\t.1.length<=40:=λr tt hc hz=>by
   obtain⟨r0,r1,r2,r3,r4,r5,r6,r7,r8,c',a'⟩:=r;obtain rfl:c'=c:=hc;replace hz:okZ (c',a') (b+40):=hz;rw[dt (by simp only[dI,kQ];omega),cond_true];obtain⟨t,e,q1,q2,q3⟩:=aFX (c:=c') (c0:=c0) (a0:=a0) N n k a' (b+40) tt (l++[(r0,r1,r2,r3,r4,r5,r6,r7,r8)]) (by omega) (by omega) hz (by omega) (by simp;omega);exact⟨t,e,q1,okZ.up q2 (by omega),q3⟩
  refine chG h (by omega) λ_ g1=>tJ (λ_=>nxG g1 (by omega) λ_ _ _ g2=>?_) λ_=>?_
  ·exact drV (sr:=uB) (k:=30) (λa b h hb=>aDr a b h hb) g2 (by omega) λr hc hz=>go r _ hc (okZ.up hz (by omega))
  ·exact drV (sr:=uB) (k:=30) (λa b h hb=>aDr a b h hb) g1 (by omega) λr hc hz=>go r _ hc (okZ.up hz (by omega))
theorem aHE {c:List Int}(a b:Int)(h:okZ (c,a) b)(hb:b<=600000000):∃ r,rG (c,a)=some r/\((aAp r).1=c/\okZ (aAp r) (b+2000)/\r.1.length<=40):=by
 unfold rG;rw[if_pos (h.up (by omega))];show ∃ r,g31 bN dM cK fQ 100 c a=some r/\_;unfold g31 G31;refine nxG h (by omega) λx _ hx h1=>nxG h1 (by omega) λy _ hy h2=>pkG h2 (by omega) (by simp) (by simp) λv hv h3=>?_
 have hx:=hx (by omega);have hy:=hy (by omega);have hv2:0<=v/\v<=40:=by
  simp only[bA,jU,or_false]at hv;rcases hv with h | h | h<;>omega
 obtain⟨k,rfl⟩:∃ k:Nat,v=(k:Int):=⟨v.toNat,by omega⟩
 obtain⟨r,e,q1,q2,q3⟩:=aFX (c:=c) (c0:=c) (a0:=a) 100 100 k (a+1+1+1) (b+1+1+1) 1 [] (by omega) (by omega) h3 (by omega) (by simp;omega);exact⟨r,e,q1,okZ.up q2 (by omega),q3⟩
end Go.Proofs.Tryz
