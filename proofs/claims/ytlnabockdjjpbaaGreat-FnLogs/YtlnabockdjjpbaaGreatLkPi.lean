/- A part of the proof of FnLogs: LkPi, LkPj, LkTop. -/
import Derived.Test.YtlnabockdjjpbaaGreatLkPp
import Derived.Test.YtlnabockdjjpbaaGreatLkPf
import Derived.Test.YtlnabockdjjpbaaGreatVmJ
set_option linter.unusedSimpArgs false
set_option linter.unusedVariables false
set_option maxHeartbeats 0
namespace Go.Proofs.Tryz
open Go.IntKind (wrap)
open Go Go.VM Go.RowKit
theorem dr {β α X:Type}{Q:β->Prop}{m:X->Option α}{x:X}{d}{F:α->Option β}{P:α->Prop}(hm:∃ r,m x=some r/\P r)(H:∀ r,P r->∃ t,F r=some t/\Q t):∃ t,bS (m x) d F=some t/\Q t:=by
 obtain⟨r,e,h⟩:=hm;rw[e,aX];exact H r h
def qV (x:Src):Option Cl3:=if okZ x 600000000 then g15 rG bN dM rF 0 x.1 x.2 else none
theorem aIm:SatP prog bL 15 (c15 qV).nres (c15 qV).F:=s15 rG bN dM rF aId qM aAr aIc qV λx t h=>by
 unfold qV at h;split at h
 ·exact⟨0,h⟩
 ·cases h
theorem aFK {c:List Int}(a b:Int)(h:okZ (c,a) b)(hb:b<=500000000):∃ r,qV (c,a)=some r/\((aAp r).1=c/\okZ (aAp r) (b+2100)/\r.1.length<=41):=by
 unfold qV;rw[if_pos (h.up (by omega))];show ∃ r,g15 rG bN dM rF 0 c a=some r/\_;unfold g15 G15;refine dr (aHE a b h (by omega)) λr hr=>?_
 obtain⟨l,c',a'⟩:=r;obtain⟨hc,hz,hl⟩:=hr;obtain rfl:c'=c:=hc;replace hz:okZ (c',a') (b+2000):=hz;replace hl:l.length<=40:=hl;refine tJ (λ_=>⟨_,rfl,rfl,okZ.up hz (by omega),dC hl (by omega)⟩) λh0=>nxG hz (by omega) λi _ hi h1=>nxG h1 (by omega) λk _ _ h2=>?_
 have hn:l.length≠0:=by intro e;rw[show((l,c',a').1:List En)=l from rfl,e]at h0;cases h0
 have hi:=hi (by show(1:Int)<=(l.length:Int);omega);have hcd:(decide ((0:Int)<=i)&&decide (i < (l.length:Int)))=true:=by rw[dt hi.1,dt hi.2];rfl
 dsimp only;simp only[hcd,cond_true]
 repeat' first
  | refine pkG ‹okZ _ _› (by omega) (by simp) (by simp) λ_ _ _=>?_
  | refine dr (aHD _ _ ‹okZ _ _› (by omega)) λr hr=>?_
  | (obtain⟨hc,hz2⟩:=‹(aAo _).1=_/\okZ (aAo _) _›;exact⟨_,rfl,hc,okZ.up hz2 (by omega),by show(List.modify _ _ _).length<=41;rw[List.length_modify];omega⟩)
  | refine tJ (λ_=>?_) (λ_=>?_)
  | exact⟨_,rfl,rfl,okZ.up ‹okZ _ _› (by omega),by first | (show(List.modify _ _ _).length<=41;rw[List.length_modify];omega) | (show(List.replicate _ _).length<=41;rw[gR];decide) | (show l.length<=41;omega)⟩
abbrev At4:Type:=Int×Int×List Int×Int
def aET (r:At4):Src:=(r.2.2.1,r.2.2.2)
def rH (x:Src×List En):Option At4:=if okZ x.1 900000000/\x.2.length<=1000 then g16 cK bN dM 0 x.1.1 x.1.2 x.2 else none
theorem aIl:SatP prog bL 16 (c16 rH).nres (c16 rH).F:=s16 cK bN dM aAt qM aAr rH λx t h=>by
 unfold rH at h;split at h
 ·exact⟨0,h⟩
 ·cases h
theorem aHF {c:List Int}{l:List En}(hl:l.length<=41)(a b:Int)(h:okZ (c,a) b)(hb:b<=800000000):∃ r,rH ((c,a),l)=some r/\((aET r).1=c/\okZ (aET r) (b+3)/\-1<=r.1/\r.1<=41):=by
 unfold rH;rw[if_pos ⟨h.up (by omega),by show l.length<=1000;omega⟩];show ∃ r,g16 cK bN dM 0 c a l=some r/\_;unfold g16 G16;have pk:∀ (a b:Int),okZ (c,a) b->b<=900000000->∃ t,bS (dM ((c,a),[0,0,1,41,-1])) (0,[],0) (λ(q1:Int×List Int×Int)=>bS (dM ((q1.2.1,q1.2.2),[0,0,1,5])) (0,[],0) λ(q2:Int×List Int×Int)=>some (q1.1,q2.1,q2.2.1,q2.2.2))=some t/\((aET t).1=c/\okZ (aET t) (b+2)/\-1<=t.1/\t.1<=41):=λa b h hb=>by
  refine pkG h (by omega) (by simp) (by simp) λv hv h1=>pkG h1 (by omega) (by simp) (by simp) λu _ h2=>⟨_,rfl,rfl,okZ.up h2 (by omega),?_⟩
  simp only[bA,jU,or_false]at hv;show -1<=v/\v<=41;rcases hv with h | h | h | h | h<;>omega
 refine tJ (λh0=>?_) λ_=>?_
 ·have hn:(l.length:Int) > 0:=of_decide_eq_true h0;refine chG h (by omega) λq h1=>tJ (λ_=>nxG h1 (by omega) λv _ hv h2=>?_) λ_=>?_
  ·have hv:=hv (by show(1:Int)<=(l.length:Int);omega);dsimp only;rw[dt hv.1,dt hv.2,cY,cond_true,wi (by omega) (by omega)];exact⟨_,rfl,rfl,okZ.up h2 (by omega),by show -1<=v+1;omega,by show v+1<=41;omega⟩
  ·obtain⟨t,e,q1,q2,q3⟩:=pk _ _ h1 (by omega);exact⟨t,e,q1,okZ.up q2 (by omega),q3⟩
 ·obtain⟨t,e,q1,q2,q3⟩:=pk _ _ h (by omega);exact⟨t,e,q1,okZ.up q2 (by omega),q3⟩
abbrev Dr:Type:=List En×Int×Int×List En
def okD (r:Dr):Prop:=r.1.length<=41/\r.2.2.2.length<=41/\-1<=r.2.1/\r.2.1<=41
def dF:Int×Int×Int->Option Bool:=λx=>some (decide (x.2.1<=x.1/\x.1<=x.2.2))
def m5 (c:List Int):Option Dr:=if okC c then g5 tQ qV rH cK dF mId bN fQ 0 c else none
theorem aLL:Sat prog bL 5 (c5 m5):=s5 tQ qV rH cK dF mId bN fQ aIn aIm aIl aAt nO aFQ qM aFP m5 λx t h=>by
 unfold m5 at h;split at h
 ·exact⟨0,h⟩
 ·cases h
theorem aLC {c:List Int}(h:okC c):∃ r,m5 c=some r/\okD r:=by
 unfold m5;rw[if_pos h];show ∃ r,g5 tQ qV rH cK dF mId bN fQ 0 c=some r/\_;unfold g5 G5;rw[show tQ c=some (c,0) from rfl,aX];refine dr (aFK 0 0 h.src (by omega)) λr hr=>?_
 obtain⟨l,c',a1⟩:=r;obtain⟨hc,hz,hl⟩:=hr;obtain rfl:c'=c:=hc;replace hz:okZ (c',a1) (0+2100):=hz;replace hl:l.length<=41:=hl;refine dr (aHF hl _ _ hz (by omega)) λr hr=>?_
 obtain⟨i,t,c2,a2⟩:=r;obtain⟨hc,hz2,hi⟩:=hr;obtain rfl:c2=c':=hc;replace hz2:okZ (c2,a2) (0+2100+3):=hz2;replace hi:-1<=i/\i<=41:=hi;refine dr (aFK _ _ hz2 (by omega)) λr hr=>?_
 obtain⟨m,c3,a3⟩:=r;obtain⟨hc,hz3,hm⟩:=hr;obtain rfl:c3=c2:=hc;replace hz3:okZ (c3,a3) (0+2100+3+2100):=hz3;replace hm:m.length<=41:=hm;refine chG hz3 (by omega) λq h1=>tJ (λ_=>?_) λ_=>⟨_,rfl,hl,hm,hi⟩
 dsimp only;rw[show dF (i,0,(l.length:Int))=some (decide (0<=i/\i<=(l.length:Int))) from rfl,aX];refine tJ (λhq=>?_) λ_=>⟨_,rfl,hl,hm,hi⟩
 have hq:=of_decide_eq_true hq;rw[dt hq.1,dt hq.2,dt (kS _),cY,cY,cond_true]
 generalize hw:List.drop i.toNat (List.take (l.length:Int).toNat l)=w
 have hwl:w.length<=41:=by rw[<-hw];simp;omega
 rw[show mId w=some w from if_pos (by omega),aX];refine tJ (λh0=>?_) λ_=>⟨_,rfl,hl,hwl,hi⟩
 have hn:(w.length:Int) > 0:=of_decide_eq_true h0;refine nxG h1 (by omega) λv _ hv h2=>?_
 have hv:=hv (by show(1:Int)<=(w.length:Int);omega);dsimp only[oJ];rw[wi (by omega) (by omega),dt (show(0:Int)<=v+1 by omega),dt (show v+1<=(w.length:Int)by omega),cY,cond_true]
 generalize hx:List.take (v+1).toNat w=x
 have hxl:(x.length:Int)=v+1:=by rw[<-hx,cJ];omega
 refine chG h2 (by omega) λq h3=>?_
 refine tJ (λ_=>?_) λ_=>⟨_,rfl,hl,by show x.length<=41;omega,hi⟩
 rw[show wrap .i64 ((x.length:Int)-1)=v by rw[wi (by omega) (by omega)];omega,dt (show(0:Int)<=v by omega),dt (show v < (x.length:Int)by omega),cY,cond_true];refine drV (sr:=uB) (k:=30) (λa b h hb=>aDr a b h hb) h3 (by omega) λr hc hz=>?_
 exact⟨_,rfl,hl,by show(List.set _ _ _).length<=41;rw[cG];omega,hi⟩
end Go.Proofs.Tryz
set_option maxHeartbeats 0
namespace Go.Proofs.Tryz
open Go.IntKind (wrap)
open Go Go.VM Go.RowKit
theorem aCN {p:En->En->Bool}:∀ {a b:List En} {j:Nat},j<=a.length->j<=b.length->(j<=iD p a b↔∀ k,k < j->p (a.getD k eU) (b.getD k eU)=true)
 | a,b,0,_,_=>⟨λ_ k h=>by omega,λ_=>eN _⟩
 | [],b,j+1,h,_=>by simp at h
 | x::a,[],j+1,_,h=>by simp at h
 | x::a,y::b,j+1,h1,h2=>by
  have ih:=aCN (p:=p) (a:=a) (b:=b) (j:=j) (by simpa using h1) (by simpa using h2);show j+1<=(if p x y then iD p a b+1 else 0)↔_;by_cases hp:p x y=true
  ·rw[if_pos hp];constructor
   ·intro h k hk;cases k with
    | zero=>exact hp
    | succ k=>exact ih.1 (by omega) k (by omega)
   ·intro h;have:=ih.2 λk hk=>h (k+1) (by omega)
    omega
  ·rw[if_neg hp];constructor
   ·intro h;omega
   ·intro h;exact absurd (h 0 (by omega)) hp
theorem xX (a:List En)(i k:Nat):(a.drop i).getD k eU=a.getD (i+k) eU:=by simp[List.getD]
theorem yY {a:List En}:gL a=0↔a.length<=40/\∀ j,j < a.length->enF (a.getD j eU)=0/\(0 < j->(a.getD (j-1) eU).1<=(a.getD j eU).1):=by
 unfold gL;by_cases hl:40 < a.length
 ·rw[if_pos hl];constructor
  ·intro h;cases h
  ·intro h;omega
 ·rw[if_neg hl,aAP];have one:∀ j,lgE a j=0↔enF (a.getD j eU)=0/\(0 < j->(a.getD (j-1) eU).1<=(a.getD j eU).1):=λj=>by
   unfold lgE;by_cases h1:enF (a.getD j eU)=0
   ·rw[if_pos h1];by_cases h2:0 < j/\(a.getD j eU).1 < (a.getD (j-1) eU).1
    ·rw[if_pos h2];constructor
     ·intro h;cases h
     ·intro h;have:=h.2 h2.1;omega
    ·rw[if_neg h2];exact⟨λ_=>⟨h1,λhj=>by omega⟩,λ_=>rfl⟩
   ·rw[if_neg h1];exact⟨λh=>absurd h h1,λh=>absurd h.1 h1⟩
  constructor
  ·intro h;exact⟨by omega,λj hj=>(one j).1 (h j (eN _) (by omega))⟩
  ·intro h j _ hj;exact(one j).2 (h.2 j (by omega))
theorem qG {a b:List En}{i:Nat}(hi:i<=a.length){j:Nat}:(j < i+iD cZ (a.drop i) b->(iT a i b).getD j eU=a.getD j eU)/\(iD cZ (a.drop i) b < b.length->i+iD cZ (a.drop i) b<=j->(iT a i b).getD j eU=b.getD (j-i) eU):=by
 have hc:=jE cZ (a.drop i) b;rw[cR]at hc;unfold iT;constructor
 ·intro h;split
  ·rfl
  ·simp only[List.getD];rw[aU (by rw[cJ];omega),cH,if_pos h]
 ·intro h1 h2;rw[if_neg (by omega)];simp only[List.getD];rw[aS (by rw[cJ];omega),cJ,dD];congr 2;omega
theorem yJ {a b:List En}{i:Nat}(hi:i<=a.length){k:Nat}(hk:k < b.length):((iT a i b).getD (i+k) eU).1=(b.getD k eU).1:=by
 have hc:=jE cZ (a.drop i) b;by_cases h:k < iD cZ (a.drop i) b
 ·rw[(qG hi).1 (by omega)];have:=(aCN (p:=cZ) (a:=a.drop i) (b:=b) (j:=iD cZ (a.drop i) b) hc.1 hc.2).1 (aI _) k h;rw[xX]at this;exact eq_of_beq this
 ·rw[(qG hi).2 (by omega) (by omega),show i+k-i=k by omega]
theorem aDu {a b:List En}{i:Nat}{t:Int}(ha:gL a=0)(hb:gL b=0)(hf:lB a (i:Int) t=true)(ht:¬ (0 < b.length/\(b.getD 0 eU).1 < t))(hl:(iT a i b).length<=40):gL (iT a i b)=0:=by
 have hi:i<=a.length:=by have:=oW hf;omega
 have hc:=jE cZ (a.drop i) b;have hd:=hc;rw[cR]at hd;have h1:=(yY.1 ha).2;have h2:=(yY.1 hb).2;have hlen:=qH (b:=b) hi;refine yY.2 ⟨hl,λj hj=>?_⟩;by_cases hcb:iD cZ (a.drop i) b=b.length
 ·have e:iT a i b=a:=if_pos hcb;rw[e]at hj ⊢;exact h1 j hj
 ·rw[if_neg hcb]at hlen;by_cases hj1:j < i+iD cZ (a.drop i) b
  ·rw[(qG hi).1 hj1];refine⟨(h1 j (by omega)).1,λh0=>?_⟩;rw[(qG hi).1 (show j-1 < _ by omega)];exact(h1 j (by omega)).2 h0
  ·rw[(qG hi).2 (by omega) (by omega)];refine⟨(h2 (j-i) (by omega)).1,λh0=>?_⟩;by_cases hj2:i+iD cZ (a.drop i) b < j
   ·rw[(qG hi).2 (by omega) (show _<=j-1 by omega),show j-1-i=j-i-1 by omega];exact(h2 (j-i) (by omega)).2 (by omega)
   ·have ej:j=i+iD cZ (a.drop i) b:=by omega
    by_cases hc0:iD cZ (a.drop i) b=0
    ·rw[(qG hi).1 (show j-1 < _ by omega),show j-i=0 by omega,show j-1=i-1 by omega];unfold lB at hf;rw[aAg (show ¬ (i:Int)=0 by omega),cond_false,aD]at hf;have:=eq_of_beq hf.2;rw[show((i:Int)-1).toNat=i-1 by omega]at this;rw[this];omega
    ·have e:=yJ hi (b:=b) (k:=iD cZ (a.drop i) b-1) (by omega);rw[show i+(iD cZ (a.drop i) b-1)=j-1 by omega]at e;rw[e,show j-i=iD cZ (a.drop i) b by omega];exact(h2 _ (by omega)).2 (by omega)
theorem aB6 {a b:List En}{i:Nat}{t:Int}(hf:lB a (i:Int) t=true):lB (iT a i b) (i:Int) t=true:=by
 have hi:i<=a.length:=by have:=oW hf;omega
 have hc:=jE cZ (a.drop i) b;rw[cR]at hc;have hlen:=qH (b:=b) hi;unfold lB at hf ⊢;by_cases h0:(i:Int)=0
 ·rw[h0]at hf ⊢;exact hf
 ·rw[aAg h0,cond_false,aD]at hf ⊢;refine⟨decide_eq_true ⟨by omega,?_⟩,?_⟩
  ·rw[hlen];split<;>omega
  ·rw[(qG hi).1 (by omega)];exact hf.2
theorem aDv {a b:List En}{i:Nat}{t:Int}(ha:gL a=0)(hb:gL b=0)(hf:lB a (i:Int) t=true)(ht:¬ (0 < b.length/\(b.getD 0 eU).1 < t))(hl:(iT a i b).length<=40):yK (iT a i b) (i:Int) t b=(0,iT a i b):=by
 have hi:i<=a.length:=by have:=oW hf;omega
 have hc:=jE cZ (a.drop i) b;rw[cR]at hc;have hlen:=qH (b:=b) hi;have hge:i+b.length<=(iT a i b).length:=by rw[hlen];split<;>omega
 unfold yK;rw[if_pos (aDu ha hb hf ht hl),if_pos hb,if_pos (aB6 hf),if_neg ht,eG];have hall:iD cZ ((iT a i b).drop i) b=b.length:=by
  have h1:=jE cZ ((iT a i b).drop i) b;have h2:=(aCN (p:=cZ) (a:=(iT a i b).drop i) (b:=b) (j:=b.length) (by rw[cR];omega) (aI _)).2 λk hk=>by
   rw[xX];unfold cZ;rw[yJ hi hk];simp
  omega
 have e:iT (iT a i b) i b=iT a i b:=if_pos hall;unfold pbE;rw[e,if_pos hl]
theorem aHH {a b o:List En}{i t:Int}(h:yK a i t b=(0,o)):∃ k:Nat,i=(k:Int)/\k<=a.length/\gL a=0/\gL b=0/\lB a i t=true/\¬ (0 < b.length/\(b.getD 0 eU).1 < t)/\o=iT a k b/\o.length<=40:=by
 unfold yK at h;split at h
 ·rename_i h1;split at h
  ·rename_i h2;split at h
   ·rename_i h3;split at h
    ·cases h
    ·rename_i h4;have hi:=oW h3;unfold pbE at h;split at h
     ·rename_i h5;obtain rfl:=(congrArg Prod.snd h).symm;exact⟨i.toNat,by omega,by omega,h1,h2,h3,h4,rfl,h5⟩
     ·cases h
   ·cases h
  ·rename_i h2;exact absurd (congrArg Prod.fst h) h2
 ·rename_i h1;exact absurd (congrArg Prod.fst h) h1
theorem aDp (a:List En):upd a (a.length:Int) (nU a).1=true:=by
 unfold upd;rw[df (by omega),cond_false,show((nU a).1 == (nU a).1)=true by simp,cond_true,dt (by omega)]
def mL3 (c:List Int):Option Bool:=if okB c=true then some true else none
theorem el3 (L:Nat)(c:List Int)(i:Int)(t:Int)(b o:List En)(z:Int)(hi:0<=i)(hb:b.length<=1000)(hio:i+(b.length:Int)<=(o.length:Int))(ho:o.length<=40)(ht:∀ k,k < b.length->(o.getD (i.toNat+k) eU).1=(b.getD k eU).1)(K:Int->Int->List En->Int->List En->Option Bool):∀ n k,k<=b.length->b.length < n+k->aBy m4 m5 m7 m7 kB m9 tB mSm nA mUp L c n i t b z o (k:Int) K=K i t b z o
 | 0,k,h1,h2=>by omega
 | n+1,k,h1,h2=>by
  show B3_0 (λx=>x) (λv0 v1 v2 v3 v4 v5=>aBy m4 m5 m7 m7 kB m9 tB mSm nA mUp L c n v0 v1 v2 v3 v4 v5 K) K m4 m5 m7 m7 kB m9 tB mSm nA mUp c i t b z o (k:Int)=_;unfold B3_0;by_cases hk:k < b.length
  ·rw[dt (show(k:Int) < (b.length:Int)by omega),cond_true,show wrap .i64 (i+(k:Int))=i+k from wi (by omega) (by omega),dt (show(0:Int)<=i+k by omega),dt (show i+(k:Int) < (o.length:Int)by omega),dt (show(0:Int)<=(k:Int)by omega),cY,cond_true,cond_true,wi (by omega) (by omega),eG,show(i+(k:Int)).toNat=i.toNat+k by omega];show(bif (o.getD (i.toNat+k) eU).1 != (b.getD k eU).1 then _ else _)=_;rw[tI (ht k hk),cond_false];exact el3 L c i t b o z hi hb hio ho ht K n (k+1) (by omega) (by omega)
  ·rw[df (by omega),cond_false]
theorem sat3:Sat prog bL 3 (c3 mL3):=s3 m4 m5 m7 m7 kB m9 tB mSm nA mUp aLM aLL aLK aLJ aEX aHM aFS aIp aFR aIo mL3 λc x h=>by
 unfold mL3 at h;split at h
 ·rename_i hc;cases h;refine⟨1001,?_⟩;show g3 m4 m5 m7 m7 kB m9 tB mSm nA mUp 1001 c=some true;unfold g3 G3;rw[show m4 c=some (decide ((c.length:Int) > 1048576)) from rfl,aX];by_cases hl:(c.length:Int) > 1048576
  ·rw[dt hl];rfl
  rw[df hl,cond_false];obtain⟨⟨l,i,t,m⟩,e5,hl1,hm1,hi0,hi1⟩:=aLC (c:=c) ⟨hc,by omega⟩;replace hl1:l.length<=41:=hl1;replace hm1:m.length<=41:=hm1;rw[e5,aX];have e6:m7 (l,i,t,m)=some (yK l i t m):=if_pos ⟨by show l.length<=1000000000;omega,by show m.length<=1000000000;omega⟩;rw[show m7 _=some _ from e6];simp only[aX]
  generalize hk:yK l i t m=r
  obtain⟨k,o⟩:=r;dsimp only;by_cases hk0:k=0
  ·subst hk0;obtain⟨j,rfl,hj,ha,hb,hf,hn,rfl,ho⟩:=aHH hk;have hlen:=qH (b:=m) hj;have hcl:=jE cZ (l.drop j) m;have hcd:=hcl;rw[cR]at hcd;have hge:j+m.length<=(iT l j m).length:=by rw[hlen];split<;>omega
   have hlog:=aDu ha hb hf hn ho;rw[tI rfl,cond_false,show kB (iT l j m)=some (gL (iT l j m)) from rfl,aX,hlog,tI rfl,cond_false,show wrap .i64 ((j:Int)+(m.length:Int))=(j:Int)+m.length from wi (by omega) (by omega),df (by omega),cond_false];have e9:m9 (l,iT l j m)=some ((iD jW l (iT l j m):Nat):Int):=if_pos ⟨by show l.length<=1000000000;omega,by show(iT l j m).length<=1000000000;omega⟩;have hcm:j<=iD jW l (iT l j m):=(aCN hj (by omega)).2 λk hk=>by rw[(qG hj).1 (by omega)];exact dt rfl
   rw[e9,aX,df (by omega),cond_false];refine(el3 1001 c (j:Int) t m (iT l j m) 0 (by omega) (by omega) (by omega) ho (λk hk=>by rw[eG];exact yJ hj hk) _ 1001 0 (eN _) (by omega)).trans ?_;unfold A3_0;have e6b:m7 (iT l j m,(j:Int),t,m)=some (0,iT l j m):=(if_pos ⟨by show(iT l j m).length<=1000000000;omega,by show m.length<=1000000000;omega⟩).trans (congrArg some (aDv ha hb hf hn ho));have hmid:(iT l j m).length<=sD:=by show _<=1000000000;omega
   rw[e6b,aX,show tB (iT l j m,(j:Int),t)=some true from(if_pos hmid).trans (by rw[dt hlog,aB6 hf];rfl),aX,cond_true,show(((0:Int),iT l j m).1 == 0)=true from rfl,cond_true,show mSm (iT l j m,iT l j m)=some true from(if_pos ⟨hmid,hmid⟩).trans (by rw[dt rfl,show iD jW (iT l j m) (iT l j m)=(iT l j m).length from aA5 (p:=jW) (λx=>dt rfl) _,dt rfl];rfl),aX,cond_true,show nA (iT l j m)=some (nU (iT l j m)) from if_pos hmid,aX,show mUp (iT l j m,((iT l j m).length:Int),(nU (iT l j m)).1)=some true from(if_pos hmid).trans (by rw[dt hlog,aDp];rfl),aX]
  ·rw[oI hk0,cond_true];show some (k == k)=some true;simp
 ·cases h
end Go.Proofs.Tryz
namespace Go.Proofs.Tryz
open Go.IntKind (wrap)
open Go Go.VM Go.RowKit
theorem aDx {z:List Int}{n i:Nat}{y:Int}(h:(z.take n)[i]?=some y):z.getD i 0=y:=by
 rw[cH]at h;split at h
 ·simp only[List.getD];rw[h];rfl
 ·simp at h
def row5' (xs:List Int):L bL.ty:=some (.inr (ro 5 xs))
theorem row_u8 {w:World}{a:Option Addr}{len cap:Nat}{zs:List Int}(h:(a=none/\len=0/\cap=0/\zs=[]) ∨
  ∃ x,a=some x/\len<=cap/\cap<=maxLen/\zs.length=cap/\(∀ i,i < zs.length->w.cell? (x.add i)=some (.int .u8 (zs.getD i 0)))/\∀ n∈zs,(Lit.int .u8 n).wf=true) :
  (∃ n,RepL bL w (Lent w) n (row5' (zs.take len)) (.slice a len cap))/\okB (zs.take len)=true:=by
 rcases h with⟨rfl,rfl,rfl,rfl⟩ | ⟨x,rfl,hl,hm,hz,hcell,hwz⟩
 ·exact⟨aD0 (cx:=bL) (e:=5),rfl⟩
 ·obtain⟨xs,hxs⟩:∃ xs,xs=zs.take len:=⟨_,rfl⟩
  have hlen:xs.length=len:=by rw[hxs,cJ];omega
  have henc:∀ i y,xs[i]?=some y->zs.getD i 0=y:=λi y hy=>aDx (hxs▸hy)
  refine⟨?_,aGr hwz _⟩;rw[<-hxs];exact aDZ (cx:=bL) (e:=5) (k:=.u8) xs rfl hlen hl (by omega) (λi y hy=>by rw[henc i y hy];rfl) hcell
end Go.Proofs.Tryz
