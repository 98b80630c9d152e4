/- A part of the proof of FnExactApplyCmd: LpOa, LpOb, LpOc, LpOd, LpRb, LpPi. -/
import Derived.Test.YtfncedbejffggaaGreatLpFf
import Derived.Test.YtfncedbejffggaaGreatLpMd
import Derived.Test.YtfncedbejffggaaGreatVmPl
import Derived.Test.YtfncedbejffggaaGreatLpPa
import Derived.Test.YtfncedbejffggaaGreatLpLd
set_option linter.unusedSimpArgs false
set_option linter.unusedVariables false
set_option maxHeartbeats 0
namespace Go.Proofs.Tryz
open Go.IntKind (wrap)
open Go Go.VM Go.RowKit
def W8 (ap:Nat):Prop:=∀ (a kd ex nm ad nu pr:Int) (q1 q2:Option Addr) (n1 c1 n2 c2:Nat) (w:World) (k21 k22:Int) (G:Ending->World->Prop)
  (h21:∀ W,Below w.heap.size w W->Calls prog 21 #[.agg #[.int .i64 a,.slice q1 n1 c1,.slice q2 n2 c2]] W λe W'=>e=.returned (.int .i64 k21)/\Below W.heap.size W W')
  (h22:CB 22 #[.agg #[.int .i64 kd,.int .i64 ex,.int .i64 nm,.int .i64 ad,.int .i64 nu,.int .i64 pr]] (.int .i64 k22))
  (R23:World->World->Value->Value->Prop) (hR23:∀ W W' t1 t2,R23 W W' t1 t2->Below W.heap.size W W'/\(∃ q n c,t1=.slice q n c)/\∃ q n c,t2=.slice q n c)
  (h23:k21=0->∀ W,Below w.heap.size w W->Calls prog 23 #[.agg #[.int .i64 a,.slice q1 n1 c1,.slice q2 n2 c2]] W λe W'=>∃ t1 t2,e=.returned (.agg #[.int .i64 a,t1,t2])/\R23 W W' t1 t2)
  (rr0 rr1 rr2 rr3:Value) (h24:k22=0->CB 24 #[.int .i64 kd] (.agg #[rr0,rr1,rr2,rr3,.func (.func ap) #[] #[]]))
  (RA:Int->Int->Value->Value->Nat->World->Prop)
  (hap:k21=0->k22=0->a≠1000000->ex=-1\/ex=a->∀ W W1 t1 t2 W2 g,Below w.heap.size w W->w.heap.size+1+1 < W.heap.size->R23 W W1 t1 t2->Below W1.heap.size W1 W2->W1.heap.size<=g->W2.heap[g]?=some (.cells #[.int .i64 a,t1,t2] 32 (0,0))->
   Calls prog ap #[.pointer (some ⟨g,0,none⟩),.agg #[.int .i64 kd,.int .i64 ex,.int .i64 nm,.int .i64 ad,.int .i64 nu,.int .i64 pr]] W2 λe W3=>∃ r a' u1 u2 t',e=.returned (.int .i64 r)/\W3.heap[g]?=some (.cells #[.int .i64 a',u1,u2] t' (0,0)) ∧
    ((∃ q n c,u1=.slice q n c)/\∃ q n c,u2=.slice q n c)/\Below W.heap.size W W3/\RA r a' u1 u2 g W3)
  (hGr:∀ r a' u1 u2 g W3 Wf,RA r a' u1 u2 g W3->r≠0->Below w.heap.size w Wf->G (.returned (.agg #[.int .i64 r,.int .i64 0,.slice none 0 0,.slice none 0 0])) Wf)
  (hG0:∀ a' u1 u2 g W3 Wf,RA 0 a' u1 u2 g W3->Below w.heap.size w Wf->w.heap.size+1+1 < g->(∀ b,b≠g->b≠w.heap.size+1+1->Wf.heap[b]?=W3.heap[b]?)->G (.returned (.agg #[.int .i64 0,.int .i64 (wrap64 (a'+1)),u1,u2])) Wf)
  (hGe:∀ r W,(k21≠0/\r=k21)\/(k21=0/\k22≠0/\r=k22)\/(k21=0/\k22=0/\a=1000000/\r=3)\/(k21=0/\k22=0/\a≠1000000/\ex≠-1/\ex≠a/\r=9)->Below w.heap.size w W->G (.returned (.agg #[.int .i64 r,.int .i64 0,.slice none 0 0,.slice none 0 0])) W),
  Calls prog 8 #[.agg #[.int .i64 a,.slice q1 n1 c1,.slice q2 n2 c2],.agg #[.int .i64 kd,.int .i64 ex,.int .i64 nm,.int .i64 ad,.int .i64 nu,.int .i64 pr]] w G
def apK (k:Int):Cg×Cm->Option (Int×Cg):=if k=1 then m53 else if k=2 then apT aJt else if k=3 then apT aJs else if k=4 then m57 else if k=5 then m60 else if k=6 then m61 else if k=7 then m62 else if k=8 then m63 else apT aJr
def apN (k:Int):Nat:=if k=1 then 53 else if k=2 then 54 else if k=3 then 56 else if k=4 then 57 else if k=5 then 60 else if k=6 then 61 else if k=7 then 62 else if k=8 then 63 else 65
theorem aKE (k:Int):AppOk (apN k) (apK k)/\W8 (apN k)/\∃ r0 r1 r2 r3,ruL k=[r0,r1,r2,r3,.func (.func (apN k)) #[] #[]]:=by
 unfold apN apK ruL;split
 ·exact⟨aTN,jS 53 (by decide),_,_,_,_,rfl⟩
 split
 ·exact⟨aTM,jS 54 (by decide),_,_,_,_,rfl⟩
 split
 ·exact⟨aTL,jS 56 (by decide),_,_,_,_,rfl⟩
 split
 ·exact⟨aTK,jS 57 (by decide),_,_,_,_,rfl⟩
 split
 ·exact⟨aTJ,jS 60 (by decide),_,_,_,_,rfl⟩
 split
 ·exact⟨aTI,jS 61 (by decide),_,_,_,_,rfl⟩
 split
 ·exact⟨aTH,jS 62 (by decide),_,_,_,_,rfl⟩
 split
 ·exact⟨aTG,jS 63 (by decide),_,_,_,_,rfl⟩
 ·exact⟨aTF,jS 65 (by decide),_,_,_,_,rfl⟩
theorem aJV {bs:LB}{ns:List Int}(h:nF bs ns=0):(∀ j,j < ns.length->gY bs (ns.getD j 0)=true)/\∀ j,j < ns.length->rsN ns j=0:=by
 unfold nF at h;split at h
 ·rename_i h1;refine⟨λj hj=>?_,λj hj=>oS.1 h j (bX _) (by omega)⟩;have:=oS.1 h1 j (bX _) (by omega);unfold knN at this;split at this
  ·assumption
  ·exact absurd this (by decide)
 ·exact absurd h (by decide)
theorem aJq {bs:LB}{vs:LV}{j:Nat}(h:vF bs vs j=0):aCh (vs.getD j eJ)=true/\nF bs (vs.getD j eJ).2.2.2=0:=by
 unfold vF at h;split at h
 ·rename_i h1;split at h
  ·exact absurd h (by decide)
  ·exact⟨h1,h⟩
 ·exact absurd h (by decide)
theorem aJI {ns:List Int}(h:∀ j,j < ns.length->rsN ns j=0):xL ns:=by
 intro i j hij
 induction j with
 | zero=>omega
 | succ j ih=>
  intro hj;have h1:=h (j+1) hj;unfold rsN at h1;have h2:ns.getD j 0 < ns.getD (j+1) 0:=by
   by_cases hc:0 < j+1/\ns.getD (j+1) 0<=ns.getD (j+1-1) 0
   ·rw[if_pos hc]at h1;exact absurd h1 (by decide)
   ·rw[iH]at hc;omega
  by_cases h3:i=j
  ·rw[h3];exact h2
  ·have:=ih (by omega) (by omega);omega
theorem aH8 {bs:LB}{ns:List Int}(hr:ris bs)(hn:xL ns)(hh:∀ j,j < ns.length->gY bs (ns.getD j 0)=true):ns.length<=bs.length:=by
 have hat:∀ j,j < ns.length->fZ bs (ns.getD j 0) < bs.length/\(bs.getD (fZ bs (ns.getD j 0)) jW).1=ns.getD j 0:=λj hj=>by
  have:=hh j hj;rw[uK hr,aJ]at this;exact⟨of_decide_eq_true this.1,by simpa using this.2⟩
 have key:∀ j,j < ns.length->j<=fZ bs (ns.getD j 0):=by
  intro j
  induction j with
  | zero=>intro _;omega
  | succ j ih=>
   intro hj;have h1:=ih (by omega);obtain⟨a1,a2⟩:=hat j (by omega);obtain⟨b1,b2⟩:=hat (j+1) hj;have h2:=hn j (j+1) (by omega) hj;rcases eR (fZ bs (ns.getD j 0)) (fZ bs (ns.getD (j+1) 0))with h3 | h3
   ·omega
   ·exfalso;rcases Nat.lt_or_eq_of_le h3 with h4 | h4
    ·have:=hr _ _ h4 a1;omega
    ·rw[h4]at b2;omega
 rcases Nat.eq_zero_or_pos ns.length with h0 | h0
 ·omega
 ·have h1:=key (ns.length-1) (by omega);have h2:=(hat (ns.length-1) (by omega)).1;omega
theorem aCw {c:Cg}(h:cF c=0):ok8 c/\okS c/\0<=c.1/\c.1<=1000000:=by
 obtain⟨h1,h2,h3,h4,h5⟩:=aKu h;have hr:=aHS h4;have hv:∀ v∈c.2.2,xL v.2.2.2/\v.2.2.2.length<=8:=λv hv=>by
  obtain⟨j,hj,rfl⟩:=dL.1 hv;obtain⟨k1,k2⟩:=aJq (h5 j hj);rw[fT eJ hj]at k2;obtain⟨k3,k4⟩:=aJV k2;have:=aJI k4;exact⟨this,dZ (aH8 hr this k3) h2⟩
 refine⟨⟨hr,h2,aJH h5,h3,λv hm=>⟨(hv v hm).1,by have:=(hv v hm).2;omega⟩⟩,⟨by omega,by omega,λv hm=>by have:=(hv v hm).2;omega⟩,?_⟩;unfold nD at h1;simpa using h1
def ap8 (z:Cg×Cm):Int×Int×LB×LV:=
 if cF z.1≠0 then(cF z.1,0,[],[])else if cmF z.2≠0 then(cmF z.2,0,[],[])else if z.1.1=1000000 then(3,0,[],[])else if z.2.2.1≠-1/\z.2.2.1≠z.1.1 then(9,0,[],[])
 else match apK z.2.1 z with
  | some (r,c')=>if r=0 then(0,wrap64 (c'.1+1),c'.2.1,c'.2.2)else(r,0,[],[])
  | none=>(0,0,[],[])
def m8 (z:Cg×Cm):Option CR:=if okC z.1 then some (ap8 z)else none
theorem aEs (k:Int)(z:Cg×Cm)(h:ok8 z.1):∃ r c',apK k z=some (r,c'):=by
 unfold apK;split
 ·exact⟨_,_,if_pos h⟩
 split
 ·exact⟨_,_,if_pos h⟩
 split
 ·exact⟨_,_,if_pos h⟩
 split
 ·exact⟨_,_,if_pos h⟩
 split
 ·exact⟨_,_,if_pos h⟩
 split
 ·exact⟨_,_,if_pos h⟩
 split
 ·exact⟨_,_,if_pos h⟩
 split
 ·exact⟨_,_,if_pos h⟩
 ·exact⟨_,_,if_pos h⟩
theorem aSd {W:World}{bs:LB}{vs:LV}{s1 s2:Value}{ss:List Value}(r1:W.ownsRow 0 68 5 s1 bs.length (bs.flatMap oY))(r2:W.ownsRow 0 76 4 s2 vs.length (kJ vs ss))(hi:Inn W vs ss):∀ b∈jY s1 s2 ss,b < W.heap.size:=λb hb=>by
 unfold jY at hb;rcases aA.1 hb with hb | hb
 ·exact gA r1 (by simpa[ob]using hb)
 ·rcases aA.1 hb with hb | hb
  ·exact gA r2 (by simpa[ob]using hb)
  ·exact hi.lt b hb
theorem aGc {x:Cm}(h:cmF x=0):1<=x.1/\x.1<=9:=by
 unfold cmF at h;split at h
 ·assumption
 ·exact absurd h (by decide)
theorem aQK {W:World}{A0 N:Nat->Prop}{r v:Int}{bs:LB}{vs:LV}{s1 s2:Value}{ss:List Value}(r1:W.ownsRow 0 68 5 s1 bs.length (bs.flatMap oY))(r2:W.ownsRow 0 76 4 s2 vs.length (kJ vs ss))(hi:Inn W vs ss)
  (nd:(jY s1 s2 ss).Nodup) (hN:∀ b∈jY s1 s2 ss,N b/\b < W.heap.size):ResV cxT W A0 N (n8 (r,v,bs,vs)) (.agg #[.int .i64 r,.int .i64 v,s1,s2]):=by
 refine⟨jY s1 s2 ss,nd,hN,[.int .i64 r,.int .i64 v,s1,s2],[[],[],ob s1,ob s2++ss.flatMap ob],rfl,by simp[jY],rfl,rfl,λj a u f e1 e2 e3=>?_⟩
 match j with
 | 0=>cases e1;cases e2;cases e3;exact⟨rfl,rfl⟩
 | 1=>cases e1;cases e2;cases e3;exact⟨rfl,rfl⟩
 | 2=>cases e1;cases e2;cases e3;exact aDc r1
 | 3=>cases e1;cases e2;cases e3;exact aCf r2 hi
 | j+4=>simp at e2
theorem aK4 {W:World}{A0 N:Nat->Prop}(r:Int):ResV cxT W A0 N (n8 (r,0,[],[])) (.agg #[.int .i64 r,.int .i64 0,.slice none 0 0,.slice none 0 0]):=
 aQK (ss:=[]) ⟨rfl,.inl ⟨rfl,rfl⟩⟩ ⟨rfl,.inl ⟨rfl,rfl⟩⟩ ⟨rfl,λi x s h=>by simp at h⟩ (by simp[jY,ob,Value.ownBlock]) (by simp[jY,ob,Value.ownBlock])
theorem aVf:Sat prog cxT 8 (c8 m8):=by
 intro w A0 l us r hA hargs hF;obtain⟨⟨c,x⟩,t,rfl,hx,rfl⟩:=sG hF;obtain⟨a,bs,vs⟩:=c;obtain⟨kd,ex,nm,ad,nu,pr⟩:=x;obtain⟨hl,hargs⟩:=(show ArgAs cxT w A0 [.inr [lv (.int .i64 a),ls (ro 68 bs),ls (ro 76 vs)],.inr ((cV (kd,ex,nm,ad,nu,pr)).map lv)] us from hargs)
 match us,hl,hargs with
 | [u0,u1],_,hargs=>
 obtain rfl:=aGm (hargs 1 _ _ rfl rfl);obtain⟨ws,rfl,hlen,hv⟩:=hargs 0 _ _ rfl rfl;obtain⟨v0,v1,v2,rfl⟩:∃ a b c,ws=[a,b,c]:=by
  match ws,hlen with
  | [a,b,c],_=>exact⟨a,b,c,rfl⟩
 obtain rfl:v0=.int .i64 a:=hv 0 _ _ rfl rfl;obtain⟨_,n1,h1⟩:=(show(ro 68 bs:SlD cxT.ty).own=0/\∃ n,RepL cxT w A0 n (some (.inr (ro 68 bs))) v1 from hv 1 _ _ rfl rfl)
 obtain⟨_,n2,h2⟩:=(show(ro 76 vs:SlD cxT.ty).own=0/\∃ n,RepL cxT w A0 n (some (.inr (ro 76 vs))) v2 from hv 2 _ _ rfl rfl)
 obtain⟨q1,c1,rfl,_,_⟩:=aFF h1;obtain⟨q2,c2,rfl,_,_⟩:=aFF h2;unfold m8 at hx;split at hx
 ·rename_i hok;cases hx;have hargC:∀ W,Below w.heap.size w W->ArgAs cxT W A0 [.inr [lv (.int .i64 a),ls (ro 68 bs),ls (ro 76 vs)]] [.agg #[.int .i64 a,.slice q1 bs.length c1,.slice q2 vs.length c2]]:=λW hB=>by
   have mono:=λ(l:L cxT.ty) u (n:Nat) (h:RepL cxT w A0 n l u)=>RepL_mono cxT (w':=W) (λb hb=>hB.block b (hA b hb)) (λ_ h=>h) n l u h
   refine⟨rfl,λj b v h3 h4=>?_⟩
   match j with
   | 0=>
    cases h3;cases h4;refine⟨_,rfl,rfl,λj a u e1 e2=>?_⟩
    match j with
    | 0=>cases e1;cases e2;rfl
    | 1=>cases e1;cases e2;exact⟨rfl,n1,mono _ _ _ h1⟩
    | 2=>cases e1;cases e2;exact⟨rfl,n2,mono _ _ _ h2⟩
    | j+3=>simp at e1
   | j+1=>simp at h3
  obtain⟨hap,hw8,rr0,rr1,rr2,rr3,hru⟩:=aKE kd;refine(hw8 a kd ex nm ad nu pr q1 q2 bs.length c1 vs.length c2 w (cF (a,bs,vs)) (cmF (kd,ex,nm,ad,nu,pr))
   (λe w'=>∃ u,e=.returned u/\Below w.heap.size w w'/\ResV cxT w' A0 (λb=>w.heap.size<=b) (n8 (ap8 ((a,bs,vs),(kd,ex,nm,ad,nu,pr)))) u) ?_ ?_
   (λW W' t1 t2=>Below W.heap.size W W'/\∃ ss,W'.ownsRow 0 68 5 t1 bs.length (bs.flatMap oY)/\W'.ownsRow 0 76 4 t2 vs.length (kJ vs ss)/\Inn W' vs ss/\(jY t1 t2 ss).Nodup/\∀ b∈jY t1 t2 ss,W.heap.size<=b/\b < W'.heap.size)
   ?_ ?_ rr0 rr1 rr2 rr3 ?_
   (λr a' u1 u2 g W3=>cF (a,bs,vs)=0/\cmF (kd,ex,nm,ad,nu,pr)=0/\a≠1000000/\(ex=-1\/ex=a)/\∃ bs' vs' ss' t',apK kd ((a,bs,vs),(kd,ex,nm,ad,nu,pr))=some (r,a',bs',vs')/\Hold W3 g (a',bs',vs') u1 u2 ss' t'/\∀ b∈jY u1 u2 ss',w.heap.size+1+1 < b)
   ?_ ?_ ?_ ?_)
  ·intro W hB;refine(aQy W A0 (a21.enc (a,bs,vs)) [.agg #[.int .i64 a,.slice q1 bs.length c1,.slice q2 vs.length c2]] (n21 (cF (a,bs,vs))) (λb hb=>by have:=hA b hb;have:=hB.size;omega) (hargC W hB) ?_).mono ?_
   ·show some ((mCF (a,bs,vs)).isSome,n21 ((mCF (a,bs,vs)).getD aNQ))=_;rw[show mCF (a,bs,vs)=some (cF (a,bs,vs)) from if_pos hok]
    rfl
   ·rintro e' W' ⟨u,rfl,hb,hr⟩;exact⟨by rw[uR (show ResV cxT W' A0 _ (.inl (.inl (lv (.int .i64 (cF (a,bs,vs)))))) u from hr)],hb⟩
  ·exact gZ aQx (λ_=>aEq (cV (kd,ex,nm,ad,nu,pr))) rfl
  ·rintro W W' t1 t2 ⟨hb,ss,k1,k2,_⟩;obtain⟨q,cp,e1⟩:=eS k1;obtain⟨q',cp',e2⟩:=eS k2;exact⟨hb,⟨q,_,cp,e1⟩,q',_,cp',e2⟩
  ·intro hz W hB;obtain⟨k8,kS,_⟩:=aCw hz;refine(aQw W A0 (a23.enc (a,bs,vs)) [.agg #[.int .i64 a,.slice q1 bs.length c1,.slice q2 vs.length c2]] (n23 (a,bs,vs)) (λb hb=>by have:=hA b hb;have:=hB.size;omega) (hargC W hB) ?_).mono ?_
   ·show some ((mCp (a,bs,vs)).isSome,n23 ((mCp (a,bs,vs)).getD aNP))=_;rw[show mCp (a,bs,vs)=some (a,bs,vs) from if_pos kS]
    rfl
   ·rintro e' W' ⟨u,rfl,hb,fp,hnd,hN,us',fps,eu,ef,hls⟩;subst eu;obtain⟨t1,t2,ss,et,r1,r2,i2,e3⟩:=aC7 (c:=(a,bs,vs)) (us:=us') ⟨us',fps,rfl,ef,hls⟩;subst et;subst e3;exact⟨t1,t2,rfl,hb,ss,r1,r2,i2,hnd,hN⟩
  ·intro hz;have hk:=aGc hz;have:=aTt hk;rw[hru]at this;exact this
  ·rintro hz hz2 ha he W W1 t1 t2 W2 g hB hsz ⟨hb1,ss,r1,r2,i2,hnd,hN⟩ hb2 hg hbox;obtain⟨k8,kS,_⟩:=aCw hz;obtain⟨r,c',hm⟩:=aEs kd ((a,bs,vs),(kd,ex,nm,ad,nu,pr)) k8;have hkeep:∀ b∈jY t1 t2 ss,W2.heap[b]?=W1.heap[b]?:=λb hb=>hb2.block b (hN b hb).2
   have hold:Hold W2 g (a,bs,vs) t1 t2 ss:=⟨hbox,fM r1 λb hb=>hkeep b (xN hb),fM r2 λb hb=>hkeep b (aDS hb),i2.keep λb hb=>hkeep b (sO hb),hnd,λb hb e=>by have:=(hN b hb).2;omega⟩
   refine(hap W2 g (a,bs,vs) t1 t2 ss (kd,ex,nm,ad,nu,pr) r c' hold hm).mono ?_;rintro e W3 ⟨rfl,u1,u2,ss',t',h3,hkp,hnew⟩;obtain⟨qa,ca,e1⟩:=eS h3.r1;obtain⟨qb,cb,e2⟩:=eS h3.r2;have z1:=hb1.size;have z2:=hb2.size;refine⟨r,c'.1,u1,u2,t',rfl,h3.box,⟨⟨_,_,_,e1⟩,_,_,_,e2⟩,⟨hkp.os.trans (hb2.os.trans hb1.os),hkp.tape.trans (hb2.tape.trans hb1.tape),hkp.output.trans (hb2.output.trans hb1.output),by have:=hkp.size;omega,λb hb=>?_⟩,hz,hz2,ha,he,c'.2.1,c'.2.2,ss',t',hm,h3,λb hb=>?_⟩
   ·refine(hkp.block b λhh=>?_).trans ((hb2.block b (by omega)).trans (hb1.block b hb));rcases hh with hh | hh | hh
    ·omega
    ·have:=(hN b hh).1;omega
    ·omega
   ·rcases hnew b hb with h4 | h4
    ·omega
    ·have:=(hN b h4).1;omega
  ·rintro r a' u1 u2 g W3 Wf ⟨hz,hz2,ha,he,bs',vs',ss',t',hm,h3,hfr⟩ hr0 hB;refine⟨_,rfl,hB,?_⟩;have:ap8 ((a,bs,vs),(kd,ex,nm,ad,nu,pr))=(r,0,[],[]):=by
    unfold ap8;simp only;rw[if_neg (λh=>h hz),if_neg (λh=>h hz2),if_neg ha,if_neg (λh=>he.elim h.1 h.2),hm];simp only;rw[if_neg hr0]
   rw[this];exact aK4 r
  ·rintro a' u1 u2 g W3 Wf ⟨hz,hz2,ha,he,bs',vs',ss',t',hm,h3,hfr⟩ hB hg hkeep;refine⟨_,rfl,hB,?_⟩;have:ap8 ((a,bs,vs),(kd,ex,nm,ad,nu,pr))=(0,wrap64 (a'+1),bs',vs'):=by
    unfold ap8;simp only;rw[if_neg (λh=>h hz),if_neg (λh=>h hz2),if_neg ha,if_neg (λh=>he.elim h.1 h.2),hm];simp only;rw[if_pos trivial]
   rw[this];have hk:∀ b∈jY u1 u2 ss',Wf.heap[b]?=W3.heap[b]?:=λb hb=>hkeep b (h3.ne b hb) (by have:=hfr b hb;omega)
   have hw:=hB.size;refine aQK (fM h3.r1 λb hb=>hk b (xN hb)) (fM h3.r2 λb hb=>hk b (aDS hb)) (h3.inn.keep λb hb=>hk b (sO hb)) h3.nd λb hb=>⟨by have:=hfr b hb;omega,?_⟩
   have h5:=aSd h3.r1 h3.r2 h3.inn b hb;have h6:=hk b hb;rw[gI h5]at h6;exact(aL.1 h6).1
  ·rintro r W hcs hB;refine⟨_,rfl,hB,?_⟩;have:ap8 ((a,bs,vs),(kd,ex,nm,ad,nu,pr))=(r,0,[],[]):=by
    unfold ap8;simp only;rcases hcs with⟨h0,rfl⟩ | ⟨h0,h1,rfl⟩ | ⟨h0,h1,h2,rfl⟩ | ⟨h0,h1,h2,h3,h4,rfl⟩
    ·rw[if_pos h0]
    ·rw[if_neg (λh=>h h0),if_pos h1]
    ·rw[if_neg (λh=>h h0),if_neg (λh=>h h1),if_pos h2]
    ·rw[if_neg (λh=>h h0),if_neg (λh=>h h1),if_neg h2,if_pos ⟨h3,h4⟩]
   rw[this];exact aK4 r
 ·cases hx
theorem mR {p:Prop}[Decidable p]{x w:Int×Cg}{v:Int}(hx:x.2.1=v)(h:(if p then some x else none)=some w):w.2.1=v:=by
 split at h
 ·cases h;exact hx
 ·cases h
theorem aKF {k:Int}{z:Cg×Cm}{r:Int}{c':Cg}(h:apK k z=some (r,c')):c'.1=z.1.1:=by
 have hT:∀ u,apT u z=some (r,c')->c'.1=z.1.1:=λu h=>by
  unfold apT at h;exact mR (w:=(r,c')) (by split<;>rfl) h
 unfold apK at h;split at h
 ·unfold m53 at h;exact mR (w:=(r,c')) (by(repeat' split)<;>rfl) h
 split at h
 ·exact hT _ h
 split at h
 ·exact hT _ h
 split at h
 ·unfold m57 at h;exact mR (w:=(r,c')) (by(repeat' split)<;>rfl) h
 split at h
 ·unfold m60 at h;exact mR (w:=(r,c')) (by(repeat' split)<;>rfl) h
 split at h
 ·unfold m61 at h;exact mR (w:=(r,c')) (by(repeat' split)<;>rfl) h
 split at h
 ·unfold m62 at h;exact mR (w:=(r,c')) (by(repeat' split)<;>rfl) h
 split at h
 ·unfold m63 at h;exact mR (w:=(r,c')) (by(repeat' split)<;>rfl) h
 ·exact hT _ h
set_option maxRecDepth 100000
def yB:Env cxT:={ Kc:=eF [],Kw:=eE [],lv:=λi=>if i=0 then[(0,[some 2]),(1,[]),(5,[])]else[],xv:=λi=>if i=0 then some [(0,[some 2]),(1,[]),(5,[])]else none }
def S77_0 (a0:LI)(a1:Int)(v0_5:Int):St cxT.ty:={ slots:=[(.inl (.inl (ls { own:=0,nm:=0,e:=2,o:=false,xs:=a0 }))),(.inl (.inl (lv (.int .i64 a1)))),aN,aN,aN,(.inl (.inl (lv (.int .i64 v0_5))))]++List.replicate 39 aN,D:=[],F:=[],ctr:=1 }
def X77_0 (a0:LI)(a1:Int)(w0_5:Int):St cxT.ty:={ slots:=[(.inl (.inl (ls { own:=0,nm:=0,e:=2,o:=false,xs:=a0 }))),(.inl (.inl (lv (.int .i64 a1)))),aN,aN,aN,(.inl (.inl (lv (.int .i64 w0_5))))]++List.replicate 39 aN,D:=[],F:=[],ctr:=1 }
theorem i77 (L:Nat)(a0:LI)(a1:Int):eT prog yB (bH L) f77 (a77.enc (a0,a1))=
 cE prog yB L f77 0 [1,1,0,0,0] (cW (bI prog f77) (cA prog yB L f77 [1,1,0] (bI prog f77)).n (cA prog yB L f77 [1,1,0] (bI prog f77)).x) L (S77_0 a0 a1 (0:Int)):=by kernel_rfl
theorem aQT (L:Nat)(a0:LI)(a1:Int)(k:KT)(xk:Nat->KT)(g:KT)(v0_5:Int):eW prog yB L f77 0 [1,1,0,0,0] (cW (bI prog f77) k xk) g (S77_0 a0 a1 v0_5)=
 bif (decide (v0_5 < (Nat.cast (List.length a0):Int)))then bif ((decide ((0:Int)<=v0_5))&&(decide (v0_5 < (Nat.cast (List.length a0):Int))))then bif (decide ((List.getD a0 (Int.toNat v0_5) (0:Int)) < a1))then g (S77_0 a0 a1 (wrap Go.IntKind.i64 (v0_5+(1:Int))))
   else k (X77_0 a0 a1 v0_5)
  else none
 else k (X77_0 a0 a1 v0_5):=by kernel_rfl
theorem aPk (L:Nat)(a0:LI)(a1:Int)(w0_5:Int):(cA prog yB L f77 [1,1,0] (bI prog f77)).n (X77_0 a0 a1 w0_5)=
 bif (decide (w0_5 < (Nat.cast (List.length a0):Int)))then bif ((decide ((0:Int)<=w0_5))&&(decide (w0_5 < (Nat.cast (List.length a0):Int))))then bif ((List.getD a0 (Int.toNat w0_5) (0:Int)) == a1)then some (.inl (.inl (ls (ro 2 a0))))
   else bif (((decide ((0:Int)<=(0:Int)))&&(decide ((0:Int)<=w0_5)))&&(decide (w0_5<=(Nat.cast (List.length a0):Int))))then bif (decide (((List.length ([]:List (Int)))+(List.length (List.drop (Int.toNat (0:Int)) (List.take (Int.toNat w0_5) a0))))<=(1000000000:Nat)))then bif (decide (((List.length (([]:List (Int))++(List.drop (Int.toNat (0:Int)) (List.take (Int.toNat w0_5) a0))))+(List.length (List.cons a1 ([]:List (Int)))))<=(1000000000:Nat)))then bif (((decide ((0:Int)<=w0_5))&&(decide (w0_5<=(Nat.cast (List.length a0):Int))))&&(decide ((Nat.cast (List.length a0):Int)<=(Nat.cast (List.length a0):Int))))then bif (decide (((List.length ((([]:List (Int))++(List.drop (Int.toNat (0:Int)) (List.take (Int.toNat w0_5) a0)))++(List.cons a1 ([]:List (Int)))))+(List.length (List.drop (Int.toNat w0_5) (List.take (Int.toNat (Nat.cast (List.length a0):Int)) a0))))<=(1000000000:Nat)))then some (n77 (((([]:List (Int))++(List.drop (Int.toNat (0:Int)) (List.take (Int.toNat w0_5) a0)))++(List.cons a1 ([]:List (Int))))++(List.drop (Int.toNat w0_5) (List.take (Int.toNat (Nat.cast (List.length a0):Int)) a0))))
       else none
      else none
     else none
    else none
   else none
  else none
 else bif (((decide ((0:Int)<=(0:Int)))&&(decide ((0:Int)<=w0_5)))&&(decide (w0_5<=(Nat.cast (List.length a0):Int))))then bif (decide (((List.length ([]:List (Int)))+(List.length (List.drop (Int.toNat (0:Int)) (List.take (Int.toNat w0_5) a0))))<=(1000000000:Nat)))then bif (decide (((List.length (([]:List (Int))++(List.drop (Int.toNat (0:Int)) (List.take (Int.toNat w0_5) a0))))+(List.length (List.cons a1 ([]:List (Int)))))<=(1000000000:Nat)))then bif (((decide ((0:Int)<=w0_5))&&(decide (w0_5<=(Nat.cast (List.length a0):Int))))&&(decide ((Nat.cast (List.length a0):Int)<=(Nat.cast (List.length a0):Int))))then bif (decide (((List.length ((([]:List (Int))++(List.drop (Int.toNat (0:Int)) (List.take (Int.toNat w0_5) a0)))++(List.cons a1 ([]:List (Int)))))+(List.length (List.drop (Int.toNat w0_5) (List.take (Int.toNat (Nat.cast (List.length a0):Int)) a0))))<=(1000000000:Nat)))then some (n77 (((([]:List (Int))++(List.drop (Int.toNat (0:Int)) (List.take (Int.toNat w0_5) a0)))++(List.cons a1 ([]:List (Int))))++(List.drop (Int.toNat w0_5) (List.take (Int.toNat (Nat.cast (List.length a0):Int)) a0))))
     else none
    else none
   else none
  else none
 else none:=by kernel_rfl
def aAn (L:Nat)(a0:LI)(a1:Int):Nat->Int->(Int->Option LI)->Option LI
 | 0,_,_=>none
 | n+1,v0_5,k=>
  bif (decide (v0_5 < (Nat.cast (List.length a0):Int)))then bif ((decide ((0:Int)<=v0_5))&&(decide (v0_5 < (Nat.cast (List.length a0):Int))))then bif (decide ((List.getD a0 (Int.toNat v0_5) (0:Int)) < a1))then aAn L a0 a1 n (wrap Go.IntKind.i64 (v0_5+(1:Int))) k
    else k v0_5
   else none
  else k v0_5
theorem aLC (L:Nat)(a0:LI)(a1:Int)(k:KT)(xk:Nat->KT)(k':Int->Option LI)(hk:∀ (w0_5:Int),k (X77_0 a0 a1 w0_5)=(k' w0_5).map n77):∀ (n:Nat) (v0_5:Int),cE prog yB L f77 0 [1,1,0,0,0] (cW (bI prog f77) k xk) n (S77_0 a0 a1 v0_5)=(aAn L a0 a1 n v0_5 k').map n77
 | 0,_=>rfl
 | n+1,v0_5=>by
  rw[cK,aQT];have ih:=aLC L a0 a1 k xk k' hk n;simp only[aAn,aU,aS,aT,aD,aE,ih,hk]
def g77 (L:Nat)(a0:LI)(a1:Int):Option LI:=
 aAn L a0 a1 L (0:Int) (λ(w0_5:Int)=>bif (decide (w0_5 < (Nat.cast (List.length a0):Int)))then bif ((decide ((0:Int)<=w0_5))&&(decide (w0_5 < (Nat.cast (List.length a0):Int))))then bif ((List.getD a0 (Int.toNat w0_5) (0:Int)) == a1)then some a0
    else bif (((decide ((0:Int)<=(0:Int)))&&(decide ((0:Int)<=w0_5)))&&(decide (w0_5<=(Nat.cast (List.length a0):Int))))then bif (decide (((List.length ([]:List (Int)))+(List.length (List.drop (Int.toNat (0:Int)) (List.take (Int.toNat w0_5) a0))))<=(1000000000:Nat)))then bif (decide (((List.length (([]:List (Int))++(List.drop (Int.toNat (0:Int)) (List.take (Int.toNat w0_5) a0))))+(List.length (List.cons a1 ([]:List (Int)))))<=(1000000000:Nat)))then bif (((decide ((0:Int)<=w0_5))&&(decide (w0_5<=(Nat.cast (List.length a0):Int))))&&(decide ((Nat.cast (List.length a0):Int)<=(Nat.cast (List.length a0):Int))))then bif (decide (((List.length ((([]:List (Int))++(List.drop (Int.toNat (0:Int)) (List.take (Int.toNat w0_5) a0)))++(List.cons a1 ([]:List (Int)))))+(List.length (List.drop (Int.toNat w0_5) (List.take (Int.toNat (Nat.cast (List.length a0):Int)) a0))))<=(1000000000:Nat)))then some (((([]:List (Int))++(List.drop (Int.toNat (0:Int)) (List.take (Int.toNat w0_5) a0)))++(List.cons a1 ([]:List (Int))))++(List.drop (Int.toNat w0_5) (List.take (Int.toNat (Nat.cast (List.length a0):Int)) a0)))
        else none
       else none
      else none
     else none
    else none
   else none
  else bif (((decide ((0:Int)<=(0:Int)))&&(decide ((0:Int)<=w0_5)))&&(decide (w0_5<=(Nat.cast (List.length a0):Int))))then bif (decide (((List.length ([]:List (Int)))+(List.length (List.drop (Int.toNat (0:Int)) (List.take (Int.toNat w0_5) a0))))<=(1000000000:Nat)))then bif (decide (((List.length (([]:List (Int))++(List.drop (Int.toNat (0:Int)) (List.take (Int.toNat w0_5) a0))))+(List.length (List.cons a1 ([]:List (Int)))))<=(1000000000:Nat)))then bif (((decide ((0:Int)<=w0_5))&&(decide (w0_5<=(Nat.cast (List.length a0):Int))))&&(decide ((Nat.cast (List.length a0):Int)<=(Nat.cast (List.length a0):Int))))then bif (decide (((List.length ((([]:List (Int))++(List.drop (Int.toNat (0:Int)) (List.take (Int.toNat w0_5) a0)))++(List.cons a1 ([]:List (Int)))))+(List.length (List.drop (Int.toNat w0_5) (List.take (Int.toNat (Nat.cast (List.length a0):Int)) a0))))<=(1000000000:Nat)))then some (((([]:List (Int))++(List.drop (Int.toNat (0:Int)) (List.take (Int.toNat w0_5) a0)))++(List.cons a1 ([]:List (Int))))++(List.drop (Int.toNat w0_5) (List.take (Int.toNat (Nat.cast (List.length a0):Int)) a0)))
      else none
     else none
    else none
   else none
  else none)
theorem e77 (L:Nat)(a0:LI)(a1:Int)(hno:∀ i,i < a0.length->(a0.getD i (0:Int) == a1)=false):eT prog yB (bH L) f77 (a77.enc (a0,a1))=(g77 L a0 a1).map n77:=by
 let K'0:Int->Option LI:=(λ(w0_5:Int)=>bif (decide (w0_5 < (Nat.cast (List.length a0):Int)))then bif ((decide ((0:Int)<=w0_5))&&(decide (w0_5 < (Nat.cast (List.length a0):Int))))then bif ((List.getD a0 (Int.toNat w0_5) (0:Int)) == a1)then some a0
     else bif (((decide ((0:Int)<=(0:Int)))&&(decide ((0:Int)<=w0_5)))&&(decide (w0_5<=(Nat.cast (List.length a0):Int))))then bif (decide (((List.length ([]:List (Int)))+(List.length (List.drop (Int.toNat (0:Int)) (List.take (Int.toNat w0_5) a0))))<=(1000000000:Nat)))then bif (decide (((List.length (([]:List (Int))++(List.drop (Int.toNat (0:Int)) (List.take (Int.toNat w0_5) a0))))+(List.length (List.cons a1 ([]:List (Int)))))<=(1000000000:Nat)))then bif (((decide ((0:Int)<=w0_5))&&(decide (w0_5<=(Nat.cast (List.length a0):Int))))&&(decide ((Nat.cast (List.length a0):Int)<=(Nat.cast (List.length a0):Int))))then bif (decide (((List.length ((([]:List (Int))++(List.drop (Int.toNat (0:Int)) (List.take (Int.toNat w0_5) a0)))++(List.cons a1 ([]:List (Int)))))+(List.length (List.drop (Int.toNat w0_5) (List.take (Int.toNat (Nat.cast (List.length a0):Int)) a0))))<=(1000000000:Nat)))then some (((([]:List (Int))++(List.drop (Int.toNat (0:Int)) (List.take (Int.toNat w0_5) a0)))++(List.cons a1 ([]:List (Int))))++(List.drop (Int.toNat w0_5) (List.take (Int.toNat (Nat.cast (List.length a0):Int)) a0)))
         else none
        else none
       else none
      else none
     else none
    else none
   else bif (((decide ((0:Int)<=(0:Int)))&&(decide ((0:Int)<=w0_5)))&&(decide (w0_5<=(Nat.cast (List.length a0):Int))))then bif (decide (((List.length ([]:List (Int)))+(List.length (List.drop (Int.toNat (0:Int)) (List.take (Int.toNat w0_5) a0))))<=(1000000000:Nat)))then bif (decide (((List.length (([]:List (Int))++(List.drop (Int.toNat (0:Int)) (List.take (Int.toNat w0_5) a0))))+(List.length (List.cons a1 ([]:List (Int)))))<=(1000000000:Nat)))then bif (((decide ((0:Int)<=w0_5))&&(decide (w0_5<=(Nat.cast (List.length a0):Int))))&&(decide ((Nat.cast (List.length a0):Int)<=(Nat.cast (List.length a0):Int))))then bif (decide (((List.length ((([]:List (Int))++(List.drop (Int.toNat (0:Int)) (List.take (Int.toNat w0_5) a0)))++(List.cons a1 ([]:List (Int)))))+(List.length (List.drop (Int.toNat w0_5) (List.take (Int.toNat (Nat.cast (List.length a0):Int)) a0))))<=(1000000000:Nat)))then some (((([]:List (Int))++(List.drop (Int.toNat (0:Int)) (List.take (Int.toNat w0_5) a0)))++(List.cons a1 ([]:List (Int))))++(List.drop (Int.toNat w0_5) (List.take (Int.toNat (Nat.cast (List.length a0):Int)) a0)))
       else none
      else none
     else none
    else none
   else none)
 have hin0:∀ (v0_5:Int),cE prog yB L f77 0 [1,1,0,0,0] (cW (bI prog f77) (cA prog yB L f77 [1,1,0] (bI prog f77)).n (cA prog yB L f77 [1,1,0] (bI prog f77)).x) L (S77_0 a0 a1 v0_5)=(aAn L a0 a1 L v0_5 K'0).map n77:=λv0_5=>aLC L a0 a1 _ _ K'0 (λw0_5=>by
  rw[aPk];simp only[K'0];by_cases h1:w0_5 < (Nat.cast (List.length a0):Int)
  ·by_cases h2:(0:Int)<=w0_5
   ·rw[hno w0_5.toNat (by omega)];simp only[cond_false,aU,aS,aT,aD,aE]
   ·rw[df h2];simp only[jI,cond_false,aU,aS,aT,aD,aE]
  ·rw[df h1];simp only[cond_false,aU,aS,aT,aD,aE]) L v0_5
 rw[i77];simp only[g77,aU,aS,aT,aD,aE,hin0,K'0]
def jC (x:List Int×Int):Option LI:=if x.1.length<=1000/\iY x.1 x.2=false then some (x.1.take (jM x.1 x.2)++[x.2]++x.1.drop (jM x.1 x.2))else none
theorem p77 (L:Nat)(a:List Int)(y:Int)(ha:a.length<=1000)(k:Int->Option LI):∀ (n i:Nat),i<=jM a y->jM a y < n+i->aAn L a y n i k=k (jM a y)
 | 0,i,h1,h2=>by omega
 | n+1,i,h1,h2=>by
  have hle:jM a y<=a.length:=lF _ a;unfold aAn;by_cases hi:i < jM a y
  ·have h3:=mF (λb:Int=>decide (b < y)) 0 a i hi;rw[dt (show(i:Int) < (a.length:Int)by omega),dt (show(0:Int)<=(i:Int)by omega),bO,cond_true,cond_true,aV,h3,cond_true,wi (by omega) (by omega),show((i:Int)+1)=((i+1:Nat):Int)by omega];exact p77 L a y ha k n (i+1) (by omega) (by omega)
  ·obtain rfl:i=jM a y:=by omega
   by_cases hl:jM a y < a.length
   ·have h3:=wB (λb:Int=>decide (b < y)) 0 a hl;rw[dt (show(jM a y:Int) < (a.length:Int)by omega),dt (show(0:Int)<=(jM a y:Int)by omega),bO,cond_true,cond_true,aV,show decide (a.getD (jM a y) 0 < y)=false from h3,cond_false]
   ·rw[df (show ¬ (jM a y:Int) < (a.length:Int)by omega),cond_false]
theorem aP2:Sat prog cxT 77 (c77 jC):=vR bZ bV (by rfl) (fn:=f77) rfl λxs r h=>by
 obtain⟨⟨a,y⟩,t,rfl,hx,rfl⟩:=sG h;unfold jC at hx;split at hx
 ·rename_i hc;obtain⟨ha,hn⟩:=hc;simp only at ha hn hx;have hno:∀ i,i < a.length->(a.getD i (0:Int) == y)=false:=λi hi=>by
   refine gX.2 λhh=>?_
   have:iY a y=true:=eN.2 ⟨_,eG 0 hi,hh⟩;rw[hn]at this;cases this
  have hle:jM a y<=a.length:=lF _ a;cases hx;refine⟨yB,a.length+1,bU,bP,?_,.inl rfl⟩;rw[e77 _ a y hno]
  suffices hg:g77 (a.length+1) a y=some (a.take (jM a y)++[y]++a.drop (jM a y))by rw[hg];rfl
  unfold g77;rw[show((0:Int))=((0:Nat):Int) from rfl,p77 _ a y ha _ (a.length+1) 0 (by omega) (by omega)];have e1:(a.take (jM a y)).length=jM a y:=by rw[bA];omega
  have e2:(a.drop (jM a y)).length=a.length-jM a y:=bL;by_cases hl:jM a y < a.length
  ·have:=hno _ hl;simp[hl,this,e1,e2,show jM a y<=a.length from hle];rw[fT 0 hl]at this;rw[this,cond_false,dt (show jM a y<=1000000000 by omega),dt (show jM a y<=999999999 by omega),dt (show jM a y+1+(a.length-jM a y)<=1000000000 by omega)]
   rfl
  ·have he:jM a y=a.length:=by omega
   simp[hl,e1,e2,he];rw[dt (show a.length<=1000000000 by omega),dt (show a.length<=999999999 by omega)]
   rfl
 ·cases hx
theorem p76 (L:Nat)(a:List Int)(y:Int)(ha:a.length<=iU):∀ (n i:Nat),i<=a.length->a.length < n+i->aAo L a y n i (some false)=some ((a.drop i).any (· == y))
 | 0,i,h2,h3=>by omega
 | n+1,i,h2,h3=>by
  unfold aAo;unfold iU at ha;by_cases hi:i < a.length
  ·rw[dt (show(i:Int) < (a.length:Int)by omega),dt (show(0:Int)<=(i:Int)by omega),bO,cond_true,cond_true,aV,dE hi,mM,fT 0 hi];cases he:(a[i] == y)
   ·rw[cond_false,wi (by omega) (by omega),show((i:Int)+1)=((i+1:Nat):Int)by omega,p76 L a y ha n (i+1) (by omega) (by omega),pU]
   ·rfl
  ·rw[df (show ¬ (i:Int) < (a.length:Int)by omega),cond_false,cM (by omega)]
   rfl
def fP (x:List Int×Int):Option Bool:=if x.1.length<=iU then some (iY x.1 x.2)else none
theorem aKN:Sat prog cxT 76 (c76 fP):=s76 fP λx t h=>by
 obtain⟨ns,y⟩:=x;unfold fP at h;split at h
 ·rename_i hc;cases h;exact⟨ns.length+1,(p76 _ ns y hc (ns.length+1) 0 (by omega) (by omega)).trans (by rw[gH];rfl)⟩
 ·cases h
theorem p78 (L:Nat)(c:Cg)(y:Int)(hc:okC c):∀ (n i:Nat),i<=c.2.2.length->c.2.2.length < n+i->aAm fP L c y n i (some false)=some ((c.2.2.drop i).any λv=>iY v.2.2.2 y)
 | 0,i,h2,h3=>by omega
 | n+1,i,h2,h3=>by
  unfold aAm;obtain⟨_,h4,h5⟩:=hc;unfold iU at h4;by_cases hi:i < c.2.2.length
  ·rw[dt (show(i:Int) < (c.2.2.length:Int)by omega),dt (show(0:Int)<=(i:Int)by omega),bO,cond_true,cond_true,aV,show(ZV:Vp)=eJ from rfl];rw[show fP ((c.2.2.getD i eJ).2.2.2,y)=some (iY (c.2.2.getD i eJ).2.2.2 y) from if_pos (h5 _ (eG eJ hi)),bT,dE hi,mM,<-fT eJ hi];cases he:iY (c.2.2.getD i eJ).2.2.2 y
   ·rw[cond_false,wi (by omega) (by omega),show((i:Int)+1)=((i+1:Nat):Int)by omega,p78 L c y ⟨by assumption,by unfold iU;omega,h5⟩ n (i+1) (by omega) (by omega),pU]
   ·rfl
  ·rw[df (show ¬ (i:Int) < (c.2.2.length:Int)by omega),cond_false,cM (by omega)]
   rfl
def oQ (x:Cg×Int):Option Bool:=if okC x.1 then some (x.1.2.2.any λv=>iY v.2.2.2 x.2)else none
theorem aP1:Sat prog cxT 78 (c78 oQ):=s78 fP aKN oQ λx t h=>by
 obtain⟨c,y⟩:=x;unfold oQ at h;split at h
 ·rename_i hc;cases h;exact⟨c.2.2.length+1,(p78 _ c y hc (c.2.2.length+1) 0 (by omega) (by omega)).trans (by rw[gH])⟩
 ·cases h
theorem p75 (L:Nat)(c:Cg)(b0 b1 b2 b3 b4 b5:Int)(kd ex nm ad nu pr:Int)(hc:c.2.2.length<=iU):∀ (n i:Nat),i<=c.2.2.length->c.2.2.length < n+i->uV L c b0 b1 b2 b3 b4 b5 n kd ex nm ad nu pr i (some (-1))=some (idx (λv:Vp=>wD v ad nu pr) (c.2.2.drop i) i)
 | 0,i,h2,h3=>by omega
 | n+1,i,h2,h3=>by
  unfold uV;unfold iU at hc;by_cases hi:i < c.2.2.length
  ·rw[dt (show(i:Int) < (c.2.2.length:Int)by omega),dt (show(0:Int)<=(i:Int)by omega),bO,cond_true,cond_true,aV,show(ZV:Vp)=eJ from rfl];rw[dE hi,rC,<-fT eJ hi,wi (by omega) (by omega),show((i:Int)+1)=((i+1:Nat):Int)by omega,p75 L c b0 b1 b2 b3 b4 b5 kd ex nm ad nu pr hc n (i+1) (by omega) (by omega)];unfold wD;cases h6:((c.2.2.getD i eJ).1 == ad)<;>cases h7:((c.2.2.getD i eJ).2.1 == nu)<;>cases h8:((c.2.2.getD i eJ).2.2.1 == pr)<;>rfl
  ·rw[df (show ¬ (i:Int) < (c.2.2.length:Int)by omega),cond_false,cM (by omega)]
   rfl
def jG (x:Cg×Cm):Option Int:=if x.1.2.2.length<=iU then some (atV x.1.2.2 x.2.2.2.2.1 x.2.2.2.2.2.1 x.2.2.2.2.2.2)else none
theorem aKO:Sat prog cxT 75 (c75 jG):=s75 jG λx t h=>by
 obtain⟨c,kd,ex,nm,ad,nu,pr⟩:=x;unfold jG at h;split at h
 ·rename_i hc;cases h;exact⟨c.2.2.length+1,(p75 _ c _ _ _ _ _ _ _ _ _ _ _ _ hc (c.2.2.length+1) 0 (by omega) (by omega)).trans (by rw[gH];rfl)⟩
 ·cases h
end Go.Proofs.Tryz
