/- A part of the proof of FnExactApplyCmd: LpOg, LpPm, LpPn, LpPo, LpTop. -/
import Derived.Test.YtfncedbejffggaaGreatLpKj
import Derived.Test.YtfncedbejffggaaGreatVmPl
import Derived.Test.YtfncedbejffggaaGreatVmJ
set_option linter.unusedSimpArgs false
set_option linter.unusedVariables false
set_option maxHeartbeats 0
namespace Go.Proofs.Tryz
open Go Go.VM Go.RowKit
theorem aTD {W:World}{v:Vp}{s:Value}(ad nu pr:Int)(h:W.ownsRow 0 2 1 s v.2.2.2.length (tR v.2.2.2)) :
  Calls prog 73 #[.agg #[.int .i64 v.1,.int .i64 v.2.1,.int .i64 v.2.2.1,s],.agg #[.int .i64 ad,.int .i64 nu,.int .i64 pr,.slice none 0 0]] W λe W'=>e=.returned (.bool (rM v (ad,nu,pr,[])))/\Below W.heap.size W W':=by
 have r1:=OwnL.rep bZ (S:=λb=>b < W.heap.size) 1 _ _ _ (rA h) (λb hb=>gA h (by simpa using hb));have h0:W.ownsRow 0 2 1 (.slice none 0 0) ([]:List Int).length (tR []):=World.ownsRow_nil W 0 2 1;have r2:=OwnL.rep bZ (S:=λb=>b < W.heap.size) 1 _ _ _ (rA h0) (λb hb=>by simp[Value.ownBlock]at hb);refine(aHH W (λb=>b < W.heap.size) (a73.enc (v,(ad,nu,pr,[]))) [.agg #[.int .i64 v.1,.int .i64 v.2.1,.int .i64 v.2.2.1,s],.agg #[.int .i64 ad,.int .i64 nu,.int .i64 pr,.slice none 0 0]] (n73 (rM v (ad,nu,pr,[]))) (λb hb=>hb) ⟨rfl,λj a u h1 h2=>?_⟩ ?_).mono ?_
 ·match j with
  | 0=>
   cases h1;cases h2;refine⟨[_,_,_,_],rfl,rfl,λj a u h1 h2=>?_⟩
   match j with
   | 0=>cases h1;cases h2;rfl
   | 1=>cases h1;cases h2;rfl
   | 2=>cases h1;cases h2;rfl
   | 3=>cases h1;cases h2;exact⟨rfl,1,r1⟩
   | j+4=>simp at h2
  | 1=>
   cases h1;cases h2;refine⟨[_,_,_,_],rfl,rfl,λj a u h1 h2=>?_⟩
   match j with
   | 0=>cases h1;cases h2;rfl
   | 1=>cases h1;cases h2;rfl
   | 2=>cases h1;cases h2;rfl
   | 3=>cases h1;cases h2;exact⟨rfl,1,r2⟩
   | j+4=>simp at h2
  | j+2=>simp at h2
 ·show((a73.dec (a73.enc (v,(ad,nu,pr,[])))).map λx=>((fH x).isSome,n73 ((fH x).getD aNN)))=_;rw[show a73.dec (a73.enc (v,(ad,nu,pr,[])))=some (v,(ad,nu,pr,[])) from rfl]
  rfl
 ·rintro e W' ⟨u,rfl,hbw,hres⟩;rw[uR (v:=.bool (rM v (ad,nu,pr,[]))) hres];exact⟨rfl,hbw⟩
theorem aG2 (ss:List Value)(p q:Nat)(h:p<=q):((ss.take p++ss.drop q).flatMap ob).Sublist (ss.flatMap ob):=by
 refine uI ob ?_;have h1:(ss.drop q).Sublist (ss.drop p):=by
  have:ss.drop q=(ss.drop p).drop (q-p):=by rw[tE];congr 1;omega
  rw[this];exact List.drop_sublist _ _
 have:=(dX (ss.take p)).append h1
 rwa [dH]at this
theorem aRt {s1 s2:Value}{ss:List Value}(h:(jY s1 s2 ss).Nodup):(ob s1++ss.flatMap ob).Nodup:=by
 unfold jY at h;refine List.Sublist.nodup ?_ h;exact(dX _).append (fI _ _)
set_option maxRecDepth 100000 in
theorem aTO {w:World}{g:Nat}{c:Cg}{s1 s2:Value}{ss:List Value}{t:TypeId}{x:Cm}{r:Int}{c':Cg}(h:Hold w g c s1 s2 ss t)(hm:qH (c,x)=some (r,c'))(hk:x.1=5\/x.1=6) :
  Calls prog 41 #[.pointer (some ⟨g,0,none⟩),.agg (cV x).toArray] w λe w'=>e=.returned (.int .i64 r)/\∃ s1' s2' ss' t',Hold w' g c' s1' s2' ss' t' ∧
   Kept (λb=>w.heap.size<=b\/b∈jY s1 s2 ss\/b=g) w w'/\∀ b∈jY s1' s2' ss',w.heap.size<=b\/b∈jY s1 s2 ss:=by
 obtain⟨a,bs,vs⟩:=c;obtain⟨kd,ex,nm,ad,nu,pr⟩:=x;unfold qH at hm;split at hm
 case isFalse=>cases hm
 rename_i hc;obtain⟨hok,hoc⟩:=hc;obtain⟨hr,hl,hrv,hlv,hin⟩:=id hok;simp only at hr hl hrv hlv hin hk hm;obtain⟨q,cap,e1⟩:=eS h.r1;obtain⟨q2,cap2,e2⟩:=eS h.r2;subst e1;subst e2;simp only at h;have hinn:=h.inn;have h1us:∀ u∈kJ vs ss,u.oneCell'=true:=aCe hinn;have hbig:vs.length<=iU:=by unfold iU;omega
 have hAt:iQ vs ad nu pr=false->atV vs ad nu pr=-1:=λe=>aAC _ _ e
 have hback:∀ W,Below w.heap.size w W->∃ s1' s2' ss' t',Hold W g (a,bs,vs) s1' s2' ss' t' ∧
   Kept (λb=>w.heap.size<=b\/b∈jY (.slice q bs.length cap) (.slice q2 vs.length cap2) ss\/b=g) w W/\∀ b∈jY s1' s2' ss',w.heap.size<=b\/b∈jY (.slice q bs.length cap) (.slice q2 vs.length cap2) ss:=λW hW=>
  ⟨_,_,_,_,nP h hW,gF hW (λb hb=>.inl hb),λb hb=>.inr hb⟩
 rcases hk with rfl | rfl
 ·
  rw[if_pos rfl]at hm;unfold m60 at hm;rw[if_pos hok]at hm;simp only at hm;have hle:=aEM vs (ad,nu,pr,[]);refine aH7 g t a ex nm ad nu pr (atV vs ad nu pr) q q2 bs.length cap vs.length cap2 (lE vs (ad,nu,pr,[])) (kJ vs ss) w h.box (by omega) hle (λW hW=>aMg (x:=(5,ex,nm,ad,nu,pr)) (nP h hW) hbig) h.r2 h1us (λb hb=>h.ne b (aDS hb)) ?_ _ ?_ ?_ ?_
  ·intro i hi;have hv:=uE;rcases h.r2.2 with⟨h0,h00⟩ | ⟨gv,cp,cur,h0,_,hgv,_,_,_,htk⟩
   ·simp only at h00;omega
   ·cases h0;have hcell:∀ j,j < 4->∀ u,(vpC (vs.getD i eJ) (ss.getD i undef))[j]?=some u->w.cell? ⟨gv,i * 4+j,none⟩=some u:=λj hj u hu=>
     (cell_of_row _ _ _ _ 76 (0,0) hgv).trans (uA htk ((uE j hj vs ss i hinn.1 hi).trans hu))
    refine⟨gv,(vs.getD i eJ).1,(vs.getD i eJ).2.1,(vs.getD i eJ).2.2.1,ss.getD i undef,rfl,(aL.1 hgv).1,hcell 0 (by omega) _ rfl,hcell 1 (by omega) _ rfl,hcell 2 (by omega) _ rfl,hcell 3 (by omega) _ rfl,rM (vs.getD i eJ) (ad,nu,pr,[]),⟨λhb=>?_,λhlt=>mF (λb:Vp=>rM b (ad,nu,pr,[])) eJ vs i hlt⟩,λ_ W hW=>aTD ad nu pr (rB (nP h hW).inn hi)⟩;rcases eR i (lE vs (ad,nu,pr,[]))with h5 | h5
    ·exact h5
    ·rw[vS hrv h5 hi]at hb;cases hb
  ·intro h0 W hW;have hhas:iQ vs ad nu pr=true:=by
    cases hh:iQ vs ad nu pr
    ·have:=hAt hh;omega
    ·rfl
   rw[if_pos hhas]at hm;cases hm;exact⟨rfl,hback W hW⟩
  ·intro h0 h4 W hW;have hhas:¬ iQ vs ad nu pr=true:=λhh=>by
    have:=aA4 hrv hh;omega
   rw[if_neg hhas,if_pos (show vs.length=4 by omega)]at hm;cases hm;exact⟨rfl,hback W hW⟩
  ·intro h0 h4 W b cp hW hb hrow;have hhas:¬ iQ vs ad nu pr=true:=λhh=>by
    have:=aA4 hrv hh;omega
   rw[if_neg hhas,if_neg (show ¬ vs.length=4 by omega)]at hm;cases hm
   generalize lE vs (ad,nu,pr,[])=p at hle hrow ⊢
   have hnl:W.ownsRow 0 2 1 (.slice none 0 0) ([]:List Int).length (tR []):=World.ownsRow_nil W 0 2 1;have hlen:(vs.take p++[(ad,nu,pr,[])]++vs.drop p).length=vs.length+1:=by simp only[aW,bA,bL,cB,dQ];omega
   have hone:Inn w [((ad,nu,pr,[]):Vp)] [.slice none 0 0]:=⟨rfl,λi x s h1 h2=>by
    match i with
    | 0=>cases h1;cases h2;exact World.ownsRow_nil w 0 2 1
    | i+1=>simp at h1⟩
   have hcells:(kJ vs ss).take (p * 4)++[.int .i64 ad,.int .i64 nu,.int .i64 pr,.slice none 0 0]++(kJ vs ss).drop (p * 4)=kJ (vs.take p++[(ad,nu,pr,[])]++vs.drop p) (ss.take p++[.slice none 0 0]++ss.drop p):=by
    rw[lN ((hinn.take p).append hone).1,lN (hinn.take p).1,uF,uG]
    rfl
   have hfl:(ss.take p++[Value.slice none 0 0]++ss.drop p).flatMap ob=(ss.take p++ss.drop p).flatMap ob:=by
    rw[bE,bE,show[Value.slice none 0 0].flatMap ob=[] from rfl,dR,<-bE]
   have hres:=aK5 (vs':=vs.take p++[(ad,nu,pr,[])]++vs.drop p) (ss':=ss.take p++[.slice none 0 0]++ss.drop p) (b:=b) (cp:=cp) h hW hb (by rw[hlen,<-hcells];exact hrow) (((hinn.take p).append hone).append (hinn.drop p)) (by rw[hfl,dH];exact λx hx=>hx) (by rw[hfl,dH];exact aRt h.nd);rw[hlen]at hres;exact⟨rfl,_,_,_,_,hres⟩
 ·
  rw[if_neg (by decide),if_pos rfl]at hm;unfold m61 at hm;rw[if_pos hok]at hm;simp only at hm;have hhl:∀ (hh:iQ vs ad nu pr=true),atV vs ad nu pr=(lE vs (ad,nu,pr,[]):Int)/\lE vs (ad,nu,pr,[]) < vs.length:=λhh=>⟨aA4 hrv hh,sD hrv hh⟩
  refine aJS g t a ex nm ad nu pr (atV vs ad nu pr) q q2 bs.length cap vs.length cap2 (kJ vs ss) w h.box (by omega) (λW hW=>aMg (x:=(6,ex,nm,ad,nu,pr)) (nP h hW) hbig) ?_ ?_ h.r2 h1us _ ?_ ?_
  ·cases hh:iQ vs ad nu pr
   ·have:=hAt hh;omega
   ·have:=hhl hh;omega
  ·intro h0;cases hh:iQ vs ad nu pr
   ·exact hAt hh
   ·have:=hhl hh;omega
  ·intro h0 W hW;have hhas:¬ iQ vs ad nu pr=true:=λhh=>by
    have:=hhl hh;omega
   rw[if_neg hhas]at hm;cases hm;exact⟨rfl,hback W hW⟩
  ·intro h0 W b cp hW hb hrow;have hhas:iQ vs ad nu pr=true:=by
    cases hh:iQ vs ad nu pr
    ·have:=hAt hh;omega
    ·rfl
   rw[if_pos hhas]at hm;cases hm;obtain⟨hat,hp⟩:=hhl hhas;rw[hat,aV]at hrow
   generalize lE vs (ad,nu,pr,[])=p at hp hrow ⊢
   have hlen:(vs.take p++vs.drop (p+1)).length=vs.length-1:=by rw[aW,bA,bL];omega
   have hcells:(kJ vs ss).take (p * 4)++(kJ vs ss).drop ((p+1) * 4)=kJ (vs.take p++vs.drop (p+1)) (ss.take p++ss.drop (p+1)):=by
    rw[lN (hinn.take p).1,uF,uG]
   have hsub:=aG2 ss p (p+1) (by omega);have hres:=aK5 (vs':=vs.take p++vs.drop (p+1)) (ss':=ss.take p++ss.drop (p+1)) (b:=b) (cp:=cp) h hW hb (by rw[hlen,<-hcells];exact hrow) ((hinn.take p).append (hinn.drop (p+1))) (λx hx=>hsub.subset hx) (((dX _).append hsub).nodup (aRt h.nd));rw[hlen]at hres;exact⟨rfl,_,_,_,_,hres⟩
theorem aQj:SatQ prog cxT 41 (c41 qH).nres (c41 qH).F (c41 qH).bx:=by
 intro w g cur t lc l us fps cs hbox hargs hnd hlt hF;obtain⟨z,r,hz,hm,rfl⟩:=sF hF;obtain⟨c,x⟩:=z;obtain⟨r,c'⟩:=r;by_cases hk:x.1=5\/x.1=6
 ·have hz:lc=[lv (.int .i64 c.1),ls { own:=2,nm:=0,e:=68,o:=true,xs:=c.2.1 },ls { own:=2,nm:=0,e:=76,o:=true,xs:=c.2.2 }]/\l=[.inr ((cV x).map lv)]:=by
   have hz':(.inr lc:A cxT.ty)::l=[.inr [lv (.int .i64 c.1),ls { own:=2,nm:=0,e:=68,o:=true,xs:=c.2.1 },ls { own:=2,nm:=0,e:=76,o:=true,xs:=c.2.2 }],.inr ((cV x).map lv)]:=hz;simp only[rR,Sum.inr.injEq]at hz';exact hz'
  obtain⟨rfl,rfl⟩:=hz;obtain⟨hl1,hl2,hres⟩:=hargs
  match us,fps,hl1,hl2 with
  | [u1],[f0,f1],_,_=>
   obtain⟨us',fps',e,e',q1,q2,q3⟩:=hres 0 _ _ _ rfl rfl rfl;obtain⟨t1,t2,tt,et,o1,o2,o3,o4⟩:=aC7 (W:=w) (c:=c) (us:=cur.toList) (f:=f0) ⟨us',fps',by simpa using e,e',q1,q2,q3⟩;have ecur:cur=#[.int .i64 c.1,t1,t2]:=by
    have:=congrArg List.toArray et;simpa using this
   subst ecur;obtain⟨hu1,hf1⟩:u1=.agg (cV x).toArray/\f1=[]:=by
    obtain⟨us'',fps'',e1,e2,p1,p2,p3⟩:=hres 1 _ _ _ rfl rfl rfl;have hv:us''=cV x:=rU (by simpa using p1) λj v u h1 h2=>by
     have hj:j < fps''.length:=by rw[p2];simpa using(aI.1 h1).1
     exact(p3 j (lv v) u fps''[j] (by rw[aX,h1];rfl) h2 (aC hj)).1
    refine⟨by rw[e1,hv],?_⟩;rw[e2];refine List.flatten_eq_nil_iff.2 λf hf=>?_
    obtain⟨j,hj,rfl⟩:=dL.1 hf;have hj2:j < (cV x).length:=by rw[p2]at hj;simpa using hj
    exact(p3 j (lv (cV x)[j]) us''[j] fps''[j] (by rw[aX,aC hj2];rfl) (aC (by rw[hv];exact hj2)) (aC hj)).2
   subst hu1;subst hf1;subst o4;have hfl:List.flatten [jY t1 t2 tt,[]]=jY t1 t2 tt:=by simp
   rw[hfl]at hnd hlt;have hH:Hold w g c t1 t2 tt t:=⟨hbox,o1,o2,o3,hnd,λb hb=>(hlt b hb).2⟩
   refine(aTO hH hm hk).mono ?_;rintro e w' ⟨rfl,s1',s2',ss',t',hH',hK,hN⟩;refine⟨[.int .i64 r],_,rfl,rfl,⟨t',hH'.box⟩,?_,jY s1' s2' ss',hH'.nd,λb hb=>⟨?_,?_⟩,[.int .i64 r,.agg #[.int .i64 c'.1,s1',s2']],[[],jY s1' s2' ss'],rfl,by simp,rfl,rfl,λj a u f h1 h2 h3=>?_⟩
   ·rw[hfl];exact hK
   ·rw[hfl];exact hN b hb
   ·exact aAD hH' b hb
   ·match j with
    | 0=>cases h1;cases h2;cases h3;exact⟨rfl,rfl⟩
    | 1=>
     cases h1;cases h2;cases h3;refine⟨[.int .i64 c'.1,s1',s2'],[[],ob s1',ob s2'++ss'.flatMap ob],rfl,by simp[jY],rfl,rfl,λj a u f h1 h2 h3=>?_⟩
     match j with
     | 0=>cases h1;cases h2;cases h3;exact⟨rfl,rfl⟩
     | 1=>cases h1;cases h2;cases h3;exact aDc hH'.r1
     | 2=>cases h1;cases h2;cases h3;exact aCf hH'.r2 hH'.inn
     | j+3=>simp at h2
    | j+2=>simp at h2
 ·refine aMx w g cur t lc l us fps _ hbox hargs hnd hlt ?_;have hmn:aCC (c,x)=some (r,c'):=by
   rw[<-hm];unfold aCC qH;have h5:¬ x.1=5:=λe=>hk (.inl e)
   have h6:¬ x.1=6:=λe=>hk (.inr e)
   simp only[if_neg h5,if_neg h6]
  rw[hz];show((a41.dec (a41.enc (c,x))).map λz=>((aCC z).isSome,uC ((aCC z).getD aNO)))=_;rw[show a41.dec (a41.enc (c,x))=some (c,x) from rfl];simp only[aD,hmn,gM,fK]
theorem aVi:Sat prog cxT 5 (c5 m8):=aJC aQj
def mU (x:List Int×Int):Option (Int×List Int):=g68 (x.1.length+1) x.1 x.2
theorem aP6:SatW prog cxT 68 (c68 mU).nres (c68 mU).n (c68 mU).F:=s68 mU λx t h=>⟨_,h⟩
theorem p68 (L:Nat)(a:List Int)(c:Int)(N:Nat)(hN:N<=1000000000000)(K:List Int->Int->Option (Int×List Int)):∀ (n i:Nat) (o:List Int) (q:Int),o.length=N->i<=N->N < n+i->0<=q->q+(N-i:Nat)<=1000000000000000->
  ∃ o',o'.length=N/\pW L a c n o q i K=K o' (q+(N-i:Nat))
 | 0,i,o,q,_,h2,h3,_,_=>by omega
 | n+1,i,o,q,h1,h2,h3,h4,h5=>by
  unfold pW;by_cases hi:i < N
  ·obtain⟨o',k1,k2⟩:=p68 L a c N hN K n (i+1) (o.set i q) (q+1) (by rw[bW];exact h1) (by omega) (by omega) (by omega) (by omega);refine⟨o',k1,?_⟩;rw[dt (show(i:Int) < (o.length:Int)by omega),dt (show(0:Int)<=(i:Int)by omega),bO,cond_true,cond_true,aV,wi (x:=(i:Int)+1) (by omega) (by omega),wi (x:=q+1) (by omega) (by omega)];refine k2.trans ?_;congr 1;omega
  ·refine⟨o,h1,?_⟩;rw[df (show ¬ (i:Int) < (o.length:Int)by omega),cond_false,show N-i=0 by omega];simp
theorem aGP {l:List Int}{q:Int}(hl:l.length<=1000000000000)(h0:0<=q)(h1:q<=100000000000000):∃ l',l'.length=l.length/\mU (l,q)=some (q+(l.length:Int),l'):=by
 obtain⟨o',k1,k2⟩:=p68 (l.length+1) l q l.length hl (λo k=>some (k,o)) (l.length+1) 0 l q rfl (by omega) (by omega) h0 (by omega);exact⟨o',k1,k2⟩
def vO (x:LB×Int):Option (Int×LB):=g27 (x.1.length+1) x.1 x.2
theorem aQs:SatW prog cxT 27 (c27 vO).nres (c27 vO).n (c27 vO).F:=s27 vO λx t h=>⟨_,h⟩
theorem p27 (L:Nat)(a:LB)(c:Int)(N:Nat)(hN:N<=1000000000)(K:LB->Int->Option (Int×LB)):∀ (n i:Nat) (o:LB) (q:Int),o.length=N->i<=N->N < n+i->0<=q->q+5 * (N-i:Nat)<=1000000000000000->
  ∃ o',o'.length=N/\pX L a c n o q i K=K o' (q+5 * (N-i:Nat))
 | 0,i,o,q,_,h2,h3,_,_=>by omega
 | n+1,i,o,q,h1,h2,h3,h4,h5=>by
  unfold pX;by_cases hi:i < N
  ·simp only[aDb,bW];rw[dt (show(i:Int) < (o.length:Int)by omega),dt (show(0:Int)<=(i:Int)by omega),bO];simp only[cond_true];rw[wi (x:=(i:Int)+1) (by omega) (by omega),wi (x:=q+1) (by omega) (by omega),wi (x:=q+1+1) (by omega) (by omega),wi (x:=q+1+1+1) (by omega) (by omega),wi (x:=q+1+1+1+1) (by omega) (by omega),wi (x:=q+1+1+1+1+1) (by omega) (by omega)];refine(p27 L a c N hN K n (i+1) _ (q+1+1+1+1+1) (by simp only[bW];exact h1) (by omega) (by omega) (by omega) (by omega)).imp λo' k=>⟨k.1,k.2.trans ?_⟩
   congr 1;omega
  ·refine⟨o,h1,?_⟩;rw[df (show ¬ (i:Int) < (o.length:Int)by omega),cond_false,show N-i=0 by omega];simp
theorem aIf {l:LB}{q:Int}(hl:l.length<=1000000000)(h0:0<=q)(h1:q<=100000000000000):∃ l',vO (l,q)=some (q+5 * (l.length:Int),l'):=by
 obtain⟨o',k1,k2⟩:=p27 (l.length+1) l q l.length hl (λo k=>some (k,o)) (l.length+1) 0 l q rfl (by omega) (by omega) h0 (by omega);exact⟨o',k2⟩
def vN (x:LV×Int):Option (Int×LV):=g28 mU (x.1.length+1) x.1 x.2
theorem aQr:SatW prog cxT 28 (c28 vN).nres (c28 vN).n (c28 vN).F:=s28 mU aP6 vN λx t h=>⟨_,h⟩
theorem p28 (L:Nat)(a:LV)(c:Int)(N:Nat)(hN:N<=1048576)(K:LV->Int->Option (Int×LV)):∀ (n i:Nat) (o:LV) (q:Int),o.length=N->(∀ v∈o,v.2.2.2.length<=1048576)->i<=N->N < n+i->0<=q->q<=10000000+2000000 * (i:Int)->
  ∃ o' q',0<=q'/\nO mU L a c n o q i K=K o' q'
 | 0,i,o,q,_,_,h2,h3,_,_=>by omega
 | n+1,i,o,q,h1,hv,h2,h3,h4,h5=>by
  unfold nO;by_cases hi:i < N
  ·have hio:i < o.length:=by omega
   simp only[aDb,bW];rw[dt (show(i:Int) < (o.length:Int)by omega),dt (show(0:Int)<=(i:Int)by omega),bO];simp only[cond_true];rw[wi (x:=(i:Int)+1) (by omega) (by omega),wi (x:=q+1) (by omega) (by omega),wi (x:=q+1+1) (by omega) (by omega),wi (x:=q+1+1+1) (by omega) (by omega)];simp only[aV,List.set_set];have eg:∀ x:Vp,(o.set i x).getD i ZV=x:=λx=>by simp[List.getD,eL hio]
   simp only[eg];have hnl:(o.getD i eJ).2.2.2.length<=1048576:=hv _ (eG eJ hio);have hnl':(o.getD i ZV).2.2.2.length<=1048576:=hnl;obtain⟨l',e1,e2⟩:=aGP (l:=(o.getD i ZV).2.2.2) (q:=q+1+1+1) (by omega) (by omega) (by omega);rw[e2,bT];refine p28 L a c N hN K n (i+1) _ _ (by rw[bW];exact h1) (λv hvm=>?_) (by omega) (by omega) (by simp only;omega) (by simp only;omega);rcases List.mem_or_eq_of_mem_set hvm with hvm | rfl
   ·exact hv v hvm
   ·show l'.length<=1048576;rw[e1];exact hnl'
  ·refine⟨o,q,h4,?_⟩;rw[df (show ¬ (i:Int) < (o.length:Int)by omega),cond_false]
theorem aIe {l:LV}{q:Int}(hl:l.length<=1048576)(hv:∀ v∈l,v.2.2.2.length<=1048576)(h0:0<=q)(h1:q<=10000000):∃ l' q',0<=q'/\vN (l,q)=some (q',l'):=by
 obtain⟨o',q',k1,k2⟩:=p28 (l.length+1) l q l.length hl (λo k=>some (k,o)) (l.length+1) 0 l q rfl hv (by omega) (by omega) h0 (by omega);exact⟨o',q',k1,k2⟩
def mV (x:Cg×Int):Option (Int×Cg):=g11 vO vN 0 x.1.1 x.1.2.1 x.1.2.2 x.2
theorem aK0:SatW prog cxT 11 (c11 mV).nres (c11 mV).n (c11 mV).F:=s11 vO vN aQs aQr mV λx t h=>⟨0,h⟩
theorem aIj {c:Cg}(h1:c.2.1.length<=1048576)(h2:c.2.2.length<=1048576)(h3:∀ v∈c.2.2,v.2.2.2.length<=1048576):∃ r:Int×Cg,0<=r.1/\mV (c,1)=some r:=by
 obtain⟨l',e1⟩:=aIf (l:=c.2.1) (q:=1) (by omega) (by omega) (by omega);obtain⟨l2,q',e2,e3⟩:=aIe (l:=c.2.2) (q:=1+5 * (c.2.1.length:Int)) h2 h3 (by omega) (by omega);refine⟨(q',c.1,l',l2),e2,?_⟩;show g11 vO vN 0 c.1 c.2.1 c.2.2 1=_;unfold g11;rw[e1,bT,e3,bT]
def mkI (v:Int):Int:=v
def mkB (v:Int):Bk:=(v,v+1,v+2,v+3,Int.tmod (v+4) 3 == 0)
def wP (x:Vp):Int:=3+(x.2.2.2.length:Int)
def mkP (x:Vp)(v:Int):Vp:=(v,v+1,v+2,mkR mkI 1 x.2.2.2.length (v+3))
theorem aEy (x:Vp):0<=wP x:=by unfold wP;omega
theorem aHm (x:Vp)(v:Int):wP (mkP x v)=wP x:=by unfold wP mkP;simp only[rY]
theorem aMR (x:Vp)(v:Int):mkP (mkP x v) v=mkP x v:=by unfold mkP;simp only[rY]
theorem aWV {l:List Int}{q:Int}(hl:l.length<=1000000000)(h0:0<=q)(h1:q<=100000000000):mU (l,q)=some (q+1 * (l.length:Int),mkR mkI 1 l.length q):=by
 have:=aCA (R:=Int×List Int) mkI 1 1000000000000000 l.length (by omega) (λn o v i K=>pW (l.length+1) l q n o v i K)
  (λn o v i K k1 k2 k3 k4=>by
   show pW _ _ _ (n+1) o v i K=_
   conv=>lhs;unfold pW
   rw[dt (show(i:Int) < (o.length:Int)by omega),dt (show(0:Int)<=(i:Int)by omega),bO,cond_true,cond_true,aV,wi (x:=v+1) (by omega) (by omega),wi (x:=(i:Int)+1) (by omega) (by omega)]
   rfl)
  (λn o v i K k1 k2=>by
   show pW _ _ _ (n+1) o v i K=_
   conv=>lhs;unfold pW
   rw[df (show ¬ (i:Int) < (o.length:Int)by omega),cond_false]) (λo k=>some (k,o)) (l.length+1) 0 l q rfl (by omega) (by omega) h0 (by simp only[gV];omega)
 simp only[List.take_zero,eO,gV]at this;exact this
theorem aWX {l:LB}{q:Int}(hl:l.length<=1000000000)(h0:0<=q)(h1:q<=100000000000):vO (l,q)=some (q+5 * (l.length:Int),mkR mkB 5 l.length q):=by
 have:=aCA (R:=Int×LB) mkB 5 1000000000000000 l.length (by omega) (λn o v i K=>pX (l.length+1) l q n o v i K)
  (λn o v i K k1 k2 k3 k4=>by
   show pX _ _ _ (n+1) o v i K=_
   conv=>lhs;unfold pX
   simp only[aDb,bW];rw[dt (show(i:Int) < (o.length:Int)by omega),dt (show(0:Int)<=(i:Int)by omega),bO];simp only[cond_true];rw[wi (x:=(i:Int)+1) (by omega) (by omega),wi (x:=v+1) (by omega) (by omega),wi (x:=v+1+1) (by omega) (by omega),wi (x:=v+1+1+1) (by omega) (by omega),wi (x:=v+1+1+1+1) (by omega) (by omega),wi (x:=v+1+1+1+1+1) (by omega) (by omega)];simp only[aV,List.set_set];have eg:∀ x:Bk,(o.set i x).getD i ZB=x:=λx=>by simp[List.getD,eL k2]
   simp only[eg];rw[show v+1+1=v+2 by omega,show v+2+1=v+3 by omega,show v+3+1=v+4 by omega,show v+4+1=v+5 by omega]
   rfl)
  (λn o v i K k1 k2=>by
   show pX _ _ _ (n+1) o v i K=_
   conv=>lhs;unfold pX
   rw[df (show ¬ (i:Int) < (o.length:Int)by omega),cond_false]) (λo k=>some (k,o)) (l.length+1) 0 l q rfl (by omega) (by omega) h0 (by simp only[gV];omega)
 simp only[List.take_zero,eO,gV]at this;exact this
theorem aWW {l:LV}{q:Int}(hl:l.length<=1000000)(hv:∀ v∈l,v.2.2.2.length<=1048576)(h0:0<=q)(h1:q+gJ wP l<=10000000000):vN (l,q)=some (q+gJ wP l,wR mkP wP l q):=by
 have:=aDT (R:=Int×LV) eJ mkP wP 10000000000 aEy (λx=>x.2.2.2.length<=1048576) l.length (λn o v i K=>nO mU (l.length+1) l q n o v i K)
  (λn o v i K k1 k2 k3 k4 k5=>by
   show nO _ _ _ _ (n+1) o v i K=_
   conv=>lhs;unfold nO
   simp only[aDb,bW];rw[dt (show(i:Int) < (o.length:Int)by omega),dt (show(0:Int)<=(i:Int)by omega),bO];simp only[cond_true];rw[wi (x:=(i:Int)+1) (by omega) (by omega),wi (x:=v+1) (by omega) (by omega),wi (x:=v+1+1) (by omega) (by omega),wi (x:=v+1+1+1) (by omega) (by omega)];simp only[aV,List.set_set];have eg:∀ x:Vp,(o.set i x).getD i ZV=x:=λx=>by simp[List.getD,eL k2]
   simp only[eg];have k5':(o.getD i ZV).2.2.2.length<=1048576:=k5;rw[aWV (l:=(o.getD i ZV).2.2.2) (q:=v+1+1+1) (by omega) (by omega) (by omega),bT];rw[show v+1+1=v+2 by omega,show v+2+1=v+3 by omega];show nO _ _ _ _ n _ (v+3+1 * ((o.getD i eJ).2.2.2.length:Int)) _ K=nO _ _ _ _ n _ (v+wP (o.getD i eJ)) _ K;rw[show v+3+1 * ((o.getD i eJ).2.2.2.length:Int)=v+wP (o.getD i eJ)by unfold wP;omega]
   rfl)
  (λn o v i K k1 k2=>by
   show nO _ _ _ _ (n+1) o v i K=_
   conv=>lhs;unfold nO
   rw[df (show ¬ (i:Int) < (o.length:Int)by omega),cond_false]) (λo k=>some (k,o)) l [] q (l.length+1) rfl (by omega) h0 h1 hv
 exact this
def nZ (x:List Int×Int):Option Int:=g97 (x.1.length+1) x.1 x.2
theorem aPS:Sat prog cxT 97 (c97 nZ):=s97 nZ λx t h=>⟨_,h⟩
theorem aVK {n:Nat}{q:Int}(hl:n<=1000000000)(h0:0<=q)(h1:q<=100000000000):nZ (mkR mkI 1 n q,q)=some (q+(n:Int)):=by
 have hlen:=rY mkI 1 n q;have:=aCF (R:=Int) 0 mkI 1 1000000000000000 (by omega) n q (λn' v i K=>sV (n+1) (mkR mkI 1 n q) q n' v i K) h0
  (λn' v i K k1 k2 k3 k4=>by
   show sV _ _ _ (n'+1) v i K=_
   conv=>lhs;unfold sV
   rw[hlen,dt (show(i:Int) < (n:Int)by omega),dt (show(0:Int)<=(i:Int)by omega),bO,cond_true,cond_true,aV,k4,aEj (show mkI v=v from rfl),cond_false,wi (x:=v+1) (by omega) (by omega),wi (x:=(i:Int)+1) (by omega) (by omega)]
   rfl)
  (λn' v i K k1=>by
   show sV _ _ _ (n'+1) v i K=_
   conv=>lhs;unfold sV
   rw[hlen,df (show ¬ (i:Int) < (n:Int)by omega),cond_false]) (by omega) (λk=>some k) (n+1) 0 (by omega) (by omega)
 simp only[Int.natCast_zero,Int.mul_zero,rS,Int.one_mul]at this;unfold nZ g97;simp only[hlen];exact this
def m69 (x:LB×Int):Option Int:=g69 (x.1.length+1) x.1 x.2
theorem aP5:Sat prog cxT 69 (c69 m69):=s69 m69 λx t h=>⟨_,h⟩
theorem aXy (b:Bool):(!(b == b))=false:=by cases b<;>rfl
theorem aVM {n:Nat}{q:Int}(hl:n<=1000000000)(h0:0<=q)(h1:q<=100000000000):m69 (mkR mkB 5 n q,q)=some (q+5 * (n:Int)):=by
 have hlen:=rY mkB 5 n q;have:=aCF (R:=Int) jW mkB 5 1000000000000000 (by omega) n q (λn' v i K=>sX (n+1) (mkR mkB 5 n q) q n' v i K) h0
  (λn' v i K k1 k2 k3 k4=>by
   show sX _ _ _ (n'+1) v i K=_
   conv=>lhs;unfold sX
   rw[show(ZB:Bk)=jW from rfl];rw[hlen,dt (show(i:Int) < (n:Int)by omega),dt (show(0:Int)<=(i:Int)by omega),bO];simp only[cond_true,aV,k4];rw[wi (x:=(i:Int)+1) (by omega) (by omega),wi (x:=v+1) (by omega) (by omega),wi (x:=v+1+1) (by omega) (by omega),wi (x:=v+1+1+1) (by omega) (by omega),wi (x:=v+1+1+1+1) (by omega) (by omega),wi (x:=v+1+1+1+1+1) (by omega) (by omega)];rw[show v+1+1=v+2 by omega,show v+2+1=v+3 by omega,show v+3+1=v+4 by omega,show v+4+1=v+5 by omega];unfold mkB;simp only[bne_self_eq_false,cond_false,aXy]
   rfl)
  (λn' v i K k1=>by
   show sX _ _ _ (n'+1) v i K=_
   conv=>lhs;unfold sX
   rw[hlen,df (show ¬ (i:Int) < (n:Int)by omega),cond_false]) (by omega) (λk=>some k) (n+1) 0 (by omega) (by omega)
 simp only[Int.natCast_zero,Int.mul_zero,rS]at this;unfold m69 g69;simp only[hlen];exact this
def m70 (x:LV×Int):Option Int:=g70 nZ (x.1.length+1) x.1 x.2
theorem aP4:Sat prog cxT 70 (c70 m70):=s70 nZ aPS m70 λx t h=>⟨_,h⟩
theorem aVL {l:LV}{q:Int}(hl:l.length<=1000000)(hv:∀ v∈l,v.2.2.2.length<=1048576)(h0:0<=q)(h1:q+gJ wP l<=10000000000):m70 (wR mkP wP l q,q)=some (q+gJ wP l):=by
 have hlen:=aFZ mkP wP l q;have hsum:=aFX aHm l q;have:=aDY (R:=Int) eJ mkP wP 10000000000 aEy aHm (λx=>x.2.2.2.length<=1048576) (wR mkP wP l q) (λn v i K=>sW nZ (l.length+1) (wR mkP wP l q) q n v i K)
  (λn v i K k1 k2 k3 k4 k5=>by
   rw[hlen]at k1;show sW _ _ _ _ (n+1) v i K=_
   conv=>lhs;unfold sW
   rw[show(ZV:Vp)=eJ from rfl];rw[hlen,dt (show(i:Int) < (l.length:Int)by omega),dt (show(0:Int)<=(i:Int)by omega),bO];simp only[cond_true,aV]
   generalize (wR mkP wP l q).getD i eJ=x at k4 k5 ⊢
   have e1:x.1=v:=congrArg (·.1) k5;have e2:x.2.1=v+1:=congrArg (·.2.1) k5;have e3:x.2.2.1=v+2:=congrArg (·.2.2.1) k5;have e4:x.2.2.2=mkR mkI 1 x.2.2.2.length (v+3):=congrArg (·.2.2.2) k5;have e5:nZ (x.2.2.2,v+3)=some (v+3+(x.2.2.2.length:Int)):=by
    have:=aVK (n:=x.2.2.2.length) (q:=v+3) (by omega) (by omega) (by omega);rw[<-e4]at this;exact this
   rw[wi (x:=(i:Int)+1) (by omega) (by omega),wi (x:=v+1) (by omega) (by omega),wi (x:=v+1+1) (by omega) (by omega),wi (x:=v+1+1+1) (by omega) (by omega)];rw[show v+1+1=v+2 by omega,show v+2+1=v+3 by omega,e5,bT,e1,e2,e3,df (show ¬ v+3+(x.2.2.2.length:Int) < 0 by omega)];simp only[bne_self_eq_false,cond_false];rw[show v+3+(x.2.2.2.length:Int)=v+wP x by unfold wP;omega]
   rfl)
  (λn v i K k1=>by
   rw[hlen]at k1;show sW _ _ _ _ (n+1) v i K=_
   conv=>lhs;unfold sW
   rw[hlen,df (show ¬ (i:Int) < (l.length:Int)by omega),cond_false]) (λk=>some k) (wR mkP wP l q) [] q (l.length+1) rfl (by rw[hlen];omega) h0 (by rw[hsum];exact h1)
  (λx hx=>by
   obtain⟨y,hy,v,rfl⟩:=aFY hx;show(mkR mkI 1 y.2.2.2.length (v+3)).length<=1048576;rw[rY];exact hv y hy) (aId aHm aMR l q).symm
 rw[hsum]at this;unfold m70 g70;simp only[hlen];exact this
def m29 (x:Cg×Int):Option Int:=g29 m69 m70 0 x.1.1 x.1.2.1 x.1.2.2 x.2
theorem aQq:Sat prog cxT 29 (c29 m29):=s29 m69 m70 aP5 aP4 m29 λx t h=>⟨0,h⟩
abbrev Cr:=Int×Cg
def xO (x:Cr×Int):Option (Int×Cr):=g12 mV 0 x.1.1 x.1.2.1 x.1.2.2.1 x.1.2.2.2 x.2
theorem aQG:SatW prog cxT 12 (c12 xO).nres (c12 xO).n (c12 xO).F:=s12 mV aK0 xO λx t h=>⟨0,h⟩
def m13 (x:Cr×Int):Option Int:=g13 m29 0 x.1.1 x.1.2.1 x.1.2.2.1 x.1.2.2.2 x.2
theorem aQF:Sat prog cxT 13 (c13 m13):=s13 m29 aQq m13 λx t h=>⟨0,h⟩
theorem aJ8 {r:Cr}(h1:r.2.2.1.length<=1000000)(h2:r.2.2.2.length<=1000000)(h3:∀ v∈r.2.2.2,v.2.2.2.length<=1048576)(h4:gJ wP r.2.2.2<=1000000000):∃ k bs' vs',0<=k/\xO (r,1)=some (k,r.1,r.2.1,bs',vs')/\m13 ((r.1,r.2.1,bs',vs'),1)=some k:=by
 obtain⟨a,b,bs,vs⟩:=r;simp only at h1 h2 h3 h4;have hs:0<=gJ wP vs:=iG λx _=>aEy x
 refine⟨1+5 * (bs.length:Int)+gJ wP vs,mkR mkB 5 bs.length 1,wR mkP wP vs (1+5 * (bs.length:Int)),by omega,?_,?_⟩
 ·show g12 mV 0 a b bs vs 1=_;unfold g12 mV;show cZ (g11 vO vN 0 b bs vs 1) _ _=_;unfold g11;rw[aWX (l:=bs) (q:=1) (by omega) (by omega) (by omega),bT];simp only;rw[aWW (l:=vs) (q:=1+5 * (bs.length:Int)) h2 h3 (by omega) (by omega),bT,bT]
 ·show g13 m29 0 a b (mkR mkB 5 bs.length 1) (wR mkP wP vs (1+5 * (bs.length:Int))) 1=_;unfold g13 m29;show cZ (g29 m69 m70 0 b (mkR mkB 5 bs.length 1) (wR mkP wP vs (1+5 * (bs.length:Int))) 1) _ _=_;unfold g29;rw[aVM (n:=bs.length) (q:=1) (by omega) (by omega) (by omega),bT,df (show ¬ 1+5 * (bs.length:Int) < 0 by omega),cond_false,aVL (l:=vs) (q:=1+5 * (bs.length:Int)) h2 h3 (by omega) (by omega),bT,df (show ¬ 1+5 * (bs.length:Int)+gJ wP vs < 0 by omega),cond_false,bT,df (show ¬ 1+5 * (bs.length:Int)+gJ wP vs < 0 by omega),cond_false]
def sml (c:Cg):Prop:=c.2.1.length<=1000/\c.2.2.length<=1000/\∀ v∈c.2.2,v.2.2.2.length<=1000
theorem aGv {c:Cg}(h:ok8 c):sml c:=⟨by have:=h.2.1;omega,by have:=h.2.2.2.1;omega,λv hv=>by have:=(h.2.2.2.2 v hv).2;omega⟩
theorem jL {p:Prop}[Decidable p]{x y:Int×Cg}(h1:p->sml x.2)(h2:¬ p->sml y.2):sml (if p then x else y).2:=by
 split
 ·exact h1 ‹_›
 ·exact h2 ‹_›
theorem mS {p:Prop}[Decidable p]{x w:Int×Cg}(hx:sml x.2)(h:(if p then some x else none)=some w):sml w.2:=by
 split at h
 ·cases h;exact hx
 ·cases h
theorem aHz {a:Int}{c:Cg}{bs:LB}(h:ok8 c)(hb:bs.length<=100):sml (a,bs,c.2.2):=⟨by simp only;omega,(aGv h).2.1,(aGv h).2.2⟩
theorem aKK {a:Int}{c:Cg}{p:Nat}{ns:List Int}(h:ok8 c)(hn:ns.length<=1000):sml (a,c.2.1,aGA c.2.2 p ns):=by
 refine⟨(aGv h).1,by simp only[aGA,bW];exact(aGv h).2.1,λv hv=>?_⟩;rcases List.mem_or_eq_of_mem_set hv with hv | rfl
 ·exact(aGv h).2.2 v hv
 ·exact hn
theorem aDP {c:Cg}(h:ok8 c)(p:Nat):(c.2.2.getD p eJ).2.2.2.length<=99:=by
 by_cases hp:p < c.2.2.length
 ·exact(h.2.2.2.2 _ (eG eJ hp)).2
 ·have:c.2.2.getD p eJ=eJ:=by simp[List.getD,bQ (show c.2.2.length<=p by omega)]
  rw[this];simp[eJ]
theorem aKG {k:Int}{z:Cg×Cm}{r:Int}{c':Cg}(h8:ok8 z.1)(h:apK k z=some (r,c')):sml c':=by
 have h0:=aGv h8;have hl:=h8.2.1;have hlv:=h8.2.2.2.1;have hT:∀ u,apT u z=some (r,c')->sml c':=λu h=>by
  unfold apT at h;exact mS (w:=(r,c')) (jL (λ_=>aHz (c:=z.1) h8 (by rw[bW];omega)) λ_=>h0) h
 unfold apK at h;split at h
 ·unfold m53 at h;exact mS (w:=(r,c')) (jL (λ_=>h0) λ_=>jL (λ_=>h0) λ_=>aHz (c:=z.1) h8 (by simp only[aW,bA,bL,cB,dQ];omega)) h
 split at h
 ·exact hT _ h
 split at h
 ·exact hT _ h
 split at h
 ·unfold m57 at h;exact mS (w:=(r,c')) (jL (λ_=>jL (λ_=>jL (λ_=>h0) λ_=>aHz (c:=z.1) h8 (by simp only[aW,bA,bL];omega)) λ_=>h0) λ_=>h0) h
 split at h
 ·unfold m60 at h;refine mS (w:=(r,c')) (jL (λ_=>h0) λ_=>jL (λ_=>h0) λ_=>⟨h0.1,by simp only[aW,bA,bL,cB,dQ];omega,λv hv=>?_⟩) h;rcases aA.1 hv with hv | hv
  ·rcases aA.1 hv with hv | hv
   ·exact h0.2.2 v (eB hv)
   ·obtain rfl:v=_:=by simpa using hv
    simp
  ·exact h0.2.2 v (cC hv)
 split at h
 ·unfold m61 at h;refine mS (w:=(r,c')) (jL (λ_=>⟨h0.1,by simp only[aW,bA,bL];omega,λv hv=>?_⟩) λ_=>h0) h;rcases aA.1 hv with hv | hv
  ·exact h0.2.2 v (eB hv)
  ·exact h0.2.2 v (cC hv)
 split at h
 ·unfold m62 at h;have:=aDP h8 (yX z.1.2.2 z.2);exact mS (w:=(r,c')) (jL (λ_=>jL (λ_=>jL (λ_=>h0) λ_=>aKK (c:=z.1) h8 (by simp only[aW,bA,bL,cB,dQ];omega)) λ_=>h0) λ_=>h0) h
 split at h
 ·unfold m63 at h;have:=aDP h8 (yX z.1.2.2 z.2);exact mS (w:=(r,c')) (jL (λ_=>jL (λ_=>aKK (c:=z.1) h8 (by simp only[aW,bA,bL];omega)) λ_=>h0) λ_=>h0) h
 ·exact hT _ h
theorem aKH (z:Cg×Cm):sml (ap8 z).2:=by
 have he:∀ (k v:Int),sml ((k,v,[],[]):Int×Cg).2:=λk v=>⟨by simp,by simp,λv hv=>by simp at hv⟩
 unfold ap8;split
 ·exact he _ _
 ·rename_i h0;split
  ·exact he _ _
  ·split
   ·exact he _ _
   ·split
    ·exact he _ _
    ·split
     ·rename_i r c' hm;split
      ·have:=aKG (aCw (by simpa using h0)).1 hm;exact⟨this.1,this.2.1,this.2.2⟩
      ·exact he _ _
     ·exact he _ _
theorem aMp {l:LV}(h:∀ v∈l,v.2.2.2.length<=1000):gJ wP l<=1003 * (l.length:Int):=by
 induction l with
 | nil=>simp[gJ]
 | cons x r ih=>
  have h1:=ih λv hv=>h v (bG _ hv)
  have h2:=h x (bR ..);have h3:wP x<=1003:=by unfold wP;omega
  simp only[gJ,cB];omega
def m7 (x:Cm):Option Cm:=some x
theorem aVg:Sat prog cxT 7 (c7 m7):=s7 m7 λx t h=>by
 cases h;exact⟨0,rfl⟩
def m9 (x:Cr×Cr):Option Bool:=if okC x.1.2 then some (decide (x.1=x.2))else none
theorem aVe:Sat prog cxT 9 (c9 m9):=s9 oK aK1 m9 λx t h=>by
 obtain⟨⟨a,b⟩,c,d⟩:=x;unfold m9 at h;split at h
 ·rename_i hc;cases h;refine⟨0,?_⟩;show g9 oK 0 a b.1 b.2.1 b.2.2 c d.1 d.2.1 d.2.2=some (decide ((a,b)=(c,d)));unfold g9;refine qB (λe1=>?_) (λe h=>by simp at h;exact e h.1);rw[show oK ((b.1,b.2.1,b.2.2),d.1,d.2.1,d.2.2)=some (decide (b=d)) from if_pos hc,bT];subst e1;by_cases e:b=d
  ·subst e;simp
  ·simp[e]
 ·cases h
def m3 (x:Cg×Cm):Option Bool:=if okZ x.1 then some true else none
theorem sat3:Sat prog cxT 3 (c3 m3):=s3 m4 m6 m7 m8 m8 m9 oK mV xO m13 aVj aVh aVg aVi aVf aVe aK1 aK0 aQG aQF m3 λx t h=>by
 obtain⟨⟨a,b,c⟩,kd,ex,nm,ad,nu,pr⟩:=x;unfold m3 at h;split at h
 ·rename_i hz;cases h;refine⟨0,?_⟩;show g3 m4 m6 m7 m8 m8 m9 oK mV xO m13 0 a b c kd ex nm ad nu pr=some true;unfold g3;have eA:List.getD (List.cons ((a,(b,c)):Cg) []) (0:Nat) ((0:Int),([],[]))=(a,b,c):=rfl;simp only[eA];rw[show m4 ((a,b,c),1048576)=some (qF 1048576 (wC (a,b,c))) from if_pos ⟨by simp only;omega,by simp only;omega,hz⟩,bT];by_cases h:qF 1048576 (wC (a,b,c)) < 0
  ·rw[dt h,cond_true]
  ·rw[df h,cond_false];obtain⟨w1,w2,w3⟩:=aHn (c:=(a,b,c)) (by omega);have hM:okM (a,b,c):=⟨by unfold wS;simp only at w1 ⊢;omega,by unfold wS;simp only at w2 ⊢;omega,λv hv=>by have:=w3 v hv;unfold wS;omega⟩
   have hC:okC (a,b,c):=⟨by unfold iU;simp only at w1 ⊢;omega,by unfold iU;simp only at w2 ⊢;omega,λv hv=>by have:=w3 v hv;unfold iU;omega⟩
   obtain⟨r,hr0,hr⟩:=aIj (c:=(a,b,c)) w1 w2 w3;have h8:m8 ((a,b,c),kd,ex,nm,ad,nu,pr)=some (ap8 ((a,b,c),kd,ex,nm,ad,nu,pr)):=if_pos hC;have hs:=aKH ((a,b,c),kd,ex,nm,ad,nu,pr)
   generalize ap8 ((a,b,c),kd,ex,nm,ad,nu,pr)=R at h8 hs
   obtain⟨R0,R1,R2,R3⟩:=R;obtain⟨s1,s2,s3'⟩:=hs;simp only at s1 s2 s3';have h9:m9 ((R0,R1,R2,R3),R0,R1,R2,R3)=some true:=by
    have:m9 ((R0,R1,R2,R3),R0,R1,R2,R3)=some (decide ((R0,R1,R2,R3)=(R0,R1,R2,R3))):=if_pos ⟨by unfold iU;simp only;omega,by unfold iU;simp only;omega,λv hv=>by have:=s3' v hv;unfold iU;omega⟩;rw[this,dt rfl]
   have h10:oK ((a,b,c),a,b,c)=some true:=by
    have:oK ((a,b,c),a,b,c)=some (decide ((a,b,c)=(a,b,c))):=if_pos hC;rw[this,dt rfl]
   obtain⟨k,bs',vs',k0,e12,e13⟩:=aJ8 (r:=(R0,R1,R2,R3)) (by simp only;omega) (by simp only;omega) (λv hv=>by have:=s3' v hv;omega) (by have:=aMp s3';simp only;omega);simp only at e12 e13;have h6:m6 (a,b,c)=some (a,b,c):=if_pos hM;simp only[h6,bT,show m7 (kd,ex,nm,ad,nu,pr)=some (kd,ex,nm,ad,nu,pr) from rfl,h8,h9,h10,hr,e12,e13,eM,cond_false];rw[df (show ¬ r.1 < 0 by omega),df (show ¬ k < 0 by omega),aEj rfl];simp only[cond_false]
 ·cases h
theorem kI:prog.cellsOf 2=1:=by kernel_rfl
theorem aNS:prog.cellsOf 4=1:=by kernel_rfl
theorem aKs:prog.cellsOf 22=1:=by kernel_rfl
theorem aKr:prog.cellsOf 23=1:=by kernel_rfl
theorem aKq:prog.cellsOf 25=3:=by kernel_rfl
theorem aKo:prog.cellsOf 63=1:=by kernel_rfl
theorem aGe:prog.cellsOf 65=4:=by kernel_rfl
theorem aGd:prog.cellsOf 75=5:=by kernel_rfl
def mI (x:Int):Prop:=(Lit.int .i64 x).wf=true
def aDO (x:List Int):Prop:=x.length<=maxLen/\∀ y∈x,mI y
def aMD (xs:List Int):L cxT.ty:=some (.inr (ro 2 xs))
theorem opI:Opens prog cxT 63 (λx:List Int=>[aMD x]) aDO:=
 qO (cx:=cxT) (e:=2) (good:=mI) underlying63 kI (by decide) bZ (gB (cx:=cxT) underlying2)
def aDd (b:Bk):Prop:=mI b.1/\mI b.2.1/\mI b.2.2.1/\mI b.2.2.2.1/\True
set_option maxRecDepth 100000 in
theorem aVw:Opens prog cxT 75 (λb:Bk=>[lv (.int .i64 b.1),lv (.int .i64 b.2.1),lv (.int .i64 b.2.2.1),lv (.int .i64 b.2.2.2.1),lv (.bool b.2.2.2.2)]) aDd:=
 mJ underlying75 aGd (fG (gB underlying2) rfl kI (fG (gB underlying2) rfl kI (fG (gB underlying2) rfl kI (fG (gB underlying2) rfl kI (mT (l:=λx:Bool=>lv (.bool x)) (aEN underlying4) rfl aNS)))))
def aEl (x:LB):Prop:=x.length<=maxLen/\∀ y∈x,aDd y
def aHO (xs:LB):L cxT.ty:=some (.inr (ro 75 xs))
set_option maxRecDepth 100000 in
theorem aRp:Opens prog cxT 22 (λx:LB=>[aHO x]) aEl:=
 qO (cx:=cxT) (e:=75) (good:=aDd) underlying22 aGd (by decide) bZ aVw
def aCg (b:Vp):Prop:=mI b.1/\mI b.2.1/\mI b.2.2.1/\aDO b.2.2.2
set_option maxRecDepth 100000 in
theorem aVv:Opens prog cxT 65 (λb:Vp=>[lv (.int .i64 b.1),lv (.int .i64 b.2.1),lv (.int .i64 b.2.2.1),aMD b.2.2.2]) aCg:=
 mJ underlying65 aGe (fG (gB underlying2) rfl kI (fG (gB underlying2) rfl kI (fG (gB underlying2) rfl kI (mT (l:=aMD) opI rfl aKo))))
def aDs (x:LV):Prop:=x.length<=maxLen/\∀ y∈x,aCg y
def aHP (xs:LV):L cxT.ty:=some (.inr (ro 65 xs))
set_option maxRecDepth 100000 in
theorem aRo:Opens prog cxT 23 (λx:LV=>[aHP x]) aDs:=
 qO (cx:=cxT) (e:=65) (good:=aCg) underlying23 aGe (by decide) bZ aVv
def opC_good (c:Cg):Prop:=mI c.1/\aEl c.2.1/\aDs c.2.2
def encC (c:Cg):List (L cxT.ty):=[lv (.int .i64 c.1),aHO c.2.1,aHP c.2.2]
set_option maxRecDepth 100000 in
theorem opC:Opens prog cxT 25 encC opC_good:=
 mJ underlying25 aKq (fG (gB underlying2) rfl kI (fG (l:=aHO) aRp rfl aKs (mT (l:=aHP) aRo rfl aKr)))
def aKn (x:Cm):Prop:=mI x.1/\mI x.2.1/\mI x.2.2.1/\mI x.2.2.2.1/\mI x.2.2.2.2.1/\mI x.2.2.2.2.2
theorem aKp:prog.cellsOf 27=6:=by kernel_rfl
def encX (x:Cm):List (L cxT.ty):=[lv (.int .i64 x.1),lv (.int .i64 x.2.1),lv (.int .i64 x.2.2.1),lv (.int .i64 x.2.2.2.1),lv (.int .i64 x.2.2.2.2.1),lv (.int .i64 x.2.2.2.2.2)]
def opX_good (x:Cm):Prop:=aKn x
set_option maxRecDepth 100000 in
theorem opX:Opens prog cxT 27 encX opX_good:=
 mJ underlying27 aKp (fG (gB underlying2) rfl kI (fG (gB underlying2) rfl kI (fG (gB underlying2) rfl kI (fG (gB underlying2) rfl kI (fG (gB underlying2) rfl kI (mT (l:=λx:Int=>lv (.int .i64 x)) (gB underlying2) rfl kI))))))
theorem okZ_of {c:Cg}(h:opC_good c):okZ c:=by
 have hm:maxLen<=top:=by decide
 obtain⟨_,⟨h1,_⟩,h2,h3⟩:=h;exact⟨dZ h1 hm,dZ h2 hm,λv hv=>dZ (h3 v hv).2.2.2.1 hm⟩
end Go.Proofs.Tryz
