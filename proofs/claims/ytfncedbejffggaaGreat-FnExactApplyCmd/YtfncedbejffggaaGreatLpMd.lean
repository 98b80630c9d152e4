/- A part of the proof of FnExactApplyCmd: LpMd, LpKd, LpKe, LpMe, LpMf, LpNa, LpNz. -/
import Derived.Test.YtfncedbejffggaaGreatLpQh
import Derived.Test.YtfncedbejffggaaGreatLpJa
import Derived.Test.YtfncedbejffggaaGreatLpJc
import Derived.Deep.Cut
import Derived.Deep.DeepCutAuto
set_option linter.unusedSimpArgs false
set_option linter.unusedVariables false
set_option maxHeartbeats 0
namespace Go.Proofs.Tryz
open Go Go.VM Go.RowKit
theorem aJK {W:World}{S:Nat->Prop}{bs:LB}{u:Value}{f:List Nat}(h:ResL cxT W S (ls { own:=2,nm:=0,e:=68,o:=true,xs:=bs }) u f):W.ownsRow 0 68 5 u bs.length (bs.flatMap oY)/\f=ob u:=by
 obtain⟨_,m,h2⟩:=(show(true=true/\∃ n,OwnL cxT W n (some (.inr { own:=2,nm:=0,e:=68,o:=true,xs:=bs })) u f) from h)
 exact aFQ h2
theorem aJJ {W:World}{S:Nat->Prop}{vs:LV}{u:Value}{f:List Nat}(h:ResL cxT W S (ls { own:=2,nm:=0,e:=76,o:=true,xs:=vs }) u f) :
  ∃ ss,W.ownsRow 0 76 4 u vs.length (kJ vs ss)/\Inn W vs ss/\f=ob u++ss.flatMap ob:=by
 obtain⟨_,m,h2⟩:=(show(true=true/\∃ n,OwnL cxT W n (some (.inr { own:=2,nm:=0,e:=76,o:=true,xs:=vs })) u f) from h)
 obtain⟨ss,h3,h4,h5,h6⟩:=aFN h2;exact⟨ss,h4,⟨h3,h5⟩,h6⟩
theorem aDc {W:World}{S:Nat->Prop}{bs:LB}{u:Value}(h:W.ownsRow 0 68 5 u bs.length (bs.flatMap oY)):ResL cxT W S (ls { own:=2,nm:=0,e:=68,o:=true,xs:=bs }) u (ob u):=
 show(true=true/\∃ n,OwnL cxT W n (some (.inr { own:=2,nm:=0,e:=68,o:=true,xs:=bs })) u (ob u)) from⟨rfl,1,zA h⟩
theorem aCf {W:World}{S:Nat->Prop}{vs:LV}{ss:List Value}{u:Value}(h:W.ownsRow 0 76 4 u vs.length (kJ vs ss))(hi:Inn W vs ss):ResL cxT W S (ls { own:=2,nm:=0,e:=76,o:=true,xs:=vs }) u (ob u++ss.flatMap ob):=
 show(true=true/\∃ n,OwnL cxT W n (some (.inr { own:=2,nm:=0,e:=76,o:=true,xs:=vs })) u (ob u++ss.flatMap ob)) from⟨rfl,2,yT hi.1 h hi.2⟩
theorem aC7 {W:World}{S:Nat->Prop}{c:Cg}{us:List Value}{f:List Nat}(h:∃ us' fps,Value.agg us.toArray=.agg (List.toArray us')/\f=List.flatten fps/\ResLs cxT W S [lv (.int .i64 c.1),ls { own:=2,nm:=0,e:=68,o:=true,xs:=c.2.1 },ls { own:=2,nm:=0,e:=76,o:=true,xs:=c.2.2 }] us' fps) :
  ∃ s1 s2 ss,us=[.int .i64 c.1,s1,s2]/\W.ownsRow 0 68 5 s1 c.2.1.length (c.2.1.flatMap oY)/\W.ownsRow 0 76 4 s2 c.2.2.length (kJ c.2.2 ss)/\Inn W c.2.2 ss/\f=jY s1 s2 ss:=by
 obtain⟨us',fps,e,rfl,h1,h2,h3⟩:=h;have e':us=us':=by simpa using e
 subst e'
 match us,fps,h1,h2,h3 with
 | [u0,u1,u2],[f0,f1,f2],_,_,h3=>
  obtain⟨e0,e0'⟩:=(show u0=.int .i64 c.1/\f0=[] from h3 0 _ _ _ rfl rfl rfl)
  obtain⟨r1,e1⟩:=aJK (h3 1 _ _ _ rfl rfl rfl);obtain⟨ss,r2,i2,e2⟩:=aJJ (h3 2 _ _ _ rfl rfl rfl);subst e0;subst e0';subst e1;subst e2;exact⟨u1,u2,ss,rfl,r1,r2,i2,by simp[jY]⟩
theorem aA6 {f:Nat}{m:Cg×Cm->Option (Int×Cg)}(hs:SatQ prog cxT f 1 (fnW (cx:=cxT) a53 n53 aKm m) none):AppOk f m:=by
 intro w g c s1 s2 ss x r c' h hm;refine(hs w g #[.int .i64 c.1,s1,s2] 32 [lv (.int .i64 c.1),ls { own:=2,nm:=0,e:=68,o:=true,xs:=c.2.1 },ls { own:=2,nm:=0,e:=76,o:=true,xs:=c.2.2 }] [.inr ((cV x).map lv)] [.agg (cV x).toArray] [jY s1 s2 ss,[]] (n53 (r,c')) h.box ⟨rfl,rfl,λj a u f h1 h2 h3=>?_⟩ ?_ ?_ ?_).mono ?_
 ·match j with
  | 0=>
   cases h1;cases h2;cases h3;refine⟨[.int .i64 c.1,s1,s2],[[],ob s1,ob s2++ss.flatMap ob],rfl,by simp[jY],rfl,rfl,λj a u f h1 h2 h3=>?_⟩
   match j with
   | 0=>cases h1;cases h2;cases h3;exact⟨rfl,rfl⟩
   | 1=>cases h1;cases h2;cases h3;exact aDc h.r1
   | 2=>cases h1;cases h2;cases h3;exact aCf h.r2 h.inn
   | j+3=>simp at h2
  | 1=>
   cases h1;cases h2;cases h3;refine⟨cV x,[[],[],[],[],[],[]],rfl,rfl,rfl,rfl,λj a u f h1 h2 h3=>?_⟩
   match j with
   | 0=>cases h1;cases h2;cases h3;exact⟨rfl,rfl⟩
   | 1=>cases h1;cases h2;cases h3;exact⟨rfl,rfl⟩
   | 2=>cases h1;cases h2;cases h3;exact⟨rfl,rfl⟩
   | 3=>cases h1;cases h2;cases h3;exact⟨rfl,rfl⟩
   | 4=>cases h1;cases h2;cases h3;exact⟨rfl,rfl⟩
   | 5=>cases h1;cases h2;cases h3;exact⟨rfl,rfl⟩
   | j+6=>simp[cV]at h2
  | j+2=>simp at h2
 ·simpa using h.nd
 ·intro b hb;have hb:b∈jY s1 s2 ss:=by simpa using hb
  exact⟨h.lt b hb,h.ne b hb⟩
 ·show((a53.dec (a53.enc (c,x))).map λz=>((m z).isSome,n53 ((m z).getD aKm)))=_;rw[show a53.dec (a53.enc (c,x))=some (c,x) from rfl];simp only[aD,hm,gM,fK]
 ·rintro e w' ⟨rs,cur',rfl,hlen,⟨t',hbox⟩,hkp,fp,hnd,hN,us,fps,eu,ef,h1,h2,h3⟩;obtain⟨u,rfl⟩:∃ u,rs=[u]:=by
   match rs,hlen with
   | [u],_=>exact⟨u,rfl⟩
  obtain rfl:us=[u,.agg cur']:=by
   have:=congrArg (λv=>match v with | Value.tuple a=>a.toList | _=>[]) eu;simpa using this.symm
  match fps,h2,h3 with
  | [f0,f1],_,h3=>
   obtain⟨e0,e0'⟩:=(show u=.int .i64 r/\f0=[] from h3 0 _ _ _ rfl rfl rfl)
   obtain⟨t1,t2,tt,et,q1,q2,q3,q4⟩:=aC7 (c:=c') (us:=cur'.toList) (h3 1 _ _ _ rfl rfl rfl);subst e0;subst e0';subst q4;have ec:cur'=#[.int .i64 c'.1,t1,t2]:=by
    have:=congrArg List.toArray et;simpa using this
   subst ec;have ef':fp=jY t1 t2 tt:=by simpa using ef
   subst ef';refine⟨rfl,t1,t2,tt,t',⟨hbox,q1,q2,q3,hnd,λb hb e=>?_⟩,⟨hkp.os,hkp.tape,hkp.output,hkp.size,λb hb=>hkp.block b λhh=>hb ?_⟩,λb hb=>?_⟩
   ·subst e;rcases(hN b hb).1 with h4 | h4
    ·have:=h.glt;omega
    ·exact h.ne b (by simpa using h4) rfl
   ·rcases hh with hh | hh | hh
    ·exact .inl hh
    ·exact .inr (.inl (by simpa using hh))
    ·exact .inr (.inr hh)
   ·rcases(hN b hb).1 with h4 | h4
    ·exact .inl h4
    ·exact .inr (by simpa using h4)
def m53 (z:Cg×Cm):Option (Int×Cg):=
 if ok8 z.1 then some (if gY z.1.2.1 z.2.2.2.1 then(7,z.1)else if z.1.2.1.length=8 then(2,z.1)else(0,z.1.1,z.1.2.1.take (fZ z.1.2.1 z.2.2.2.1)++[(z.2.2.2.1,z.2.2.2.2.1,z.2.2.2.2.2.1,1,true)]++z.1.2.1.drop (fZ z.1.2.1 z.2.2.2.1),z.1.2.2))else none
theorem aQc:SatQ prog cxT 53 (c53 m53).nres (c53 m53).F (c53 m53).bx:=s53 iO m83 aHF aPY m53 λx t h=>by
 obtain⟨⟨a,bs,vs⟩,kd,ex,nm,ad,nu,pr⟩:=x;unfold m53 at h;split at h
 ·rename_i hk;obtain⟨hr,hl,hrv,hlv,hin⟩:=hk;simp only at hr hl hrv hlv hin h;cases h;refine⟨0,?_⟩;show g53 iO m83 0 a bs vs kd ex nm ad nu pr=_;unfold g53;rw[show iO (bs,nm)=some ((fZ bs nm:Int),gY bs nm) from if_pos ⟨hr,show bs.length<=iU by unfold iU;omega⟩,bT];simp only;cases hh:gY bs nm
  ·rw[cond_false];by_cases h8:bs.length=8
   ·rw[beq_iff_eq.2 (show(Nat.cast bs.length:Int)=8 by omega),cond_true,if_pos h8];rfl
   ·have hle:fZ bs nm<=bs.length:=lF _ bs;rw[beq_eq_false_iff_ne.2 (show ¬ (Nat.cast bs.length:Int)=8 by omega),cond_false,if_neg h8];rw[show m83 (bs,(fZ bs nm:Int),[(nm,ad,nu,1,true)])=some (bs.take (fZ bs nm)++[(nm,ad,nu,1,true)]++bs.drop (fZ bs nm)) from by
     show(if 0<=(fZ bs nm:Int)/\(fZ bs nm:Int)<=(bs.length:Int)/\bs.length<=100 then _ else none)=_;rw[if_pos ⟨by omega,by omega,by omega⟩,aV],bT]
    rfl
  ·rfl
 ·cases h
def m60 (z:Cg×Cm):Option (Int×Cg):=
 if ok8 z.1 then some (if iQ z.1.2.2 z.2.2.2.2.1 z.2.2.2.2.2.1 z.2.2.2.2.2.2 then(7,z.1)else if z.1.2.2.length=4 then(2,z.1)else(0,z.1.1,z.1.2.1,z.1.2.2.take (lE z.1.2.2 (z.2.2.2.2.1,z.2.2.2.2.2.1,z.2.2.2.2.2.2,[]))++[(z.2.2.2.2.1,z.2.2.2.2.2.1,z.2.2.2.2.2.2,[])]++z.1.2.2.drop (lE z.1.2.2 (z.2.2.2.2.1,z.2.2.2.2.2.1,z.2.2.2.2.2.2,[]))))else none
theorem aEM (vs:LV)(v:Vp):lE vs v<=vs.length:=lF _ vs
theorem aQb:SatQ prog cxT 60 (c60 m60).nres (c60 m60).F (c60 m60).bx:=s60 nN m90 aHE aPW m60 λx t h=>by
 obtain⟨⟨a,bs,vs⟩,kd,ex,nm,ad,nu,pr⟩:=x;unfold m60 at h;split at h
 ·rename_i hk;obtain⟨hr,hl,hrv,hlv,hin⟩:=hk;simp only at hr hl hrv hlv hin h;cases h;refine⟨0,?_⟩;show g60 nN m90 0 a bs vs kd ex nm ad nu pr=_;unfold g60;rw[show nN (vs,ad,nu,pr)=some ((lE vs (ad,nu,pr,[]):Int),iQ vs ad nu pr) from if_pos ⟨hrv,show vs.length<=iU by unfold iU;omega⟩,bT];simp only;cases hh:iQ vs ad nu pr
  ·rw[cond_false];by_cases h8:vs.length=4
   ·rw[beq_iff_eq.2 (show(Nat.cast vs.length:Int)=4 by omega),cond_true,if_pos h8];rfl
   ·have hle:=aEM vs (ad,nu,pr,[]);rw[beq_eq_false_iff_ne.2 (show ¬ (Nat.cast vs.length:Int)=4 by omega),cond_false,if_neg h8];rw[show m90 (vs,(lE vs (ad,nu,pr,[]):Int),[(ad,nu,pr,[])])=some (vs.take (lE vs (ad,nu,pr,[]))++[(ad,nu,pr,[])]++vs.drop (lE vs (ad,nu,pr,[]))) from by
     show(if 0<=(lE vs (ad,nu,pr,[]):Int)/\(lE vs (ad,nu,pr,[]):Int)<=(vs.length:Int)/\vs.length<=100 then _ else none)=_;rw[if_pos ⟨by omega,by omega,by omega⟩,aV],bT]
    rfl
  ·rfl
 ·cases h
def m61 (z:Cg×Cm):Option (Int×Cg):=
 if ok8 z.1 then some (if iQ z.1.2.2 z.2.2.2.2.1 z.2.2.2.2.2.1 z.2.2.2.2.2.2 then(0,z.1.1,z.1.2.1,z.1.2.2.take (lE z.1.2.2 (z.2.2.2.2.1,z.2.2.2.2.2.1,z.2.2.2.2.2.2,[]))++z.1.2.2.drop (lE z.1.2.2 (z.2.2.2.2.1,z.2.2.2.2.2.1,z.2.2.2.2.2.2,[])+1))else(4,z.1))else none
theorem sD {vs:LV}(hr:zQ vs){a p q:Int}(h:iQ vs a p q=true):lE vs (a,p,q,[]) < vs.length:=by
 rw[zP hr a p q [],aJ]at h;exact of_decide_eq_true h.1
theorem aQa:SatQ prog cxT 61 (c61 m61).nres (c61 m61).F (c61 m61).bx:=s61 nN m91 aHE aPV m61 λx t h=>by
 obtain⟨⟨a,bs,vs⟩,kd,ex,nm,ad,nu,pr⟩:=x;unfold m61 at h;split at h
 ·rename_i hk;obtain⟨hr,hl,hrv,hlv,hin⟩:=hk;simp only at hr hl hrv hlv hin h;cases h;refine⟨0,?_⟩;show g61 nN m91 0 a bs vs kd ex nm ad nu pr=_;unfold g61;rw[show nN (vs,ad,nu,pr)=some ((lE vs (ad,nu,pr,[]):Int),iQ vs ad nu pr) from if_pos ⟨hrv,show vs.length<=iU by unfold iU;omega⟩,bT];simp only;cases hh:iQ vs ad nu pr
  ·rfl
  ·have hlt:=sD hrv hh;rw[eM,cond_false,wi (by omega) (by omega)];rw[show m91 (vs,(lE vs (ad,nu,pr,[]):Int),(lE vs (ad,nu,pr,[]):Int)+1)=some (vs.take (lE vs (ad,nu,pr,[]))++vs.drop (lE vs (ad,nu,pr,[])+1)) from by
     show(if 0<=(lE vs (ad,nu,pr,[]):Int)/\(lE vs (ad,nu,pr,[]):Int) < (vs.length:Int)/\(lE vs (ad,nu,pr,[]):Int)+1=(lE vs (ad,nu,pr,[]):Int)+1/\vs.length<=100 then _ else none)=_;rw[if_pos ⟨by omega,by omega,rfl,by omega⟩];simp only[aV],bT]
   rfl
 ·cases h
theorem aTN:AppOk 53 m53:=aA6 aQc
theorem aTJ:AppOk 60 m60:=aA6 aQb
theorem aTI:AppOk 61 m61:=aA6 aQa
section
attribute [local go_sem] Oper.semAt_some
set_option maxRecDepth 100000 in
set_option maxHeartbeats 8000000 in
theorem aEe (g:Nat)(a kd ex nm ad nu pr:Int)(q q2:Option Addr)(n cap n2 cap2 p k:Nat)(fnd has:Bool)(w:World)(qi:Option Addr)(ni ci:Nat)(gv:Nat)(cur:Array Value)
  (hg:w.heap[g]?=some (.cells #[.int .i64 a,.slice q n cap,.slice q2 n2 cap2] 32 (0,0))) (hn2:n2<=100) (hk:k<=100)
  (h89:∀ W,Below w.heap.size w W->Calls prog 89 #[.slice q2 n2 cap2,.int .i64 ad,.int .i64 nu,.int .i64 pr] W λe W'=>e=.returned (.tuple #[.int .i64 p,.bool fnd])/\Below W.heap.size W W')
  (hf:fnd=true->p < n2/\q2=some ⟨gv,0,none⟩/\w.heap[gv]?=some (.cells cur 76 (0,0))/\cur[p * 4+3]?=some (.slice qi ni ci))
  (h92:fnd=true->∀ W,Below w.heap.size w W->Calls prog 92 #[.slice qi ni ci,.int .i64 nm] W λe W'=>e=.returned (.tuple #[.int .i64 k,.bool has])/\Below W.heap.size W W')
  (R:Value->World->World->Prop) (hR:∀ u W W',R u W W'->(∃ q' n' cap',u=.slice q' n' cap')/\W'.heap[gv]?=W.heap[gv]?)
  (h94:fnd=true->has=true->∀ W,Below w.heap.size w W->Calls prog 94 #[.slice qi ni ci,.int .i64 k,.int .i64 ((k:Int)+1)] W λe W'=>∃ u,e=.returned u/\R u W W')
  (G:Ending->World->Prop)
  (hG4:fnd=false\/has=false->∀ W,Below w.heap.size w W->G (.returned (.int .i64 4)) W)
  (hG0:fnd=true->has=true->∀ W W1 u,Below w.heap.size w W->R u W W1->G (.returned (.int .i64 0)) (W1.setCell ⟨gv,p * 4+3,none⟩ u)) :
  Calls prog 63 #[.pointer (some ⟨g,0,none⟩),.agg #[.int .i64 kd,.int .i64 ex,.int .i64 nm,.int .i64 ad,.int .i64 nu,.int .i64 pr]] w G:=by
 have hgw:g < w.heap.size:=(aL.1 hg).1
 generalize hW0:w.alloc (.cells #[.int .i64 kd,.int .i64 ex,.int .i64 nm,.int .i64 ad,.int .i64 nu,.int .i64 pr] 37)=W0
 have hB0:Below w.heap.size w W0:=by subst hW0;exact(Below.refl w.heap.size w).alloc (aK _) _
 have b0:W0.heap[w.heap.size]?=some (.cells #[.int .i64 kd,.int .i64 ex,.int .i64 nm,.int .i64 ad,.int .i64 nu,.int .i64 pr] 37 (0,0)):=by subst hW0;exact World.alloc_heap_new w _
 have hs0:W0.heap.size=w.heap.size+1:=by subst hW0;simp
 have hr:∀ W,Below W0.heap.size W0 W->W.cell? ⟨g,2,none⟩=some (.slice q2 n2 cap2)/\W.cell? ⟨w.heap.size,2,none⟩=some (.int .i64 nm)/\W.cell? ⟨w.heap.size,3,none⟩=some (.int .i64 ad)/\W.cell? ⟨w.heap.size,4,none⟩=some (.int .i64 nu)/\W.cell? ⟨w.heap.size,5,none⟩=some (.int .i64 pr):=λW h=>by
  have c1:=(h.block g (by omega)).trans ((hB0.block g hgw).trans hg);have c2:=(h.block w.heap.size (by omega)).trans b0;exact⟨(cell_of_row _ _ _ _ 32 (0,0) c1).trans rfl,(cell_of_row _ _ _ _ 37 (0,0) c2).trans rfl,(cell_of_row _ _ _ _ 37 (0,0) c2).trans rfl,(cell_of_row _ _ _ _ 37 (0,0) c2).trans rfl,(cell_of_row _ _ _ _ 37 (0,0) c2).trans rfl⟩
 have hS:=Below.refl W0.heap.size W0;obtain⟨k1,k2,k3,k4,k5⟩:=hr _ hS
 go_enter func63,ntmps63
 go_upto_region 1 with fail
 go_cut [5,6] (λs5 s6 wx=>s5=.int .i64 p/\s6=.bool fnd/\Below W0.heap.size W0 wx)
 case first=>
  go_region_with (go_at_call 89;(first | (refine(h89 _ (hB0.trans (hS.mono hB0.size))).mono ?_;rintro e w1 ⟨rfl,hb1⟩;replace hS:=hS.trans (hb1.mono hS.size)) | (refine(h89 _ (hB0.trans (hS.drew.mono hB0.size))).mono ?_;rintro e w1 ⟨rfl,hb1⟩;replace hS:=hS.drew.trans (hb1.mono hS.drew.size))))
  all_goals (go_wp2_with fail;go_meet;exact⟨rfl,rfl,hS⟩)
 case rest=>
  obtain⟨rfl,rfl,hS⟩:=hcut;clear k1 k2 k3 k4 k5;obtain⟨k1,k2,k3,k4,k5⟩:=hr _ hS;cases fnd
  ·go_wp2
   exact hG4 (by simp) _ (hB0.trans (hS.mono hB0.size))
  ·obtain⟨hpn,rfl,hb,hcv⟩:=hf rfl;have hbw:gv < w.heap.size:=(aL.1 hb).1;have hrv:∀ W,Below W0.heap.size W0 W->W.cell? ⟨gv,p * 4+3,none⟩=some (.slice qi ni ci)/\W.frozen? ⟨gv,p * 4+3,none⟩=false:=λW h=>by
    have c1:=(h.block gv (by omega)).trans ((hB0.block gv hbw).trans hb);exact⟨(cell_of_row _ _ _ _ 76 (0,0) c1).trans hcv,frozen_of_row _ _ _ _ 76 c1⟩
   have h92':=h92 rfl;have h94':=h94 rfl;have ea:(⟨gv,0,none⟩:Addr).add (p * 4)=⟨gv,p * 4,none⟩:=by rw[Addr.add_lit,cX]
   obtain⟨k6,_⟩:=hrv _ hS
   go_upto_region 5 with fail
   go_cut [8,9] (λs5 s6 wx=>s5=.int .i64 k/\s6=.bool has/\Below W0.heap.size W0 wx)
   case first=>
    go_region_with (go_at_call 92;(first | (refine(h92' _ (hB0.trans (hS.mono hB0.size))).mono ?_;rintro e w1 ⟨rfl,hb1⟩;replace hS:=hS.trans (hb1.mono hS.size)) | (refine(h92' _ (hB0.trans (hS.drew.mono hB0.size))).mono ?_;rintro e w1 ⟨rfl,hb1⟩;replace hS:=hS.drew.trans (hb1.mono hS.drew.size))))
    all_goals (go_wp2_with fail;go_meet;exact⟨rfl,rfl,hS⟩)
   case rest=>
    obtain⟨rfl,rfl,hS⟩:=hcut;clear k1 k2 k3 k4 k5 k6;obtain⟨k1,k2,k3,k4,k5⟩:=hr _ hS;obtain⟨k6,f6⟩:=hrv _ hS;cases has
    ·go_wp2
     exact hG4 (by simp) _ (hB0.trans (hS.mono hB0.size))
    ·have hw64:wrap64 ((k:Int)+1)=(k:Int)+1:=by unfold wrap64;omega
     have h94w:=h94' rfl _ (hB0.trans (hS.mono hB0.size))
     go_wp2_with (go_at_call 94;refine h94w.mono ?_;clear h94w;rintro e w2 ⟨u,rfl,hRu⟩;obtain⟨⟨qu,nu',cu,rfl⟩,hgu⟩:=hR _ _ _ hRu;have c1:=hgu.trans ((by assumption:Below W0.heap.size W0 _).block gv (by omega) |>.trans ((hB0.block gv hbw).trans hb));have m1:w2.cell? ⟨gv,p * 4+3,none⟩=some (.slice qi ni ci):=(cell_of_row _ _ _ _ 76 (0,0) c1).trans hcv;have m2:w2.frozen? ⟨gv,p * 4+3,none⟩=false:=frozen_of_row _ _ _ _ 76 c1;clear hR hgu c1)
     exact hG0 (by simp) (by simp) _ _ _ (hB0.trans (hS.mono hB0.size)) hRu
end
section
attribute [local go_sem] Oper.semAt_some
set_option maxRecDepth 100000 in
set_option maxHeartbeats 8000000 in
theorem aEm (g:Nat)(a kd ex nm ad nu pr:Int)(q q2:Option Addr)(n cap n2 cap2 p p2 k:Nat)(fnd knw has:Bool)(w:World)(qi:Option Addr)(ni ci:Nat)(gv:Nat)(cur:Array Value)
  (hg:w.heap[g]?=some (.cells #[.int .i64 a,.slice q n cap,.slice q2 n2 cap2] 32 (0,0))) (hn2:n2<=100)
  (h89:∀ W,Below w.heap.size w W->Calls prog 89 #[.slice q2 n2 cap2,.int .i64 ad,.int .i64 nu,.int .i64 pr] W λe W'=>e=.returned (.tuple #[.int .i64 p,.bool fnd])/\Below W.heap.size W W')
  (h82:∀ W,Below w.heap.size w W->Calls prog 82 #[.slice q n cap,.int .i64 nm] W λe W'=>e=.returned (.tuple #[.int .i64 p2,.bool knw])/\Below W.heap.size W W')
  (hf:fnd=true->p < n2/\q2=some ⟨gv,0,none⟩/\w.heap[gv]?=some (.cells cur 76 (0,0))/\cur[p * 4+3]?=some (.slice qi ni ci))
  (h92:fnd=true->∀ W,Below w.heap.size w W->Calls prog 92 #[.slice qi ni ci,.int .i64 nm] W λe W'=>e=.returned (.tuple #[.int .i64 k,.bool has])/\Below W.heap.size W W')
  (R:Value->World->World->Prop) (hR:∀ u W W',R u W W'->(∃ q' n' cap',u=.slice q' n' cap')/\W'.heap[gv]?=W.heap[gv]?)
  (h93:fnd=true->knw=true->has=false->∀ W vb,Below w.heap.size w W->w.heap.size<=vb->W.heap[vb]?=some (.cells #[.int .i64 nm] 2 (0,0))->Calls prog 93 #[.slice qi ni ci,.int .i64 k,.slice (some ⟨vb,0,none⟩) 1 1] W λe W'=>∃ u,e=.returned u/\R u W W')
  (G:Ending->World->Prop)
  (hG4:fnd=false\/knw=false->∀ W,Below w.heap.size w W->G (.returned (.int .i64 4)) W)
  (hG7:fnd=true->knw=true->has=true->∀ W,Below w.heap.size w W->G (.returned (.int .i64 7)) W)
  (hG0:fnd=true->knw=true->has=false->∀ W W1 u,Below w.heap.size w W->R u W W1->G (.returned (.int .i64 0)) (W1.setCell ⟨gv,p * 4+3,none⟩ u)) :
  Calls prog 62 #[.pointer (some ⟨g,0,none⟩),.agg #[.int .i64 kd,.int .i64 ex,.int .i64 nm,.int .i64 ad,.int .i64 nu,.int .i64 pr]] w G:=by
 have hgw:g < w.heap.size:=(aL.1 hg).1
 generalize hW0:w.alloc (.cells #[.int .i64 kd,.int .i64 ex,.int .i64 nm,.int .i64 ad,.int .i64 nu,.int .i64 pr] 37)=W0
 have hB0:Below w.heap.size w W0:=by subst hW0;exact(Below.refl w.heap.size w).alloc (aK _) _
 have b0:W0.heap[w.heap.size]?=some (.cells #[.int .i64 kd,.int .i64 ex,.int .i64 nm,.int .i64 ad,.int .i64 nu,.int .i64 pr] 37 (0,0)):=by subst hW0;exact World.alloc_heap_new w _
 have hs0:W0.heap.size=w.heap.size+1:=by subst hW0;simp
 have hr:∀ W,Below W0.heap.size W0 W->W.cell? ⟨g,1,none⟩=some (.slice q n cap)/\W.cell? ⟨g,2,none⟩=some (.slice q2 n2 cap2)/\W.cell? ⟨w.heap.size,2,none⟩=some (.int .i64 nm)/\W.cell? ⟨w.heap.size,3,none⟩=some (.int .i64 ad)/\W.cell? ⟨w.heap.size,4,none⟩=some (.int .i64 nu)/\W.cell? ⟨w.heap.size,5,none⟩=some (.int .i64 pr):=λW h=>by
  have c1:=(h.block g (by omega)).trans ((hB0.block g hgw).trans hg);have c2:=(h.block w.heap.size (by omega)).trans b0;exact⟨(cell_of_row _ _ _ _ 32 (0,0) c1).trans rfl,(cell_of_row _ _ _ _ 32 (0,0) c1).trans rfl,(cell_of_row _ _ _ _ 37 (0,0) c2).trans rfl,(cell_of_row _ _ _ _ 37 (0,0) c2).trans rfl,(cell_of_row _ _ _ _ 37 (0,0) c2).trans rfl,(cell_of_row _ _ _ _ 37 (0,0) c2).trans rfl⟩
 have hS:=Below.refl W0.heap.size W0;obtain⟨k0,k1,k2,k3,k4,k5⟩:=hr _ hS
 go_enter func62,ntmps62
 go_upto_region 1 with fail
 go_cut [5,6] (λs5 s6 wx=>s5=.int .i64 p/\s6=.bool fnd/\Below W0.heap.size W0 wx)
 case first=>
  go_region_with (go_at_call 89;(first | (refine(h89 _ (hB0.trans (hS.mono hB0.size))).mono ?_;rintro e w1 ⟨rfl,hb1⟩;replace hS:=hS.trans (hb1.mono hS.size)) | (refine(h89 _ (hB0.trans (hS.drew.mono hB0.size))).mono ?_;rintro e w1 ⟨rfl,hb1⟩;replace hS:=hS.drew.trans (hb1.mono hS.drew.size))))
  all_goals (go_wp2_with fail;go_meet;exact⟨rfl,rfl,hS⟩)
 case rest=>
  obtain⟨rfl,rfl,hS⟩:=hcut;clear k0 k1 k2 k3 k4 k5;obtain⟨k0,k1,k2,k3,k4,k5⟩:=hr _ hS;cases fnd
  ·go_wp2
   exact hG4 (by simp) _ (hB0.trans (hS.mono hB0.size))
  ·obtain⟨hpn,rfl,hb,hcv⟩:=hf rfl;have hbw:gv < w.heap.size:=(aL.1 hb).1;have hrv:∀ W,Below W0.heap.size W0 W->W.cell? ⟨gv,p * 4+3,none⟩=some (.slice qi ni ci)/\W.frozen? ⟨gv,p * 4+3,none⟩=false:=λW h=>by
    have c1:=(h.block gv (by omega)).trans ((hB0.block gv hbw).trans hb);exact⟨(cell_of_row _ _ _ _ 76 (0,0) c1).trans hcv,frozen_of_row _ _ _ _ 76 c1⟩
   have h92':=h92 rfl;have h93':=h93 rfl;have ea:(⟨gv,0,none⟩:Addr).add (p * 4)=⟨gv,p * 4,none⟩:=by rw[Addr.add_lit,cX]
   go_upto_region 4 with fail
   go_cut [7,8] (λs5 s6 wx=>s5=.int .i64 p2/\s6=.bool knw/\Below W0.heap.size W0 wx)
   case first=>
    go_region_with (go_at_call 82;(first | (refine(h82 _ (hB0.trans (hS.mono hB0.size))).mono ?_;rintro e w1 ⟨rfl,hb1⟩;replace hS:=hS.trans (hb1.mono hS.size)) | (refine(h82 _ (hB0.trans (hS.drew.mono hB0.size))).mono ?_;rintro e w1 ⟨rfl,hb1⟩;replace hS:=hS.drew.trans (hb1.mono hS.drew.size))))
    all_goals (go_wp2_with fail;go_meet;exact⟨rfl,rfl,hS⟩)
   case rest=>
    obtain⟨rfl,rfl,hS⟩:=hcut;clear k0 k1 k2 k3 k4 k5;obtain⟨k0,k1,k2,k3,k4,k5⟩:=hr _ hS;obtain⟨k6,f6⟩:=hrv _ hS;cases knw
    ·go_wp2
     exact hG4 (by simp) _ (hB0.trans (hS.mono hB0.size))
    ·have h93w:=h93' rfl;clear f6 h93'
     go_upto_region 8 with fail
     go_cut [10,11] (λs5 s6 wx=>s5=.int .i64 k/\s6=.bool has/\Below W0.heap.size W0 wx)
     case first=>
      go_region_with (go_at_call 92;(first | (refine(h92' _ (hB0.trans (hS.mono hB0.size))).mono ?_;rintro e w1 ⟨rfl,hb1⟩;replace hS:=hS.trans (hb1.mono hS.size)) | (refine(h92' _ (hB0.trans (hS.drew.mono hB0.size))).mono ?_;rintro e w1 ⟨rfl,hb1⟩;replace hS:=hS.drew.trans (hb1.mono hS.drew.size))))
      all_goals (go_wp2_with fail;go_meet;exact⟨rfl,rfl,hS⟩)
     case rest=>
      obtain⟨rfl,rfl,hS⟩:=hcut;clear k0 k1 k2 k3 k4 k5 k6;obtain⟨k0,k1,k2,k3,k4,k5⟩:=hr _ hS;obtain⟨k6,f6⟩:=hrv _ hS;cases has
      ·have h93v:=h93w rfl;have hnb:Below W0.heap.size W0 (wc.alloc (.cells #[.int .i64 nm] 2)):=hS.alloc hS.size _;have hnew:(wc.alloc (.cells #[.int .i64 nm] 2)).heap[wc.heap.size]?=some (.cells #[.int .i64 nm] 2 (0,0)):=World.alloc_heap_new wc _;have hsz:w.heap.size<=wc.heap.size:=by have:=hS.size;omega
       have hgb:(wc.alloc (.cells #[.int .i64 nm] 2)).heap[gv]?=some (.cells cur 76 (0,0)):=(hnb.block gv (by omega)).trans ((hB0.block gv hbw).trans hb);have k6b:(wc.alloc (.cells #[.int .i64 nm] 2)).cell? ⟨gv,p * 4+3,none⟩=some (.slice qi ni ci):=(hrv _ hnb).1
       go_wp2
       go_region_with (go_at_call 93;(first | refine(h93v _ wc.heap.size (hB0.trans (hnb.mono hB0.size)) hsz hnew).mono ?_ | refine(h93v _ wc.heap.size (hB0.trans (hnb.drew.mono hB0.size)) hsz hnew).mono ?_);rintro e w2 ⟨u,rfl,hRu⟩;obtain⟨⟨qu,nu',cu,rfl⟩,hgu⟩:=hR _ _ _ hRu;have c1:=hgu.trans hgb;have m1:w2.cell? ⟨gv,p * 4+3,none⟩=some (.slice qi ni ci):=(cell_of_row _ _ _ _ 76 (0,0) c1).trans hcv;have m2:w2.frozen? ⟨gv,p * 4+3,none⟩=false:=frozen_of_row _ _ _ _ 76 c1;clear hR hgu c1)
       all_goals (go_wp2;first | exact hG0 (by simp) (by simp) (by simp) _ _ _ (hB0.trans (hnb.drew.mono hB0.size)) hRu | exact hG0 (by simp) (by simp) (by simp) _ _ _ (hB0.trans (hnb.mono hB0.size)) hRu)
      ·go_wp2
       exact hG7 (by simp) (by simp) (by simp) _ (hB0.trans (hS.mono hB0.size))
end
theorem aHo (u:Value)(ns:List Int):∀ (vs:LV) (ss:List Value) (p:Nat),ss.length=vs.length->p < vs.length->(kJ vs ss).set (p * 4+3) u=kJ (vs.set p ((vs.getD p eJ).1,(vs.getD p eJ).2.1,(vs.getD p eJ).2.2.1,ns)) (ss.set p u)
 | [],_,p,_,h=>by simp at h
 | v::vs,[],p,hl,h=>by simp at hl
 | v::vs,s::ss,0,hl,h=>by
  have:kJ (v::vs) (s::ss)=vpC v s++kJ vs ss:=rfl;rw[this,Nat.zero_mul,cX,List.set_append,if_pos (by simp[vpC])]
  rfl
 | v::vs,s::ss,p+1,hl,h=>by
  have:kJ (v::vs) (s::ss)=vpC v s++kJ vs ss:=rfl;have hl4:(vpC v s).length=4:=rfl;rw[this,List.set_append,if_neg (by rw[hl4];omega),hl4,show(p+1) * 4+3-4=p * 4+3 by omega,aHo u ns vs ss p (by simpa using hl) (by simpa using h)];simp[kJ]
theorem aHy {ss:List Value}{p:Nat}(hp:p < ss.length):ss=ss.take p++ss.getD p undef::ss.drop (p+1):=by
 rw[fT undef hp,<-dE hp,dH]
theorem aHA {ss:List Value}{p:Nat}{u:Value}(hp:p < ss.length):ss.set p u=ss.take p++u::ss.drop (p+1):=by
 rw[fV,if_pos hp]
theorem Hold.setV {W W1:World}{g gv cap p:Nat}{c:Cg}{s1 u:Value}{ss:List Value}{ns:List Int}(h:Hold W g c s1 (.slice (some ⟨gv,0,none⟩) c.2.2.length cap) ss)(hp:p < c.2.2.length)
  (hk:∀ b,b < W.heap.size->b∉ob (ss.getD p undef)->W1.heap[b]?=W.heap[b]?) (hr:W1.ownsRow 0 2 1 u ns.length (tR ns)) (hu:∀ b∈ob u,b∈ob (ss.getD p undef)\/W.heap.size<=b) :
  Hold (W1.setCell ⟨gv,p * 4+3,none⟩ u) g (c.1,c.2.1,c.2.2.set p ((c.2.2.getD p eJ).1,(c.2.2.getD p eJ).2.1,(c.2.2.getD p eJ).2.2.1,ns)) s1 (.slice (some ⟨gv,0,none⟩) c.2.2.length cap) (ss.set p u):=by
 have hp':p < ss.length:=by rw[h.inn.1];exact hp
 have hnd:=h.nd;unfold jY at hnd;have hsp:=aHy hp';have hfm:ss.flatMap ob=(ss.take p).flatMap ob++(ob (ss.getD p undef)++(ss.drop (p+1)).flatMap ob):=by
  conv=>lhs;rw[hsp]
  rw[bE,aR]
 have hnd2:((ob s1++(ob (.slice (some ⟨gv,0,none⟩) c.2.2.length cap)++(ss.take p).flatMap ob))++(ob (ss.getD p undef)++(ss.drop (p+1)).flatMap ob)).Nodup:=by
  rw[hfm]at hnd;simpa[dB]using hnd
 obtain⟨n1,n2,n3⟩:=aH.1 hnd2;obtain⟨n4,n5,n6⟩:=aH.1 n2;have hS:∀ b∈ob (ss.getD p undef),b∈jY s1 (.slice (some ⟨gv,0,none⟩) c.2.2.length cap) ss:=λb hb=>sO (by rw[hfm];exact aA.2 (.inr (aA.2 (.inl hb))))
 have hX:∀ b,b∈ob s1++(ob (.slice (some ⟨gv,0,none⟩) c.2.2.length cap)++(ss.take p).flatMap ob)->b∉ob (ss.getD p undef):=λb hb h2=>n3 b hb b (aA.2 (.inl h2)) rfl
 have hY:∀ b∈(ss.drop (p+1)).flatMap ob,b∉ob (ss.getD p undef):=λb hb h2=>n6 b h2 b hb rfl
 have hgvm:gv∈jY s1 (.slice (some ⟨gv,0,none⟩) c.2.2.length cap) ss:=aDS rfl;have hgvl:gv < W.heap.size:=h.lt gv hgvm;have hgvS:gv∉ob (ss.getD p undef):=hX gv (aA.2 (.inr (aA.2 (.inl (by simp[ob,Value.ownBlock])))));have hgg:gv≠g:=h.ne gv hgvm;have hset:∀ b,b≠gv->(W1.setCell ⟨gv,p * 4+3,none⟩ u).heap[b]?=W1.heap[b]?:=λb hb=>Below.heap_setCell W1 _ _ b hb
 have hgvX:∀ b∈ob s1,b≠gv:=λb hb e=>by
  subst e;exact aFS h.nd (a:=b) (b:=b) (by simpa[ob]using hb) (.inl rfl) rfl
 have hin:∀ b∈ss.flatMap ob,b≠gv:=λb hb e=>by
  subst e;exact(aH.1 (aH.1 hnd).2.1).2.2 b (by simp[ob,Value.ownBlock]) b hb rfl
 have huv:∀ b∈ob u,b≠gv:=λb hb=>by
  rcases hu b hb with h1 | h1
  ·exact λe=>hgvS (e▸h1)
  ·omega
 refine⟨?_,?_,?_,?_,?_,?_⟩
 ·exact(hset g hgg.symm).trans ((hk g h.glt λe=>h.ne g (hS g e) rfl).trans h.box)
 ·refine fM h.r1 λb hb=>?_
  have hb':b∈ob s1:=by simp[ob,hb]
  exact(hset b (hgvX b hb')).trans (hk b (h.lt b (xN hb)) (hX b (aA.2 (.inl hb'))))
 ·have h2:W1.ownsRow 0 76 4 (.slice (some ⟨gv,0,none⟩) c.2.2.length cap) c.2.2.length (kJ c.2.2 ss):=fM h.r2 λb hb=>by
   cases hb;exact hk gv hgvl hgvS
  have:=aFO (k:=p * 4+3) (u:=u) h2;rw[aHo u ns c.2.2 ss p h.inn.1 hp]at this;show World.ownsRow _ _ _ _ _ (c.2.2.set p _).length _;rw[bW];exact this
 ·refine⟨by simp[h.inn.1],λi x s h1 h2=>?_⟩;by_cases hi:i=p
  ·subst hi;have e1:(c.2.2.set i ((c.2.2.getD i eJ).1,(c.2.2.getD i eJ).2.1,(c.2.2.getD i eJ).2.2.1,ns))[i]?=some x:=h1;rw[eL hp]at e1;rw[eL hp']at h2;cases e1;cases h2;exact fM hr λb hb=>hset b (huv b (by simp[ob,hb]))
  ·have e1:(c.2.2.set p ((c.2.2.getD p eJ).1,(c.2.2.getD p eJ).2.1,(c.2.2.getD p eJ).2.2.1,ns))[i]?=some x:=h1;rw[fF (Ne.symm hi)]at e1;rw[fF (Ne.symm hi)]at h2;refine fM (h.inn.2 i x s e1 h2) λb hb=>?_
   have hbo:b∈ob s:=by simp[ob,hb]
   have hbm:b∈ss.flatMap ob:=bB.2 ⟨s,bC h2,hbo⟩;refine(hset b (hin b hbm)).trans (hk b (h.inn.lt b hbm) ?_);rcases eR i p with hlt | hge
   ·refine hX b (aA.2 (.inr (aA.2 (.inr (bB.2 ⟨s,?_,hbo⟩)))));refine bC (i:=i) ?_;rw[bK,if_pos hlt];exact h2
   ·refine hY b (bB.2 ⟨s,?_,hbo⟩);refine bC (i:=i-(p+1)) ?_;rw[cL,show p+1+(i-(p+1))=i by omega];exact h2
 ·show(ob s1++(ob _++(ss.set p u).flatMap ob)).Nodup;rw[aHA hp',bE,aR];have:=aFU (U:=ob u) hnd2 (aLe u) λb hb=>by
   rcases hu b hb with h1 | h1
   ·exact .inl h1
   ·refine .inr ⟨λh2=>?_,λh2=>?_⟩
    ·have:b∈jY s1 (.slice (some ⟨gv,0,none⟩) c.2.2.length cap) ss:=by
      unfold jY;rw[hfm];rcases aA.1 h2 with h2 | h2
      ·exact aA.2 (.inl h2)
      ·rcases aA.1 h2 with h2 | h2
       ·exact aA.2 (.inr (aA.2 (.inl h2)))
       ·exact aA.2 (.inr (aA.2 (.inr (aA.2 (.inl h2)))))
     have:=h.lt b this;omega
    ·have:b∈jY s1 (.slice (some ⟨gv,0,none⟩) c.2.2.length cap) ss:=sO (by rw[hfm];exact aA.2 (.inr (aA.2 (.inr h2))));have:=h.lt b this;omega
  simpa[dB]using this
 ·intro b hb;have hb:b∈ob s1++(ob (.slice (some ⟨gv,0,none⟩) c.2.2.length cap)++(ss.set p u).flatMap ob):=hb;rw[aHA hp',bE,aR]at hb;have hold:b∈jY s1 (.slice (some ⟨gv,0,none⟩) c.2.2.length cap) ss\/W.heap.size<=b:=by
   unfold jY;rw[hfm];simp only[aA]at hb ⊢;rcases hb with hb | hb | hb | hb | hb
   ·exact .inl (.inl hb)
   ·exact .inl (.inr (.inl hb))
   ·exact .inl (.inr (.inr (.inl hb)))
   ·rcases hu b hb with h1 | h1
    ·exact .inl (.inr (.inr (.inr (.inl h1))))
    ·exact .inr h1
   ·exact .inl (.inr (.inr (.inr (.inr hb))))
  rcases hold with h1 | h1
  ·exact h.ne b h1
  ·have:=h.glt;omega
theorem uZ (l:List Int):tR l=l.map λx=>.int .i64 x:=by
 induction l with
 | nil=>rfl
 | cons x l ih=>show _::tR l=_;rw[ih];rfl
theorem aF5 (l:List Int):∀ v∈tR l,v.oneCell'=true:=λv hv=>by
 rw[uZ]at hv;obtain⟨x,_,rfl⟩:=aM.1 hv
 rfl
def yX (vs:LV)(x:Cm):Nat:=lE vs (x.2.2.2.1,x.2.2.2.2.1,x.2.2.2.2.2,[])
def hsV (vs:LV)(x:Cm):Bool:=iQ vs x.2.2.2.1 x.2.2.2.2.1 x.2.2.2.2.2
def aGA (vs:LV)(p:Nat)(ns:List Int):LV:=vs.set p ((vs.getD p eJ).1,(vs.getD p eJ).2.1,(vs.getD p eJ).2.2.1,ns)
def m63 (z:Cg×Cm):Option (Int×Cg):=
 if ok8 z.1 then some (if hsV z.1.2.2 z.2 then(if iY (z.1.2.2.getD (yX z.1.2.2 z.2) eJ).2.2.2 z.2.2.2.1 then(0,z.1.1,z.1.2.1,aGA z.1.2.2 (yX z.1.2.2 z.2) ((z.1.2.2.getD (yX z.1.2.2 z.2) eJ).2.2.2.take (jM (z.1.2.2.getD (yX z.1.2.2 z.2) eJ).2.2.2 z.2.2.2.1)++(z.1.2.2.getD (yX z.1.2.2 z.2) eJ).2.2.2.drop (jM (z.1.2.2.getD (yX z.1.2.2 z.2) eJ).2.2.2 z.2.2.2.1+1)))else(4,z.1))else(4,z.1))else none
def m62 (z:Cg×Cm):Option (Int×Cg):=
 if ok8 z.1 then some (if hsV z.1.2.2 z.2 then(if gY z.1.2.1 z.2.2.2.1 then(if iY (z.1.2.2.getD (yX z.1.2.2 z.2) eJ).2.2.2 z.2.2.2.1 then(7,z.1)else(0,z.1.1,z.1.2.1,aGA z.1.2.2 (yX z.1.2.2 z.2) ((z.1.2.2.getD (yX z.1.2.2 z.2) eJ).2.2.2.take (jM (z.1.2.2.getD (yX z.1.2.2 z.2) eJ).2.2.2 z.2.2.2.1)++[z.2.2.2.1]++(z.1.2.2.getD (yX z.1.2.2 z.2) eJ).2.2.2.drop (jM (z.1.2.2.getD (yX z.1.2.2 z.2) eJ).2.2.2 z.2.2.2.1))))else(4,z.1))else(4,z.1))else none
theorem aFr {w:World}{g:Nat}{c:Cg}{s1:Value}{ss:List Value}{q2:Option Addr}{cap2 p:Nat}(h:Hold w g c s1 (.slice q2 c.2.2.length cap2) ss)(hp:p < c.2.2.length) :
  ∃ gv cur qi ci,q2=some ⟨gv,0,none⟩/\w.heap[gv]?=some (.cells cur 76 (0,0))/\ss.getD p undef=.slice qi (c.2.2.getD p eJ).2.2.2.length ci/\cur[p * 4+3]?=some (.slice qi (c.2.2.getD p eJ).2.2.2.length ci):=by
 obtain⟨qi,ci,ei⟩:=eS (rB h.inn hp);rcases h.r2.2 with⟨h0,hn1⟩ | ⟨gv,cp,cur,h0,_,hb,hn,_,hs,ht⟩
 ·omega
 ·cases h0;refine⟨gv,cur,qi,ci,rfl,hb,ei,?_⟩;have:=uA ht (uE 3 (by omega) c.2.2 ss p h.inn.1 hp);rw[ei]at this;exact this
theorem aF6 {ns:List Int}(hr:xL ns){y:Int}(h:iY ns y=true):jM ns y < ns.length:=by
 rw[zR hr,aJ]at h;exact of_decide_eq_true h.1
def Rn (w:World)(s:Value)(ns:List Int)(u:Value)(W W':World):Prop:=
 W'.ownsRow 0 2 1 u ns.length (tR ns)/\Kept (λb=>w.heap.size<=b\/b∈ob s) W W'/\∀ b∈ob u,b∈ob s\/w.heap.size<=b
theorem aTG:AppOk 63 m63:=by
 intro w g c s1 s2 ss x r c' h hm;obtain⟨kd,ex,nm,ad,nu,pr⟩:=x;unfold m63 at hm;split at hm
 ·rename_i hk;obtain⟨hr,hl,hrv,hlv,hin⟩:=hk;simp only at hr hl hrv hlv hin hm;obtain⟨q,cap,e1⟩:=eS h.r1;obtain⟨q2,cap2,e2⟩:=eS h.r2;subst e1;subst e2;have a89:∀ W,Below w.heap.size w W->Calls prog 89 #[.slice q2 c.2.2.length cap2,.int .i64 ad,.int .i64 nu,.int .i64 pr] W λe W'=>e=.returned (.tuple #[.int .i64 (yX c.2.2 (kd,ex,nm,ad,nu,pr):Nat),.bool (hsV c.2.2 (kd,ex,nm,ad,nu,pr))])/\Below W.heap.size W W':=λW hW=>
   aMf ad nu pr (h.below hW).r2 (h.below hW).inn hrv (by unfold iU;omega)
  generalize hp0:yX c.2.2 (kd,ex,nm,ad,nu,pr)=p at hm a89
  cases hf:hsV c.2.2 (kd,ex,nm,ad,nu,pr)with
  | false=>
   rw[hf]at hm a89;cases hm;refine aEe g c.1 kd ex nm ad nu pr q q2 c.2.1.length cap c.2.2.length cap2 p 0 false false w none 0 0 0 #[] h.box (by omega) (by omega) a89 (by intro h;cases h) (by intro h;cases h) (λ_ _ _=>False) (λ_ _ _ h=>h.elim) (by intro h;cases h) _ ?_ (by intro h;cases h);intro _ W hW;exact⟨rfl,_,_,_,_,h.below hW,gF hW (λb hb=>.inl hb),λb hb=>.inr hb⟩
  | true=>
   have hp:p < c.2.2.length:=by subst hp0;exact sD hrv hf
   obtain⟨gv,cur,qi,ci,rfl,hb,ei,hcv⟩:=aFr h hp;obtain⟨hrn,hln⟩:=hin _ (eG eJ hp)
   generalize hns:(c.2.2.getD p eJ).2.2.2=ns at *
   have a92:∀ W,Below w.heap.size w W->Calls prog 92 #[.slice qi ns.length ci,.int .i64 nm] W λe W'=>e=.returned (.tuple #[.int .i64 (jM ns nm:Nat),.bool (iY ns nm)])/\Below W.heap.size W W':=λW hW=>by
    have hrow:=rB (h.below hW).inn hp;rw[ei,hns]at hrow;exact aMe nm hrow hrn (by unfold iU;omega)
   rw[hf]at hm a89;have hle:jM ns nm<=ns.length:=lF _ ns
   generalize hkk:jM ns nm=k at hm a92 hle
   have hgS:gv∉ob (ss.getD p undef):=λhh=>by
    have hnd:=(aH.1 (show(ob (.slice q c.2.1.length cap)++(ob (.slice (some ⟨gv,0,none⟩) c.2.2.length cap2)++ss.flatMap ob)).Nodup from h.nd)).2.1;have hp':p < ss.length:=by rw[h.inn.1];exact hp
    exact(aH.1 hnd).2.2 gv (by simp[ob,Value.ownBlock]) gv (bB.2 ⟨_,eG undef hp',hh⟩) rfl
   have hgw:gv < w.heap.size:=(aL.1 hb).1;refine aEe g c.1 kd ex nm ad nu pr q (some ⟨gv,0,none⟩) c.2.1.length cap c.2.2.length cap2 p k true (iY ns nm) w qi ns.length ci gv cur h.box (by omega) (by omega) a89 (λ_=>⟨hp,rfl,hb,hcv⟩) (λ_=>a92)
    (Rn w (ss.getD p undef) (ns.take k++ns.drop (k+1))) ?_ ?_ _ ?_ ?_
   ·rintro u W W' ⟨h1,h2,h3⟩;obtain⟨q',cap',rfl⟩:=eS h1;exact⟨⟨_,_,_,rfl⟩,h2.block gv λe=>e.elim (λe=>by omega) hgS⟩
   ·intro _ hh W hW;have hkl:k < ns.length:=by subst hkk;exact aF6 hrn hh
    have hrow:=rB (h.below hW).inn hp;rw[ei,hns]at hrow;rcases hrow.2 with⟨h0,hn0⟩ | ⟨gb,cp,cu,h0,hB,hgb,hnc,hm1,hs1,ht1⟩
    ·omega
    ·cases h0;refine(aSo gb k ns.length ci (tR ns) W hrow hkl (by omega) (aF5 ns)).mono ?_;rintro e W1 ⟨rfl,k1,k2⟩;have hS:gb∈ob (ss.getD p undef):=by rw[ei];simp[ob,Value.ownBlock]
     refine⟨_,rfl,?_,⟨k2.os,k2.tape,k2.output,k2.size,λb hb=>k2.block b λe=>hb (.inr (e▸hS))⟩,λb hb=>.inl ?_⟩
     ·rw[show(ns.take k++ns.drop (k+1)).length=ns.length-1 by rw[aW,bA,bL];omega];rw[uZ,dN,pR,pS,<-uZ];exact k1
     ·have:b=gb:=by simpa[ob,Value.ownBlock]using hb
      rw[this];exact hS
   ·intro hh W hW;rcases hh with hh | hh
    ·cases hh
    ·rw[hh]at hm;cases hm;exact⟨rfl,_,_,_,_,h.below hW,gF hW (λb hb=>.inl hb),λb hb=>.inr hb⟩
   ·rintro _ hh W W1 u hW ⟨h1,h2,h3⟩;rw[hh]at hm;cases hm;have hkeep:∀ b,b < w.heap.size->b∉ob (ss.getD p undef)->W1.heap[b]?=w.heap[b]?:=λb hb hn=>(h2.block b λe=>e.elim (λe=>by omega) hn).trans (hW.block b hb)
    refine⟨rfl,_,_,_,_,h.setV hp hkeep h1 h3,?_,?_⟩
    ·refine((gF hW (λb hb=>.inl hb)).trans ⟨h2.os,h2.tape,h2.output,h2.size,λb hb=>h2.block b λe=>hb ?_⟩).trans (mW (.inr (.inl (aDS rfl))));rcases e with e | e
     ·exact .inl e
     ·refine .inr (.inl (sO (bB.2 ⟨_,eG undef (by rw[h.inn.1];exact hp),e⟩)))
    ·intro b hb;have hp':p < ss.length:=by rw[h.inn.1];exact hp
     have hb:b∈ob (.slice q c.2.1.length cap)++(ob (.slice (some ⟨gv,0,none⟩) c.2.2.length cap2)++(ss.set p u).flatMap ob):=hb;rcases aA.1 hb with hb | hb
     ·exact .inr (aA.2 (.inl hb))
     ·rcases aA.1 hb with hb | hb
      ·exact .inr (aA.2 (.inr (aA.2 (.inl hb))))
      ·obtain⟨s,hs,hbs⟩:=bB.1 hb;rcases List.mem_or_eq_of_mem_set hs with hs | rfl
       ·exact .inr (sO (bB.2 ⟨s,hs,hbs⟩))
       ·rcases h3 b hbs with h4 | h4
        ·exact .inr (sO (bB.2 ⟨_,eG undef hp',h4⟩))
        ·exact .inl h4
 ·cases hm
theorem aTH:AppOk 62 m62:=by
 intro w g c s1 s2 ss x r c' h hm;obtain⟨kd,ex,nm,ad,nu,pr⟩:=x;unfold m62 at hm;split at hm
 ·rename_i hk;obtain⟨hr,hl,hrv,hlv,hin⟩:=hk;simp only at hr hl hrv hlv hin hm;obtain⟨q,cap,e1⟩:=eS h.r1;obtain⟨q2,cap2,e2⟩:=eS h.r2;subst e1;subst e2;have a89:∀ W,Below w.heap.size w W->Calls prog 89 #[.slice q2 c.2.2.length cap2,.int .i64 ad,.int .i64 nu,.int .i64 pr] W λe W'=>e=.returned (.tuple #[.int .i64 (yX c.2.2 (kd,ex,nm,ad,nu,pr):Nat),.bool (hsV c.2.2 (kd,ex,nm,ad,nu,pr))])/\Below W.heap.size W W':=λW hW=>
   aMf ad nu pr (h.below hW).r2 (h.below hW).inn hrv (by unfold iU;omega)
  have a82:∀ W,Below w.heap.size w W->Calls prog 82 #[.slice q c.2.1.length cap,.int .i64 nm] W λe W'=>e=.returned (.tuple #[.int .i64 (fZ c.2.1 nm:Nat),.bool (gY c.2.1 nm)])/\Below W.heap.size W W':=λW hW=>
   aEo nm (h.below hW).r1 hr (by unfold iU;omega)
  generalize hp0:yX c.2.2 (kd,ex,nm,ad,nu,pr)=p at hm a89
  cases hf:hsV c.2.2 (kd,ex,nm,ad,nu,pr)with
  | false=>
   rw[hf]at hm a89;cases hm;refine aEm g c.1 kd ex nm ad nu pr q q2 c.2.1.length cap c.2.2.length cap2 p (fZ c.2.1 nm) 0 false (gY c.2.1 nm) false w none 0 0 0 #[] h.box (by omega) a89 a82 (by intro h;cases h) (by intro h;cases h) (λ_ _ _=>False) (λ_ _ _ h=>h.elim) (by intro h;cases h) _ ?_ (by intro h;cases h) (by intro h;cases h);intro _ W hW;exact⟨rfl,_,_,_,_,h.below hW,gF hW (λb hb=>.inl hb),λb hb=>.inr hb⟩
  | true=>
   have hp:p < c.2.2.length:=by subst hp0;exact sD hrv hf
   obtain⟨gv,cur,qi,ci,rfl,hb,ei,hcv⟩:=aFr h hp;obtain⟨hrn,hln⟩:=hin _ (eG eJ hp)
   generalize hns:(c.2.2.getD p eJ).2.2.2=ns at *
   have a92:∀ W,Below w.heap.size w W->Calls prog 92 #[.slice qi ns.length ci,.int .i64 nm] W λe W'=>e=.returned (.tuple #[.int .i64 (jM ns nm:Nat),.bool (iY ns nm)])/\Below W.heap.size W W':=λW hW=>by
    have hrow:=rB (h.below hW).inn hp;rw[ei,hns]at hrow;exact aMe nm hrow hrn (by unfold iU;omega)
   rw[hf]at hm a89;have hle:jM ns nm<=ns.length:=lF _ ns
   generalize hkk:jM ns nm=k at hm a92 hle
   have hgS:gv∉ob (ss.getD p undef):=λhh=>by
    have hnd:=(aH.1 (show(ob (.slice q c.2.1.length cap)++(ob (.slice (some ⟨gv,0,none⟩) c.2.2.length cap2)++ss.flatMap ob)).Nodup from h.nd)).2.1;have hp':p < ss.length:=by rw[h.inn.1];exact hp
    exact(aH.1 hnd).2.2 gv (by simp[ob,Value.ownBlock]) gv (bB.2 ⟨_,eG undef hp',hh⟩) rfl
   have hgw:gv < w.heap.size:=(aL.1 hb).1;refine aEm g c.1 kd ex nm ad nu pr q (some ⟨gv,0,none⟩) c.2.1.length cap c.2.2.length cap2 p (fZ c.2.1 nm) k true (gY c.2.1 nm) (iY ns nm) w qi ns.length ci gv cur h.box (by omega) a89 a82 (λ_=>⟨hp,rfl,hb,hcv⟩) (λ_=>a92)
    (Rn w (ss.getD p undef) (ns.take k++[nm]++ns.drop k)) ?_ ?_ _ ?_ ?_ ?_
   ·rintro u W W' ⟨h1,h2,h3⟩;obtain⟨q',cap',rfl⟩:=eS h1;exact⟨⟨_,_,_,rfl⟩,h2.block gv λe=>e.elim (λe=>by omega) hgS⟩
   ·intro _ hkw hh W vb hW hvb hvh;have hrow:=rB (h.below hW).inn hp;rw[ei,hns]at hrow;have hob:∀ x,Value.ownBlock (.slice qi ns.length ci)=some x->x∈ob (ss.getD p undef):=λx hx=>by rw[ei];simp[ob,hx]
    refine(aRF (.slice qi ns.length ci) ns.length k (tR ns) [.int .i64 nm] vb 1 #[.int .i64 nm] 2 W hrow hle (by omega) rfl hvh rfl (λe=>?_) (aF5 ns) (by intro v hv;simp at hv;subst hv;rfl)).mono ?_
    ·have:vb < w.heap.size:=h.lt vb (sO (bB.2 ⟨_,eG undef (by rw[h.inn.1];exact hp),hob vb e⟩));omega
    ·rintro e W1 ⟨u,rfl,k1,k2,k3⟩;have hsz:=hW.size;refine⟨u,rfl,?_,⟨k2.os,k2.tape,k2.output,k2.size,λb hb=>k2.block b λe=>hb ?_⟩,λb hb=>?_⟩
     ·rw[show(ns.take k++[nm]++ns.drop k).length=ns.length+1 by simp only[aW,bA,bL,cB,dQ];omega];rw[uZ,dN,dN,pR,pS,<-uZ];rw[fE]at k1;exact k1
     ·rcases e with e | e
      ·exact .inl (by omega)
      ·exact .inr (hob b e)
     ·have hb':u.ownBlock=some b:=by simpa[ob]using hb
      rcases(k3 b hb').1 with h4 | h4
      ·exact .inr (by omega)
      ·exact .inl (hob b h4)
   ·intro hh W hW;rcases hh with hh | hh
    ·cases hh
    ·rw[hh]at hm;cases hm;exact⟨rfl,_,_,_,_,h.below hW,gF hW (λb hb=>.inl hb),λb hb=>.inr hb⟩
   ·intro _ hkw hh W hW;rw[hkw,hh]at hm;cases hm;exact⟨rfl,_,_,_,_,h.below hW,gF hW (λb hb=>.inl hb),λb hb=>.inr hb⟩
   ·rintro _ hkw hh W W1 u hW ⟨h1,h2,h3⟩;rw[hkw,hh]at hm;cases hm;have hkeep:∀ b,b < w.heap.size->b∉ob (ss.getD p undef)->W1.heap[b]?=w.heap[b]?:=λb hb hn=>(h2.block b λe=>e.elim (λe=>by omega) hn).trans (hW.block b hb)
    refine⟨rfl,_,_,_,_,h.setV hp hkeep h1 h3,?_,?_⟩
    ·refine((gF hW (λb hb=>.inl hb)).trans ⟨h2.os,h2.tape,h2.output,h2.size,λb hb=>h2.block b λe=>hb ?_⟩).trans (mW (.inr (.inl (aDS rfl))));rcases e with e | e
     ·exact .inl e
     ·refine .inr (.inl (sO (bB.2 ⟨_,eG undef (by rw[h.inn.1];exact hp),e⟩)))
    ·intro b hb;have hp':p < ss.length:=by rw[h.inn.1];exact hp
     have hb:b∈ob (.slice q c.2.1.length cap)++(ob (.slice (some ⟨gv,0,none⟩) c.2.2.length cap2)++(ss.set p u).flatMap ob):=hb;rcases aA.1 hb with hb | hb
     ·exact .inr (aA.2 (.inl hb))
     ·rcases aA.1 hb with hb | hb
      ·exact .inr (aA.2 (.inr (aA.2 (.inl hb))))
      ·obtain⟨s,hs,hbs⟩:=bB.1 hb;rcases List.mem_or_eq_of_mem_set hs with hs | rfl
       ·exact .inr (sO (bB.2 ⟨s,hs,hbs⟩))
       ·rcases h3 b hbs with h4 | h4
        ·exact .inr (sO (bB.2 ⟨_,eG undef hp',h4⟩))
        ·exact .inl h4
 ·cases hm
theorem aDw {w W0:World}{c0 c1 c2:Array Value}{t0 t1 t2:TypeId}(h:((w.alloc (.cells c0 t0)).alloc (.cells c1 t1)).alloc (.cells c2 t2)=W0) :
  Below w.heap.size w W0/\W0.heap.size=w.heap.size+1+1+1/\W0.heap[w.heap.size]?=some (.cells c0 t0 (0,0))/\W0.heap[w.heap.size+1]?=some (.cells c1 t1 (0,0))/\W0.heap[w.heap.size+1+1]?=some (.cells c2 t2 (0,0)):=by
 generalize hA:w.alloc (.cells c0 t0)=A at h
 generalize hB:A.alloc (.cells c1 t1)=B at h
 have sA:A.heap.size=w.heap.size+1:=by rw[<-hA,World.size_alloc]
 have sB:B.heap.size=w.heap.size+1+1:=by rw[<-hB,World.size_alloc,sA]
 have sC:W0.heap.size=w.heap.size+1+1+1:=by rw[<-h,World.size_alloc,sB]
 have a0:A.heap[w.heap.size]?=some (.cells c0 t0 (0,0)):=by rw[<-hA];exact World.alloc_heap_new w _
 have a1:B.heap[w.heap.size+1]?=some (.cells c1 t1 (0,0)):=by rw[<-hB,<-sA];exact World.alloc_heap_new A _
 have a2:W0.heap[w.heap.size+1+1]?=some (.cells c2 t2 (0,0)):=by rw[<-h,<-sB];exact World.alloc_heap_new B _
 have lA:Below w.heap.size w A:=by rw[<-hA];exact(Below.refl _ w).alloc (aK _) _
 have lB:Below A.heap.size A B:=by rw[<-hB];exact(Below.refl _ A).alloc (aK _) _
 have lC:Below B.heap.size B W0:=by rw[<-h];exact(Below.refl _ B).alloc (aK _) _
 refine⟨(lA.trans (lB.mono (by omega))).trans (lC.mono (by omega)),sC,?_,?_,a2⟩
 ·exact(lC.block _ (by omega)).trans ((lB.block _ (by omega)).trans a0)
 ·exact(lC.block _ (by omega)).trans a1
section
attribute [local go_sem] Oper.semAt_some
set_option maxRecDepth 100000 in
set_option maxHeartbeats 8000000 in
theorem jS (ap:Nat)(hno:ap=53\/ap=54\/ap=56\/ap=57\/ap=60\/ap=61\/ap=62\/ap=63\/ap=65)(a kd ex nm ad nu pr:Int)(q1 q2:Option Addr)(n1 c1 n2 c2:Nat)(w:World)(k21 k22:Int)(G:Ending->World->Prop)
  (h21:∀ W,Below w.heap.size w W->Calls prog 21 #[.agg #[.int .i64 a,.slice q1 n1 c1,.slice q2 n2 c2]] W λe W'=>e=.returned (.int .i64 k21)/\Below W.heap.size W W')
  (h22:CB 22 #[.agg #[.int .i64 kd,.int .i64 ex,.int .i64 nm,.int .i64 ad,.int .i64 nu,.int .i64 pr]] (.int .i64 k22))
  (R23:World->World->Value->Value->Prop) (hR23:∀ W W' t1 t2,R23 W W' t1 t2->Below W.heap.size W W'/\(∃ q n c,t1=.slice q n c)/\∃ q n c,t2=.slice q n c)
  (h23:k21=0->∀ W,Below w.heap.size w W->Calls prog 23 #[.agg #[.int .i64 a,.slice q1 n1 c1,.slice q2 n2 c2]] W λe W'=>∃ t1 t2,e=.returned (.agg #[.int .i64 a,t1,t2])/\R23 W W' t1 t2)
  (rr0 rr1 rr2 rr3:Value) (h24:k22=0->CB 24 #[.int .i64 kd] (.agg #[rr0,rr1,rr2,rr3,.func (.func ap) #[] #[]]))
  (RA:Int->Int->Value->Value->Nat->World->Prop)
  (hap:k21=0->k22=0->a≠1000000->ex=-1\/ex=a->∀ W W1 t1 t2 W2 g,Below w.heap.size w W->w.heap.size+1+1 < W.heap.size->R23 W W1 t1 t2->Below W1.heap.size W1 W2->W1.heap.size<=g->W2.heap[g]?=some (.cells #[.int .i64 a,t1,t2] 32 (0,0))->
   Calls prog ap #[.pointer (some ⟨g,0,none⟩),.agg #[.int .i64 kd,.int .i64 ex,.int .i64 nm,.int .i64 ad,.int .i64 nu,.int .i64 pr]] W2 λe W3=>∃ r a' u1 u2 t',e=.returned (.int .i64 r)/\W3.heap[g]?=some (.cells #[.int .i64 a',u1,u2] t' (0,0)) ∧
    ((∃ q n c,u1=.slice q n c)/\∃ q n c,u2=.slice q n c)/\Below W.heap.size W W3/\RA r a' u1 u2 g W3)
  (hGr:∀ r a' u1 u2 g W3 Wf,RA r a' u1 u2 g W3->r≠0->Below w.heap.size w Wf->G (.returned (.agg #[.int .i64 r,.int .i64 0,.slice none 0 0,.slice none 0 0])) Wf)
  (hG0:∀ a' u1 u2 g W3 Wf,RA 0 a' u1 u2 g W3->Below w.heap.size w Wf->w.heap.size+1+1 < g->(∀ b,b≠g->b≠w.heap.size+1+1->Wf.heap[b]?=W3.heap[b]?)->G (.returned (.agg #[.int .i64 0,.int .i64 (wrap64 (a'+1)),u1,u2])) Wf)
  (hGe:∀ r W,(k21≠0/\r=k21)\/(k21=0/\k22≠0/\r=k22)\/(k21=0/\k22=0/\a=1000000/\r=3)\/(k21=0/\k22=0/\a≠1000000/\ex≠-1/\ex≠a/\r=9)->Below w.heap.size w W->G (.returned (.agg #[.int .i64 r,.int .i64 0,.slice none 0 0,.slice none 0 0])) W) :
  Calls prog 8 #[.agg #[.int .i64 a,.slice q1 n1 c1,.slice q2 n2 c2],.agg #[.int .i64 kd,.int .i64 ex,.int .i64 nm,.int .i64 ad,.int .i64 nu,.int .i64 pr]] w G:=by
 have hfd:∀ W,Sem.run prog (Instr.field 56 (.agg #[rr0,rr1,rr2,rr3,.func (.func ap) #[] #[]]) 4) W=.ok (.func (.func ap) #[] #[]) W:=λW=>by kernel_rfl
 all_goals (
  generalize hW0:((w.alloc (.cells #[.int .i64 a,.slice q1 n1 c1,.slice q2 n2 c2] 32)).alloc (.cells #[.int .i64 kd,.int .i64 ex,.int .i64 nm,.int .i64 ad,.int .i64 nu,.int .i64 pr] 37)).alloc (.cells #[.int .i64 0,.int .i64 0,.slice none 0 0,.slice none 0 0] 34)=W0
  obtain⟨hB0,hs0,b0,b1,b2⟩:Below w.heap.size w W0/\W0.heap.size=w.heap.size+1+1+1/\W0.heap[w.heap.size]?=some (.cells #[.int .i64 a,.slice q1 n1 c1,.slice q2 n2 c2] 32 (0,0)) ∧
    W0.heap[w.heap.size+1]?=some (.cells #[.int .i64 kd,.int .i64 ex,.int .i64 nm,.int .i64 ad,.int .i64 nu,.int .i64 pr] 37 (0,0)) ∧
    W0.heap[w.heap.size+1+1]?=some (.cells #[.int .i64 0,.int .i64 0,.slice none 0 0,.slice none 0 0] 34 (0,0)):=aDw hW0
  have hr:∀ W,Below W0.heap.size W0 W->((W.cell? ⟨w.heap.size,0,none⟩=some (.int .i64 a)/\W.cell? ⟨w.heap.size,1,none⟩=some (.slice q1 n1 c1)/\W.cell? ⟨w.heap.size,2,none⟩=some (.slice q2 n2 c2)) ∧
    (W.cell? ⟨w.heap.size+1,0,none⟩=some (.int .i64 kd)/\W.cell? ⟨w.heap.size+1,1,none⟩=some (.int .i64 ex)/\W.cell? ⟨w.heap.size+1,2,none⟩=some (.int .i64 nm)/\W.cell? ⟨w.heap.size+1,3,none⟩=some (.int .i64 ad)/\W.cell? ⟨w.heap.size+1,4,none⟩=some (.int .i64 nu)/\W.cell? ⟨w.heap.size+1,5,none⟩=some (.int .i64 pr))) ∧
    ((W.cell? ⟨w.heap.size+1+1,0,none⟩=some (.int .i64 0)/\W.cell? ⟨w.heap.size+1+1,1,none⟩=some (.int .i64 0)/\W.cell? ⟨w.heap.size+1+1,2,none⟩=some (.slice none 0 0)/\W.cell? ⟨w.heap.size+1+1,3,none⟩=some (.slice none 0 0)) ∧
    (W.frozen? ⟨w.heap.size+1+1,0,none⟩=false/\W.frozen? ⟨w.heap.size+1+1,1,none⟩=false/\W.frozen? ⟨w.heap.size+1+1,2,none⟩=false/\W.frozen? ⟨w.heap.size+1+1,3,none⟩=false)):=λW h=>by
   have e1:=(h.block w.heap.size (by omega)).trans b0;have e2:=(h.block (w.heap.size+1) (by omega)).trans b1;have e3:=(h.block (w.heap.size+1+1) (by omega)).trans b2;exact⟨⟨⟨(cell_of_row _ _ _ _ 32 (0,0) e1).trans rfl,(cell_of_row _ _ _ _ 32 (0,0) e1).trans rfl,(cell_of_row _ _ _ _ 32 (0,0) e1).trans rfl⟩,(cell_of_row _ _ _ _ 37 (0,0) e2).trans rfl,(cell_of_row _ _ _ _ 37 (0,0) e2).trans rfl,(cell_of_row _ _ _ _ 37 (0,0) e2).trans rfl,(cell_of_row _ _ _ _ 37 (0,0) e2).trans rfl,(cell_of_row _ _ _ _ 37 (0,0) e2).trans rfl,(cell_of_row _ _ _ _ 37 (0,0) e2).trans rfl⟩,
    ⟨(cell_of_row _ _ _ _ 34 (0,0) e3).trans rfl,(cell_of_row _ _ _ _ 34 (0,0) e3).trans rfl,(cell_of_row _ _ _ _ 34 (0,0) e3).trans rfl,(cell_of_row _ _ _ _ 34 (0,0) e3).trans rfl⟩,frozen_of_row _ _ _ _ 34 e3,frozen_of_row _ _ _ _ 34 e3,frozen_of_row _ _ _ _ 34 e3,frozen_of_row _ _ _ _ 34 e3⟩
  have hS:=Below.refl W0.heap.size W0;obtain⟨⟨⟨k0,k1,k2⟩,k3,k4,k5,k6,k7,k8⟩,⟨r0,r1,r2,r3⟩,g0,g1,g2,g3⟩:=hr _ hS
  go_enter func8,ntmps8
  by_cases h0:k21=0
  ·subst h0;by_cases h1:k22=0
   ·subst h1;by_cases h2:a=1000000
    ·subst h2
     go_wp2_with (first
       | (go_at_call 21;refine(h21 _ hB0).mono ?_;rintro e w1 ⟨rfl,hb1⟩;replace hS:=hS.trans (hb1.mono hS.size);clear k0 k1 k2 k3 k4 k5 k6 k7 k8 r0 r1 r2 r3 g0 g1 g2 g3;obtain⟨⟨⟨k0,k1,k2⟩,k3,k4,k5,k6,k7,k8⟩,⟨r0,r1,r2,r3⟩,g0,g1,g2,g3⟩:=hr _ hS)
       | (go_at_call 22;refine(h22 _).mono ?_;rintro e w2 ⟨rfl,hb2⟩;replace hS:=hS.trans (hb2.mono hS.size);clear k0 k1 k2 k3 k4 k5 k6 k7 k8 r0 r1 r2 r3 g0 g1 g2 g3;obtain⟨⟨⟨k0,k1,k2⟩,k3,k4,k5,k6,k7,k8⟩,⟨r0,r1,r2,r3⟩,g0,g1,g2,g3⟩:=hr _ hS)
       | fail)
     have hS':Below w.heap.size w w2:=hB0.trans (hS.mono hB0.size);refine bodyPost_ret (v:=.agg #[.int .i64 3,.int .i64 0,.slice none 0 0,.slice none 0 0]) ?_ rfl (hGe 3 _ (by first | exact(.inr (.inr (.inl ⟨rfl,rfl,rfl,rfl⟩))) | (simp;done) | (simp[*];done) | simp_all) ((((hS'.setCell (by show _<=w.heap.size+1+1;omega) _).setCell (by show _<=w.heap.size+1+1;omega) _).setCell (by show _<=w.heap.size+1+1;omega) _).setCell (by show _<=w.heap.size+1+1;omega) _));simp[results,show f8.results=#[ResultVar.cell 4 34] from rfl,go_sem,r0,r1,r2,r3]
    ·by_cases h5:ex=-1\/ex=a
     ·clear hGe;replace h24:=h24 rfl;replace hap:=hap rfl rfl h2 h5;replace h23:=h23 rfl;have h6:ex=-1\/¬ ex=-1/\a=ex:=by omega
      clear h5;rcases h6 with h3 | ⟨h3,h4⟩
      all_goals (first | subst h4 | subst h3)
      all_goals (
       go_wp2_with (first
         | (go_at_call 21;refine(h21 _ hB0).mono ?_;rintro e w1 ⟨rfl,hb1⟩;replace hS:=hS.trans (hb1.mono hS.size);clear k0 k1 k2 k3 k4 k5 k6 k7 k8 r0 r1 r2 r3 g0 g1 g2 g3;obtain⟨⟨⟨k0,k1,k2⟩,k3,k4,k5,k6,k7,k8⟩,⟨r0,r1,r2,r3⟩,g0,g1,g2,g3⟩:=hr _ hS)
         | (go_at_call 22;refine(h22 _).mono ?_;rintro e w2 ⟨rfl,hb2⟩;replace hS:=hS.trans (hb2.mono hS.size);clear k0 k1 k2 k3 k4 k5 k6 k7 k8 r0 r1 r2 r3 g0 g1 g2 g3;obtain⟨⟨⟨k0,k1,k2⟩,k3,k4,k5,k6,k7,k8⟩,⟨r0,r1,r2,r3⟩,g0,g1,g2,g3⟩:=hr _ hS)
         | fail)
       have hSw2:=hS;have hwW:Below w.heap.size w w2:=hB0.trans (hS.mono hB0.size);have hsW:W0.heap.size<=w2.heap.size:=hS.size;refine(h23 _ hwW).mono ?_;rintro e w3 ⟨t1,t2,rfl,hR⟩;obtain⟨hb3,⟨qa,na,ca,rfl⟩,qb,nb,cb,rfl⟩:=hR23 _ _ _ _ hR;replace hap:=λW2 g=>hap _ _ _ _ W2 g hwW (by omega) hR
       clear hR23 h23 h22 h21 hR;replace hS:=hS.trans (hb3.mono hS.size);have hsz3:=hb3.size
       go_upto_region 12 with fail
       generalize hW2:w3.alloc (.cells #[.int .i64 a,.slice qa na ca,.slice qb nb cb] 32)=W2
       have hS2:Below w3.heap.size w3 W2:=by subst hW2;exact(Below.refl _ w3).alloc (aK _) _
       have b7:W2.heap[w3.heap.size]?=some (.cells #[.int .i64 a,.slice qa na ca,.slice qb nb cb] 32 (0,0)):=by subst hW2;exact World.alloc_heap_new w3 _
       have hs7:W2.heap.size=w3.heap.size+1:=by subst hW2;simp
       replace hS:=hS.trans (hS2.mono hS.size);clear hW2;have hSx:=Below.refl W2.heap.size W2;clear k0 k1 k2 k3 k4 k5 k6 k7 k8 r0 r1 r2 r3 g0 g1 g2 g3;obtain⟨⟨⟨k0,k1,k2⟩,k3,k4,k5,k6,k7,k8⟩,⟨r0,r1,r2,r3⟩,g0,g1,g2,g3⟩:=hr _ hS
       go_cut [8] (λs8 wx=>∃ r a' u1 u2 t',s8=.int .i64 r/\wx.heap[w3.heap.size]?=some (.cells #[.int .i64 a',u1,u2] t' (0,0))/\((∃ q n c,u1=.slice q n c)/\∃ q n c,u2=.slice q n c)/\Below w2.heap.size w2 wx/\∃ W3,RA r a' u1 u2 w3.heap.size W3/\wx.heap=W3.heap)
       case first=>
        rcases hno with rfl | rfl | rfl | rfl | rfl | rfl | rfl | rfl | rfl
        all_goals (
         go_region_with (first
          | (go_at_call 24;refine(h24 _).mono ?_;rintro e w4 ⟨rfl,hb4⟩;first | replace hS:=hS.trans (hb4.mono hS.size) | replace hS:=hS.drew.trans (hb4.mono hS.drew.size);first | replace hSx:=hSx.trans (hb4.mono hSx.size) | replace hSx:=hSx.drew.trans (hb4.mono hSx.drew.size);clear k0 k1 k2 k3 k4 k5 k6 k7 k8 r0 r1 r2 r3 g0 g1 g2 g3;obtain⟨⟨⟨k0,k1,k2⟩,k3,k4,k5,k6,k7,k8⟩,⟨r0,r1,r2,r3⟩,g0,g1,g2,g3⟩:=hr _ hS)
          | ((first | go_at_call 53 | go_at_call 54 | go_at_call 56 | go_at_call 57 | go_at_call 60 | go_at_call 61 | go_at_call 62 | go_at_call 63 | go_at_call 65);refine(hap _ w3.heap.size (hS2.trans (hSx.mono hS2.size)) (aK _) ((hSx.block _ (by omega)).trans b7)).mono ?_;rintro e w5 ⟨r,a',u1,u2,t',rfl,hw5,hsl,hb5,hRA⟩))
         all_goals (go_wp2_with fail;go_meet;exact⟨_,_,_,_,_,rfl,hw5,hsl,hb5,w5,hRA,rfl⟩))
       case rest=>
        obtain⟨r,a',u1,u2,t',rfl,hw5,⟨⟨qc,nc,cc,rfl⟩,qd,nd,cd,rfl⟩,hb5,W3,hRA,hWe⟩:=hcut;have hSc:=hSw2.trans (hb5.mono hSw2.size);have hwc:Below w.heap.size w wc:=hB0.trans (hSc.mono hB0.size);have hgs:w.heap.size+1+1 < w3.heap.size:=by omega
        have hne:¬ w3.heap.size=w.heap.size+1+1:=by omega
        have hne':¬ w.heap.size+1+1=w3.heap.size:=by omega
        have z0:wc.cell? ⟨w3.heap.size,0,none⟩=some (.int .i64 a'):=(cell_of_row _ _ _ _ t' (0,0) hw5).trans rfl;have z1:wc.cell? ⟨w3.heap.size,1,none⟩=some (.slice qc nc cc):=(cell_of_row _ _ _ _ t' (0,0) hw5).trans rfl;have z2:wc.cell? ⟨w3.heap.size,2,none⟩=some (.slice qd nd cd):=(cell_of_row _ _ _ _ t' (0,0) hw5).trans rfl;have f0:wc.frozen? ⟨w3.heap.size,0,none⟩=false:=frozen_of_row _ _ _ _ t' hw5;clear k0 k1 k2 k3 k4 k5 k6 k7 k8 r0 r1 r2 r3 g0 g1 g2 g3;obtain⟨⟨⟨k0,k1,k2⟩,k3,k4,k5,k6,k7,k8⟩,⟨r0,r1,r2,r3⟩,g0,g1,g2,g3⟩:=hr _ hSc;clear hr hap h24;by_cases hr0:r=0
        ·subst hr0
         go_wp2
         refine bodyPost_ret (v:=.agg #[.int .i64 0,.int .i64 (wrap64 (a'+1)),.slice qc nc cc,.slice qd nd cd]) ?_ rfl (hG0 a' _ _ _ W3 _ hRA (((((hwc.setCell (by show _<=w3.heap.size;omega) _).setCell (by show _<=w.heap.size+1+1;omega) _).setCell (by show _<=w.heap.size+1+1;omega) _).setCell (by show _<=w.heap.size+1+1;omega) _).setCell (by show _<=w.heap.size+1+1;omega) _) hgs λb h5 h6=>?_)
         ·simp[results,show f8.results=#[ResultVar.cell 4 34] from rfl,go_sem,r0,r1,r2,r3,hne,hne']
         ·exact((Below.heap_setCell _ _ _ b h6).trans ((Below.heap_setCell _ _ _ b h6).trans ((Below.heap_setCell _ _ _ b h6).trans ((Below.heap_setCell _ _ _ b h6).trans (Below.heap_setCell _ _ _ b h5))))).trans (by rw[hWe])
        ·go_wp2
         refine bodyPost_ret (v:=.agg #[.int .i64 r,.int .i64 0,.slice none 0 0,.slice none 0 0]) ?_ rfl (hGr r a' _ _ _ W3 _ hRA hr0 ((((hwc.setCell (by show _<=w.heap.size+1+1;omega) _).setCell (by show _<=w.heap.size+1+1;omega) _).setCell (by show _<=w.heap.size+1+1;omega) _).setCell (by show _<=w.heap.size+1+1;omega) _));simp[results,show f8.results=#[ResultVar.cell 4 34] from rfl,go_sem,r0,r1,r2,r3])
     ·obtain⟨h3,h4⟩:=not_or.1 h5;have h3b:(ex != -1)=true:=by simpa using h3
      have h4b:(ex != a)=true:=by simpa using h4
      go_wp2_with (first
        | (go_at_call 21;refine(h21 _ hB0).mono ?_;rintro e w1 ⟨rfl,hb1⟩;replace hS:=hS.trans (hb1.mono hS.size);clear k0 k1 k2 k3 k4 k5 k6 k7 k8 r0 r1 r2 r3 g0 g1 g2 g3;obtain⟨⟨⟨k0,k1,k2⟩,k3,k4,k5,k6,k7,k8⟩,⟨r0,r1,r2,r3⟩,g0,g1,g2,g3⟩:=hr _ hS)
        | (go_at_call 22;refine(h22 _).mono ?_;rintro e w2 ⟨rfl,hb2⟩;replace hS:=hS.trans (hb2.mono hS.size);clear k0 k1 k2 k3 k4 k5 k6 k7 k8 r0 r1 r2 r3 g0 g1 g2 g3;obtain⟨⟨⟨k0,k1,k2⟩,k3,k4,k5,k6,k7,k8⟩,⟨r0,r1,r2,r3⟩,g0,g1,g2,g3⟩:=hr _ hS)
        | fail)
      have hS':Below w.heap.size w w2:=hB0.trans (hS.mono hB0.size);refine bodyPost_ret (v:=.agg #[.int .i64 9,.int .i64 0,.slice none 0 0,.slice none 0 0]) ?_ rfl (hGe 9 _ (by first | exact(.inr (.inr (.inr ⟨rfl,rfl,h2,h3,h4,rfl⟩))) | (simp;done) | (simp[*];done) | simp_all) ((((hS'.setCell (by show _<=w.heap.size+1+1;omega) _).setCell (by show _<=w.heap.size+1+1;omega) _).setCell (by show _<=w.heap.size+1+1;omega) _).setCell (by show _<=w.heap.size+1+1;omega) _));simp[results,show f8.results=#[ResultVar.cell 4 34] from rfl,go_sem,r0,r1,r2,r3]
   ·go_wp2_with (first
      | (go_at_call 21;refine(h21 _ hB0).mono ?_;rintro e w1 ⟨rfl,hb1⟩;replace hS:=hS.trans (hb1.mono hS.size);clear k0 k1 k2 k3 k4 k5 k6 k7 k8 r0 r1 r2 r3 g0 g1 g2 g3;obtain⟨⟨⟨k0,k1,k2⟩,k3,k4,k5,k6,k7,k8⟩,⟨r0,r1,r2,r3⟩,g0,g1,g2,g3⟩:=hr _ hS)
      | (go_at_call 22;refine(h22 _).mono ?_;rintro e w2 ⟨rfl,hb2⟩;replace hS:=hS.trans (hb2.mono hS.size);clear k0 k1 k2 k3 k4 k5 k6 k7 k8 r0 r1 r2 r3 g0 g1 g2 g3;obtain⟨⟨⟨k0,k1,k2⟩,k3,k4,k5,k6,k7,k8⟩,⟨r0,r1,r2,r3⟩,g0,g1,g2,g3⟩:=hr _ hS)
      | fail)
    have hS':Below w.heap.size w w2:=hB0.trans (hS.mono hB0.size);refine bodyPost_ret (v:=.agg #[.int .i64 k22,.int .i64 0,.slice none 0 0,.slice none 0 0]) ?_ rfl (hGe k22 _ (by first | exact(.inr (.inl ⟨rfl,h1,rfl⟩)) | (simp;done) | (simp[*];done) | simp_all) ((((hS'.setCell (by show _<=w.heap.size+1+1;omega) _).setCell (by show _<=w.heap.size+1+1;omega) _).setCell (by show _<=w.heap.size+1+1;omega) _).setCell (by show _<=w.heap.size+1+1;omega) _));simp[results,show f8.results=#[ResultVar.cell 4 34] from rfl,go_sem,r0,r1,r2,r3]
  ·go_wp2_with (first
     | (go_at_call 21;refine(h21 _ hB0).mono ?_;rintro e w1 ⟨rfl,hb1⟩;replace hS:=hS.trans (hb1.mono hS.size);clear k0 k1 k2 k3 k4 k5 k6 k7 k8 r0 r1 r2 r3 g0 g1 g2 g3;obtain⟨⟨⟨k0,k1,k2⟩,k3,k4,k5,k6,k7,k8⟩,⟨r0,r1,r2,r3⟩,g0,g1,g2,g3⟩:=hr _ hS)
     | (go_at_call 22;refine(h22 _).mono ?_;rintro e w2 ⟨rfl,hb2⟩;replace hS:=hS.trans (hb2.mono hS.size);clear k0 k1 k2 k3 k4 k5 k6 k7 k8 r0 r1 r2 r3 g0 g1 g2 g3;obtain⟨⟨⟨k0,k1,k2⟩,k3,k4,k5,k6,k7,k8⟩,⟨r0,r1,r2,r3⟩,g0,g1,g2,g3⟩:=hr _ hS)
     | fail)
   have hS':Below w.heap.size w w1:=hB0.trans (hS.mono hB0.size);refine bodyPost_ret (v:=.agg #[.int .i64 k21,.int .i64 0,.slice none 0 0,.slice none 0 0]) ?_ rfl (hGe k21 _ (by first | exact(.inl ⟨h0,rfl⟩) | (simp;done) | (simp[*];done) | simp_all) ((((hS'.setCell (by show _<=w.heap.size+1+1;omega) _).setCell (by show _<=w.heap.size+1+1;omega) _).setCell (by show _<=w.heap.size+1+1;omega) _).setCell (by show _<=w.heap.size+1+1;omega) _));simp[results,show f8.results=#[ResultVar.cell 4 34] from rfl,go_sem,r0,r1,r2,r3])
end
end Go.Proofs.Tryz
