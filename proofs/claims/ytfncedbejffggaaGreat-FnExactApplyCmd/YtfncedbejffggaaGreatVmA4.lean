/- A part of the proof of FnExactApplyCmd: VmA4, VmA5, VmA6, VmA7, VmA8. -/
import Derived.Test.YtfncedbejffggaaGreatVmA
set_option linter.unusedSimpArgs false
set_option linter.unusedVariables false
namespace Go.VM
open Go.RowKit
section
variable {cx : Cx} {P : Program}
theorem zH (u:Value):(vb u).Nodup:=by
 unfold vb;split<;>simp
theorem aBZ {c:Ct cx.ty}(h:Wf cx c){w':World}{nm0:Nat}(hf:∀ n,Nm c n->¬ (nm0<=n/\n < nm0+64)){dn r:List Nat}(hdn:∀ tk∈c.T,tk.nm∈dn->∃ s,tk.c=.inl s)(hdT:∀ n∈dn,∃ tk∈c.T,tk.nm=n){u':Value}{s':SlD cx.ty}(hs':s'.own=1/\s'.nm=nm0)
  (hblk:∀ b∈vb u',(∃ tk∈c.T,tk.nm∈dn/\b∈vb tk.u)\/(c.w.heap.size<=b/\b < w'.heap.size))
  (hheap:∀ b,b < c.w.heap.size->(∀ tk∈c.T,tk.nm∈dn->b∉vb tk.u)->w'.heap[b]?=c.w.heap[b]?) (hsz:c.w.heap.size<=w'.heap.size) (hbel:Kept c.N c.w w')
  (htok:∀ c':Ct cx.ty,c'.w=w'->TokRep cx c' { nm:=nm0,u:=u',fp:=[],c:=.inl s' }) (hsl:∃ a n cap,u'=.slice a n cap) :
  Good cx c { v:=vs s',dead:=dn,frz:=[],live:=dn,read:=r } nm0 u' w' ({ nm:=nm0,u:=u',fp:=[],c:=.inl s' }::c.T.filter (λtk=>!dn.contains tk.nm)):=by
 have hmem:∀ tk,tk∈c.T.filter (λtk=>!dn.contains tk.nm)↔tk∈c.T/\tk.nm∉dn:=λtk=>by simp[eH]
 have hpres:Pres cx c (c.nx { v:=vs s',dead:=dn,frz:=[],live:=dn,read:=r } w' ({ nm:=nm0,u:=u',fp:=[],c:=.inl s' }::c.T.filter (λtk=>!dn.contains tk.nm))):=by
  refine⟨λb hb=>?_,λn hn=>aA.2 (.inr hn),λn hn=>hn,λtk ht hD _=>?_,λtk ht l hl=>?_,λtk ht _ _ _ hF=>absurd hF (h.live tk ht).2⟩
  ·obtain⟨h1,h2,h3⟩:=hb;refine⟨⟨cN h1 hsz,h2,λtk ht hv=>?_⟩,hheap b h1 (λtk ht _=>h3 tk ht)⟩;rcases bS.1 ht with ht | ht
   ·subst ht;rcases hblk b hv with⟨tk,k1,_,k3⟩ | hk
    ·exact h3 tk k1 k3
    ·omega
   ·exact h3 tk ((hmem tk).1 ht).1 hv
  ·refine bG _ ((hmem tk).2 ⟨ht,λhd=>hD (aA.2 (.inl hd))⟩)
  ·refine bG _ ((hmem tk).2 ⟨ht,λhd=>?_⟩);obtain⟨s,hs⟩:=hdn tk ht hd;rw[hl]at hs;cases hs
 have hother:∀ tk∈c.T,tk.nm∉dn->∀ b∈cS tk,∀ t2∈c.T,t2.nm∈dn->b∉vb t2.u:=λtk ht hn b hb t2 ht2 hn2 hb2=>
  dD h ht ht2 (λe=>hn (e▸hn2)) hb (aA.2 (.inl hb2))
 refine⟨⟨?_,?_,?_,?_,h.start,?_,λb hb=>h.size b (dZ hsz hb)⟩,hpres,?_,hbel,?_⟩
 ·show(List.map _ (_::_)).Nodup;rw[cU,dM];refine⟨λhm=>?_,(iE _ gE).nodup h.names⟩;obtain⟨tk,ht,he⟩:=aM.1 hm;have he:tk.nm=nm0:=he;exact hf _ (.inl ⟨tk,((hmem tk).1 ht).1,rfl⟩) ⟨by omega,by omega⟩
 ·show(List.flatMap _ (_::_)).Nodup;rw[aR,aH];refine⟨by simpa using zH u',?_,λa ha b hb he=>?_⟩
  ·have hsub:List.Sublist ((c.T.filter (λtk=>!dn.contains tk.nm)).flatMap λtk=>vb tk.u++tk.fp) (c.T.flatMap λtk=>vb tk.u++tk.fp):=by
    have:∀ T:List (Tk cx.ty),List.Sublist ((T.filter (λtk=>!dn.contains tk.nm)).flatMap λtk=>vb tk.u++tk.fp) (T.flatMap λtk=>vb tk.u++tk.fp):=by
     intro T
     induction T with
     | nil=>exact dX _
     | cons x r ih=>
      rw[kG];split
      ·rw[aR,aR];exact(dX _).append ih
      ·rw[aR];exact ih.trans (fI _ _)
    exact this _
   exact hsub.nodup h.nodup
  ·subst he;simp only[dR]at ha;obtain⟨tk,ht,hb⟩:=bB.1 hb;obtain⟨ht1,ht2⟩:=(hmem tk).1 ht;rcases hblk a ha with⟨t2,k1,k2,k3⟩ | hk
   ·exact hother tk ht1 ht2 a hb t2 k1 k2 k3
   ·have:=(h.bound tk ht1 a hb).2;omega
 ·intro tk ht b hb;rcases bS.1 ht with ht | ht
  ·subst ht;simp only[dR]at hb;rcases hblk b hb with⟨t2,k1,k2,k3⟩ | hk
   ·have:=h.bound t2 k1 b (aA.2 (.inl k3));exact⟨this.1,cN this.2 hsz⟩
   ·have:=h.size;exact⟨by show c.N b;exact this b (by omega),hk.2⟩
  ·have:=h.bound tk ((hmem tk).1 ht).1 b hb;exact⟨this.1,cN this.2 hsz⟩
 ·intro tk ht;rcases bS.1 ht with ht | ht
  ·subst ht;exact htok _ rfl
  ·obtain⟨ht1,ht2⟩:=(hmem tk).1 ht;exact TokRep.pres cx hpres (λb hb=>hheap b (h.bound tk ht1 b hb).2 (hother tk ht1 ht2 b hb)) (h.rep tk ht1)
 ·intro tk ht;rcases bS.1 ht with ht | ht
  ·subst ht;refine⟨λhd=>?_,λhd=>hf _ (.inr (.inr hd)) ⟨aK _,by show nm0 < nm0+64;omega⟩⟩;rcases aA.1 hd with hd | hd
   ·obtain⟨tk,k1,k2⟩:=hdT _ hd;exact hf _ (.inl ⟨tk,k1,k2⟩) ⟨aK _,by show nm0 < nm0+64;omega⟩
   ·exact hf _ (.inr (.inl hd)) ⟨aK _,by show nm0 < nm0+64;omega⟩
  ·obtain⟨ht1,ht2⟩:=(hmem tk).1 ht;refine⟨λhd=>?_,(h.live tk ht1).2⟩;rcases aA.1 hd with hd | hd
   ·exact ht2 hd
   ·exact(h.live tk ht1).1 hd
 ·refine(show RepV cx _ (vs s') u' from ?_);refine(show RepLS cx _ (some (.inr s')) u' from oO hs'.1 ?_ ?_ (bR ..) hs'.2.symm rfl rfl hsl)
  ·intro hd;rw[hs'.2]at hd;rcases aA.1 hd with hd | hd
   ·obtain⟨tk,k1,k2⟩:=hdT _ hd;exact hf _ (.inl ⟨tk,k1,k2⟩) ⟨aK _,by omega⟩
   ·exact hf _ (.inr (.inl hd)) ⟨aK _,by omega⟩
  ·intro hd;rw[hs'.2]at hd;exact hf _ (.inr (.inr hd)) ⟨aK _,by omega⟩
 ·intro n hn;rcases hn with⟨tk,ht,rfl⟩ | hn | hn
  ·rcases bS.1 ht with ht | ht
   ·subst ht;exact .inr ⟨aK _,by show nm0 < nm0+64;omega⟩
   ·exact .inl (.inl ⟨tk,((hmem tk).1 ht).1,rfl⟩)
  ·rcases aA.1 hn with hn | hn
   ·obtain⟨tk,k1,k2⟩:=hdT _ hn;exact .inl (.inl ⟨tk,k1,k2⟩)
   ·exact .inl (.inr (.inl hn))
  ·exact .inl (.inr (.inr hn))
theorem aBH (ok:cx.Ok){c:Ct cx.ty}(hw:Wf cx c){s:SlD cx.ty}(hflat:cx.flat s.e=true)(hpos:0 < cx.size s.e){u:Value}(h:RepLS cx c (some (.inr s)) u)(hd:∀ n∈rdn s,n∉c.D) :
  ∃ a cap,u=.slice a s.xs.length cap/\(s.xs=[]\/∃ ad,a=some ad/\∀ (j:Nat) v,(dG cx s.e s.xs)[j]?=some v->c.w.cell? (ad.add j)=some v):=by
 have key:∀ (b off:Nat),(∀ (i:Nat) x,s.xs[i]?=some x->∃ n,∀ j l,(cx.enc s.e false x)[j]?=some l->∃ v,c.w.cell? ⟨b,off+i * cx.size s.e+j,none⟩=some v/\RepL cx c.w (Rd c) n l v)->
   ∀ (j:Nat) v,(dG cx s.e s.xs)[j]?=some v->c.w.cell? ((⟨b,off,none⟩:Addr).add j)=some v:=by
  intro b off hc j v hv;have hlen:=jU ok hflat s.xs;have hjl:j < s.xs.length * cx.size s.e:=by rw[<-hlen];exact(aI.1 hv).1
  have hi:j / cx.size s.e < s.xs.length:=(Nat.div_lt_iff_lt_mul hpos).2 hjl;have hm:j % cx.size s.e < cx.size s.e:=wN _ hpos;have hj:j / cx.size s.e * cx.size s.e+j % cx.size s.e=j:=by rw[nU];exact nB j _
  obtain⟨n,hn⟩:=hc (j / cx.size s.e) _ (aC hi);have hfg:=gS (cx.enc s.e false) (cx.size s.e) (λx=>ok.len s.e false x) s.xs _ _ (aC hi) _ hm;rw[hj,mA ok hflat false s.xs,aX,hv]at hfg;obtain⟨v',h1,h2⟩:=hn _ _ hfg.symm;have h2:v'=v:=by cases n<;>simpa[RepL,lv]using h2
  rw[Addr.add_lit,<-h2,<-h1];congr 2;omega
 unfold RepLS at h;have ofRepL:∀ n,RepL cx c.w (Rd c) n (some (.inr s)) u->∃ a cap,u=.slice a s.xs.length cap/\(s.xs=[]\/∃ ad,a=some ad/\∀ (j:Nat) v,(dG cx s.e s.xs)[j]?=some v->c.w.cell? (ad.add j)=some v):=by
  intro n hn;cases n with
  | zero=>simp[RepL]at hn
  | succ n=>
   obtain⟨a,cap,hu,_,hcase⟩:=hn;refine⟨a,cap,hu,?_⟩;rcases hcase with hx | ⟨b,off,ha,hS,hc⟩
   ·exact .inl hx
   ·refine .inr ⟨⟨b,off,none⟩,ha,key b off (λi x hx=>⟨n,λj l hl=>?_⟩)⟩;obtain⟨v,hv,hr⟩:=hc i x hx j l hl;exact⟨v,by rw[gT];exact hv,hr⟩
 by_cases h1:s.own=1
 ·have h2:s.nm∉c.D:=hd _ (by simp[rdn,h1]);simp only[h1,if_true,h2,if_false]at h;obtain⟨_,h⟩:=h;by_cases h3:s.nm∈c.F
  ·simp only[h3,if_true]at h;obtain⟨n,h⟩:=h;exact ofRepL n h
  ·simp only[h3,if_false]at h;obtain⟨tk,ht,_,hc,hu⟩:=h;rcases tJ ok hw ht hc with⟨h4,h5⟩ | ⟨g,cap,h4,_,h5⟩
   ·exact⟨none,0,by rw[<-hu,h4,h5];rfl,.inl h5⟩
   ·refine⟨_,cap,by rw[<-hu,h4],.inr ⟨_,rfl,key g 0 (λi x hx=>?_)⟩⟩;obtain⟨n,hn⟩:=h5 i x hx;refine⟨n,λj l hl=>?_⟩;obtain⟨v,hv,hr⟩:=hn j l hl;exact⟨v,by rw[cX];exact hv,hr⟩
 ·simp only[h1,if_false]at h;obtain⟨n,h⟩:=h;exact ofRepL n h
theorem lD {w:World}{t ty e:TypeId}{i:TypeInfo}{z:Value}{size:Nat}(ht:P.underlying t=some (.slice e))(hi:P.info? e=some i)(hz:i.zero=some z)(hsize:i.size=size)(hzs:z.cells.size=size)(hpos:0 < size)
  {v:Value} {n:Nat} {xs:List Value} (hown:w.ownsRow 0 e size v n xs) {a:Option Addr} {m cap:Nat} {news:List Value} (hl:news.length=m * size) (hcells:m=0\/∃ ad,a=some ad/\∀ (j:Nat) u,news[j]?=some u->w.cell? (ad.add j)=some u)
  (h1:∀ u∈news,u.oneCell'=true) (h63:n+m<=maxLen) (hbytes:(n+m) * i.bytes<=140737488355328) :
  ∃ v' w',(Builtin.append_ #[t,t] ty #[v,.slice a m cap]).run P w=.ok v' w'/\w'.ownsRow 0 e size v' (n+m) (xs++news)/\w.grownBy w' v.ownBlock/\(∀ g,v'.ownBlock=some g->v.ownBlock=some g\/w.heap.size<=g)/\(∃ a n c,v'=.slice a n c):=by
 by_cases hm:m=0
 ·subst hm;have hn:news=[]:=cQ (by simpa using hl);subst hn;have hso:(sizeOf e).run P w=.ok i.size w:=by simp[sizeOf,typeInfo,hi]
  refine⟨v,w,?_,by simpa using hown,⟨rfl,rfl,rfl,aK _,λ_ _ _=>rfl⟩,λg hg=>.inl hg,?_⟩
  ·rcases hown.2 with⟨rfl,rfl⟩ | ⟨g,cap',cur,rfl,_,_,hnc,_⟩
   ·cases a<;>simp[Builtin.append_,run_underlying ht,sizeOf,typeInfo,hi,Builtin.lenOf,Builtin.firstCells,loadCells,loadCellsFrom]
   ·cases a<;>simp[Builtin.append_,run_underlying ht,sizeOf,typeInfo,hi,Builtin.lenOf,Builtin.firstCells,hnc,storeCells,loadCells,loadCellsFrom]
  ·rcases hown.2 with⟨rfl,rfl⟩ | ⟨g,cap',cur,rfl,_⟩
   ·exact⟨_,_,_,rfl⟩
   ·exact⟨_,_,_,rfl⟩
 ·have hcells:∃ ad,a=some ad/\∀ (j:Nat) u,news[j]?=some u->w.cell? (ad.add j)=some u:=hcells.resolve_left hm;obtain⟨ad,rfl,hnews⟩:=hcells;obtain⟨v',w',hr,k1,k2,_⟩:=run_append_own (P:=P) w 0 t ty e i z size i.bytes ht hi hz hsize rfl hzs hpos v n xs hown ad m cap news hl hnews h1 h63 hbytes (bX _);refine⟨v',w',hr,k1,k2,?_,?_⟩
  ·subst hsize;rcases hown.2 with⟨rfl,rfl⟩ | ⟨g,cap',cur,rfl,hb,hg,hnc,hcm,hcs,htake⟩
   ·have hx:=run_append_nil (P:=P) w t ty e i z ht hi hz ad m cap news hl hnews (by omega) (by simp[maxLen]at h63;omega) (by simp at hbytes;omega);rw[hr]at hx;simp only[Result.ok.injEq]at hx;intro g hg;rw[hx.1]at hg;simp only[Value.ownBlock,aB]at hg;exact .inr (by omega)
   ·by_cases hroom:n+m<=cap'
    ·obtain⟨w2,hx,_⟩:=run_append_fits (P:=P) w 0 t ty e i i.size ht hi rfl g n cap' xs hown ad m cap news hl hnews h1 hroom;rw[hr]at hx;simp only[Result.ok.injEq]at hx;intro g' hg';rw[hx.1]at hg';simp only[Value.ownBlock,aB]at hg' ⊢;exact .inl hg'
    ·have holds:=hown.cells (g:=g) rfl;have hx:=run_append_grow (P:=P) w t ty e i z ht hi hz ⟨g,0,none⟩ n cap' xs hown.1 holds ad m cap news hl hnews (by omega) (by simp[maxLen]at h63;omega) (growslice_fits (by omega) hbytes);rw[hr]at hx;simp only[Result.ok.injEq]at hx;intro g' hg';rw[hx.1]at hg';simp only[Value.ownBlock,aB]at hg';exact .inr (by omega)
  ·rcases k1.2 with⟨hv,_⟩ | ⟨g,cap',cur,hv,_⟩
   ·exact⟨_,_,_,hv⟩
   ·exact⟨_,_,_,hv⟩
def aKC {ty:Nat->Type}(e:Nat)(v:V ty):Option (SlD ty):=
 match v with
 | .inl (.inl (some (.inr s)))=>if s.e == e then some s else none
 | .inl (.inl (some (.inl (.slice none 0 0))))=>some (ro e [])
 | _=>none
def fL {ty:Nat->Type}(e:Nat)(s:SlD ty):List (ty e):=if h:s.e=e then h▸s.xs else[]
def aAV {β:Type}(P:Program)(cx:Cx)(slots:List (V cx.ty))(t:TypeId)(x y:Operand)(nm0:Nat)(k:Eff cx.ty->Option β):Option β:=
 match eU P t with
 | some e=>if cx.flat e&&cx.dom e then
   match aKC e (dU slots y)with
   | some s2=>match dU slots x with
    | .inl (.inl (some (.inr s)))=>if s.e == e&&s.own == 1&&s.o then
      bif decide (s.xs.length+s2.xs.length<=1000000000)then
       k { v:=aDv nm0 e (fL e s++fL e s2),dead:=[s.nm],frz:=[],live:=[s.nm],read:=rdn s2 }
      else none
     else none
    | .inl (.inl (some (.inl (.slice none 0 0))))=>bif decide (s2.xs.length<=1000000000)then k { v:=aDv nm0 e (fL e s2),dead:=[],frz:=[],live:=[],read:=rdn s2 }else none
    | _=>none
   | none=>none
  else none
 | none=>none
theorem uM {c:Ct cx.ty}{s:SlD cx.ty}{u:Value}(h1:¬ s.own=1)(h:∃ n,RepL cx c.w (Rd c) n (some (.inr s)) u):RepLS cx c (some (.inr s)) u:=by
 unfold RepLS;simp only[h1,if_false];exact h
theorem jH {e:Nat}{s:SlD cx.ty}(h:s.e=e):dG cx e (fL e s)=dG cx s.e s.xs/\(fL e s).length=s.xs.length:=by
 subst h;simp[fL]
theorem xQ (e:Nat)(xs ys:List (cx.ty e)):dG cx e (xs++ys)=dG cx e xs++dG cx e ys:=by
 simp[dG,bE]
theorem aA5 {c:Ct cx.ty}{e:Nat}{v:V cx.ty}{s:SlD cx.ty}(h:aKC e v=some s){u:Value}(hr:RepV cx c v u):s.e=e/\RepLS cx c (some (.inr s)) u:=by
 unfold aKC at h;split at h
 ·split at h
  ·rename_i he;simp only[aB]at h;subst h;exact⟨by simpa using he,hr⟩
  ·simp at h
 ·simp only[aB]at h;subst h;have hr:u=.slice none 0 0:=hr;subst hr;exact⟨rfl,uM (by simp[ro]) ⟨1,none,0,rfl,aK _,.inl rfl⟩⟩
 ·simp at h
theorem aEd (ok:cx.Ok)(hZ:cx.POk P){β:Type}{o:Oper}{slots:List (V cx.ty)}{nm0:Nat}{t:TypeId}{x y:Operand}(ho:o.op=.call { callee:=.builtin .append,args:=#[x,y],argTypes:=#[t,t] }){k:Eff cx.ty->Option β}{r:β}
  (h:aAV P cx slots t x y nm0 k=some r):∃ ef,k ef=some r/\EffOK P cx o slots nm0 ef:=by
 unfold aAV at h;split at h
 ·rename_i e he;split at h
  ·rename_i hfd;simp only[aJ]at hfd;obtain⟨hflat,hdom⟩:=hfd;obtain⟨i,z,hi,hz,hsz,hby,hzs,hpos,henc⟩:=hZ.zero e hdom;have hxm:x∈o.op.operands:=by simp[ho,Op.operands,Call.operands]
   have hym:y∈o.op.operands:=by simp[ho,Op.operands,Call.operands]
   have execEq:∀ (ρ:Operand->Value) (w:World) v' w',(Builtin.append_ #[t,t] o.type #[ρ x,ρ y]).run P w=.ok v' w'->(execOp ρ o).run P w=.ok (.value v') w':=by
    intro ρ w v' w' hr;unfold execOp;simp only[ho,resolve,invoke,builtin,Sem.run_bind,Sem.run_pure,Result.andThen_ok,iC,cU,kR,hr]
   split at h
   ·rename_i s2 hy;split at h
    ·rename_i s hx;split at h
     ·rename_i hso;simp only[aJ,beq_iff_eq]at hso;obtain⟨⟨hse,hown1⟩,hso⟩:=hso;cases hb:decide (s.xs.length+s2.xs.length<=1000000000)with
      | false=>rw[hb]at h;simp at h
      | true=>
       rw[hb]at h;have hb:s.xs.length+s2.xs.length<=1000000000:=by simpa using hb
       refine⟨_,h,⟨λc ρ hw hop hlive hrd hf=>?_⟩⟩;have hrx:=hop x hxm;rw[hx]at hrx;have hrx:RepLS cx c (some (.inr s)) (ρ x):=hrx;obtain⟨hs2e,hry⟩:=aA5 hy (hop y hym);obtain⟨hnD,hnF⟩:=hlive s.nm (aO.2 rfl);unfold RepLS at hrx;simp only[hown1,if_true,hnD,hnF,if_false]at hrx;obtain⟨_,tk,htk,hn,hc,hu⟩:=hrx;have htr:=hw.rep tk htk;unfold TokRep at htr;rw[hc]at htr;simp only[hso,if_true]at htr;obtain⟨hvb,nn,htr⟩:=htr;obtain⟨hrow,hfp⟩:=xD ok (by rw[hse];exact hflat) htr;rw[<-(jH hse).1,<-(jH hse).2,hse,hu]at hrow;obtain⟨a2,cap2,hu2,hcells⟩:=aBH ok hw (by rw[hs2e];exact hflat) (by rw[hs2e];exact hpos) hry hrd;have hl2:(dG cx e (fL e s2)).length=s2.xs.length * cx.size e:=by rw[jU ok hflat,(jH hs2e).2]
       obtain⟨v',w',hr,k1,k2,k3,k4⟩:=lD (P:=P) (w:=c.w) (ty:=o.type) (fS he) hi hz hsz hzs hpos hrow (a:=a2) (m:=s2.xs.length) (cap:=cap2) (news:=dG cx e (fL e s2)) hl2 (by
        rcases hcells with hx0 | ⟨ad,ha,hc2⟩
        ·exact .inl (by rw[hx0];rfl)
        ·exact .inr ⟨ad,ha,by rw[(jH hs2e).1];exact hc2⟩) (vH ok hflat _) (by rw[(jH hse).2];simp[maxLen];omega) (by
        rw[(jH hse).2];exact dZ (oH hb hby) (by omega))
       rw[<-hu2]at hr;unfold Runs;rw[execEq ρ c.w v' w' hr];have hblk:∀ g,(ρ x).ownBlock=some g↔g∈vb tk.u:=λg=>by rw[hvb,hu];cases (ρ x).ownBlock<;>simp[eq_comm]
       have hvb':∀ b,b∈vb v'->v'.ownBlock=some b:=by
        intro b hb';obtain⟨a,n,cc,rfl⟩:=k4;cases a with
        | none=>simp[vb]at hb'
        | some ad=>simp[vb]at hb';simp[Value.ownBlock,hb']
       rw[<-xQ]at k1;refine⟨_,aBZ hw hf (λtk' ht' hn'=>?_) (λn hn'=>?_) (s':={ own:=1,nm:=nm0,e:=e,o:=true,xs:=fL e s++fL e s2 }) ⟨rfl,rfl⟩ (λb hb'=>?_) (λb hb' hno=>?_) k2.size ⟨k2.os,k2.tape,k2.output,k2.size,λk hk=>k2.block k (Wf.lt cx hw hk) ?_⟩ (λc' hcw=>?_) k4⟩
       ·simp only[aO]at hn';have:tk'=tk:=by
         have hnd:=hw.names;rcases Classical.em (tk'=tk)with h | h
         ·exact h
         ·exfalso;obtain⟨l1,l2,hl⟩:=cO htk;rw[hl]at hnd ht';rw[dN,cU,aH]at hnd;rcases aA.1 ht' with h3 | h3
          ·exact hnd.2.2 tk'.nm (aM.2 ⟨tk',h3,rfl⟩) tk.nm (bR ..) (by rw[hn',hn])
          ·rcases bS.1 h3 with h3 | h3
           ·exact h h3
           ·exact(dM.1 hnd.2.1).1 (aM.2 ⟨tk',h3,by rw[hn',hn]⟩)
        rw[this];exact⟨s,hc⟩
       ·simp only[aO]at hn';exact⟨tk,htk,by rw[hn',hn]⟩
       ·rcases k3 b (hvb' b hb')with hg | hg
        ·exact .inl ⟨tk,htk,by simp[hn],(hblk b).1 hg⟩
        ·refine .inr ⟨hg,?_⟩;have:=World.ownsRow.lt k1 b (hvb' b hb');exact this.2
       ·exact k2.block b hb' (λhg=>hno tk htk (by simp[hn]) ((hblk b).1 hg.symm))
       ·intro hg;have hbm:=(hblk k).1 hg.symm;exact hk (hw.bound tk htk k (aA.2 (.inl hbm))).1
       ·subst hcw;refine⟨?_,1,?_⟩
        ·obtain⟨a,n,cc,rfl⟩:=k4;cases a<;>rfl
        ·have hlen:(fL e s++fL e s2).length=(fL e s).length+s2.xs.length:=by rw[aW,(jH hs2e).2]
         rw[<-hlen]at k1;have:=uP ok (s:={ own:=1,nm:=nm0,e:=e,o:=true,xs:=fL e s++fL e s2 }) hflat k1;have hvv:vb v'++[]=v'.ownBlock.toList:=by
          obtain⟨a,n,cc,rfl⟩:=k4;cases a<;>rfl
         rw[hvv];exact this
     ·simp at h
    ·rename_i hx;cases hb:decide (s2.xs.length<=1000000000)with
     | false=>rw[hb]at h;simp at h
     | true=>
      rw[hb]at h;have hb:s2.xs.length<=1000000000:=by simpa using hb
      refine⟨_,h,⟨λc ρ hw hop hlive hrd hf=>?_⟩⟩;have hrx:=hop x hxm;rw[hx]at hrx;have hrx:ρ x=.slice none 0 0:=hrx;obtain⟨hs2e,hry⟩:=aA5 hy (hop y hym);obtain⟨a2,cap2,hu2,hcells⟩:=aBH ok hw (by rw[hs2e];exact hflat) (by rw[hs2e];exact hpos) hry hrd;have hl2:(dG cx e (fL e s2)).length=s2.xs.length * cx.size e:=by rw[jU ok hflat,(jH hs2e).2]
      obtain⟨v',w',hr,k1,k2,k3,k4⟩:=lD (P:=P) (w:=c.w) (ty:=o.type) (fS he) hi hz hsz hzs hpos (World.ownsRow_nil c.w 0 e (cx.size e)) (a:=a2) (m:=s2.xs.length) (cap:=cap2) (news:=dG cx e (fL e s2)) hl2 (by
       rcases hcells with hx0 | ⟨ad,ha,hc2⟩
       ·exact .inl (by rw[hx0];rfl)
       ·exact .inr ⟨ad,ha,by rw[(jH hs2e).1];exact hc2⟩) (vH ok hflat _) (by simp[maxLen];omega) (by
       rw[cX];exact dZ (oH hb hby) (by omega))
      rw[<-hu2,<-hrx]at hr;unfold Runs;rw[execEq ρ c.w v' w' hr];have hvb':∀ b,b∈vb v'->v'.ownBlock=some b:=by
       intro b hb';obtain⟨a,n,cc,rfl⟩:=k4;cases a with
       | none=>simp[vb]at hb'
       | some ad=>simp[vb]at hb';simp[Value.ownBlock,hb']
      simp only[cX,eO]at k1;refine⟨_,aBZ hw hf (λtk' ht' hn'=>by simp at hn') (λn hn'=>by simp at hn') (s':={ own:=1,nm:=nm0,e:=e,o:=true,xs:=fL e s2 }) ⟨rfl,rfl⟩ (λb hb'=>?_) (λb hb' hno=>?_) k2.size ⟨k2.os,k2.tape,k2.output,k2.size,λk hk=>k2.block k (Wf.lt cx hw hk) (by simp[Value.ownBlock])⟩ (λc' hcw=>?_) k4⟩
      ·rcases k3 b (hvb' b hb')with hg | hg
       ·simp[Value.ownBlock]at hg
       ·exact .inr ⟨hg,(World.ownsRow.lt k1 b (hvb' b hb')).2⟩
      ·exact k2.block b hb' (by simp[Value.ownBlock])
      ·subst hcw;refine⟨?_,1,?_⟩
       ·obtain⟨a,n,cc,rfl⟩:=k4;cases a<;>rfl
       ·rw[<-(jH hs2e).2]at k1;have:=uP ok (s:={ own:=1,nm:=nm0,e:=e,o:=true,xs:=fL e s2 }) hflat k1;have hvv:vb v'++[]=v'.ownBlock.toList:=by
         obtain⟨a,n,cc,rfl⟩:=k4;cases a<;>rfl
        rw[hvv];exact this
    ·simp at h
   ·simp at h
  ·simp at h
 ·simp at h
end
section
variable {cx : Cx} {P : Program}
theorem iR {T:List (Tk cx.ty)}(q:Tk cx.ty->Bool)(h:(T.flatMap λtk=>vb tk.u++tk.fp).Nodup):((T.filter q).flatMap λtk=>vb tk.u++tk.fp).Nodup:=by
 have:∀ T:List (Tk cx.ty),List.Sublist ((T.filter q).flatMap λtk=>vb tk.u++tk.fp) (T.flatMap λtk=>vb tk.u++tk.fp):=by
  intro T
  induction T with
  | nil=>exact dX _
  | cons x r ih=>
   rw[kG];split
   ·rw[aR,aR];exact(dX _).append ih
   ·rw[aR];exact ih.trans (fI _ _)
 exact(this T).nodup h
theorem vD (ok:cx.Ok){c:Ct cx.ty}(h:Wf cx c){nm0:Nat}{fn r:List Nat}(hfn:∀ n∈fn,Nm c n)(hsl:∀ tk∈c.T,tk.nm∈fn->∃ s,tk.c=.inl s){v:V cx.ty}{u:Value}
  (hv:∀ c':Ct cx.ty,c'.w=c.w->Pres cx c c'->(∀ tk∈c.T,tk.nm∈fn->∀ b∈vb tk.u,Rd c' b)->RepV cx c' v u) :
  Good cx c { v:=v,dead:=[],frz:=fn,live:=[],read:=r } nm0 u c.w (c.T.filter (λtk=>!fn.contains tk.nm)):=by
 have hmem:∀ tk,tk∈c.T.filter (λtk=>!fn.contains tk.nm)↔tk∈c.T/\tk.nm∉fn:=λtk=>by simp[eH]
 have hrd0:∀ b,Rd c b->Rd (c.nx { v:=v,dead:=[],frz:=fn,live:=[],read:=r } c.w (c.T.filter (λtk=>!fn.contains tk.nm))) b:=
  λb hb=>⟨hb.1,hb.2.1,λtk ht=>hb.2.2 tk ((hmem tk).1 ht).1⟩
 have hblk:∀ tk∈c.T,tk.nm∈fn->∀ b∈vb tk.u,Rd (c.nx { v:=v,dead:=[],frz:=fn,live:=[],read:=r } c.w (c.T.filter (λtk=>!fn.contains tk.nm))) b:=by
  intro tk ht hn b hb;have hbd:=h.bound tk ht b (aA.2 (.inl hb));refine⟨hbd.2,.inr hbd.1,λt2 ht2 hb2=>?_⟩;obtain⟨h1,h2⟩:=(hmem t2).1 ht2;exact dD h ht h1 (λe=>h2 (e▸hn)) (aA.2 (.inl hb)) (aA.2 (.inl hb2))
 have hpres:Pres cx c (c.nx { v:=v,dead:=[],frz:=fn,live:=[],read:=r } c.w (c.T.filter (λtk=>!fn.contains tk.nm))):=by
  refine⟨λb hb=>⟨hrd0 b hb,rfl⟩,λn hn=>hn,λn hn=>aA.2 (.inr hn),λtk ht _ hF=>(hmem tk).2 ⟨ht,λhd=>hF (aA.2 (.inl hd))⟩,λtk ht l hl=>(hmem tk).2 ⟨ht,λhd=>?_⟩,λtk ht s hs _ hF=>?_⟩
  ·obtain⟨s,hs⟩:=hsl tk ht hd;rw[hl]at hs;cases hs
  ·rcases aA.1 hF with hF | hF
   ·exact aCi ok h ht hs hrd0 (hblk tk ht hF)
   ·exact absurd hF (h.live tk ht).2
 refine⟨⟨(iE _ gE).nodup h.names,iR _ h.nodup,λtk ht=>h.bound tk ((hmem tk).1 ht).1,λtk ht=>?_,h.start,λtk ht=>?_,h.size⟩,hpres,hv _ rfl hpres hblk,Kept.refl _ _,λn hn=>?_⟩
 ·exact TokRep.pres cx hpres (λ_ _=>rfl) (h.rep tk ((hmem tk).1 ht).1)
 ·obtain⟨h1,h2⟩:=(hmem tk).1 ht;refine⟨(h.live tk h1).1,λhF=>?_⟩;rcases aA.1 hF with hF | hF
  ·exact h2 hF
  ·exact(h.live tk h1).2 hF
 ·rcases hn with⟨tk,ht,rfl⟩ | hn | hn
  ·exact .inl (.inl ⟨tk,((hmem tk).1 ht).1,rfl⟩)
  ·exact .inl (.inr (.inl hn))
  ·rcases aA.1 hn with hn | hn
   ·exact .inl (hfn n hn)
   ·exact .inl (.inr (.inr hn))
def aG0 {ty:Nat->Type}(slots:List (V ty))(x:Option Operand)(d:Int):Option Int:=
 match x with
 | none=>some d
 | some x=>match dU slots x with
  | .inl (.inl (some (.inl (.int _ i))))=>some i
  | _=>none
def aCM {β:Type}(P:Program)(cx:Cx)(slots:List (V cx.ty))(t:TypeId)(x:Operand)(lo hi mx:Option Operand)(k:Eff cx.ty->Option β):Option β:=
 match mx,dU slots x,aG0 slots lo 0 with
 | none,.inl (.inl (some (.inr s))),some l=>match aG0 slots hi s.xs.length,eU P t with
  | some h,some e=>if e == s.e&&tY P cx e then
    bif decide (0<=l)&&decide (l<=h)&&decide (h<=s.xs.length)then
     k { v:=vs (ro s.e ((s.xs.take h.toNat).drop l.toNat)),dead:=[],frz:=rdn s,live:=[],read:=rdn s }
    else none
   else none
  | _,_=>none
 | none,.inl (.inl (some (.inl (.string str)))),some l=>match aG0 slots hi str.size,P.underlying t with
  | some h,some .string=>bif decide (0<=l)&&decide (l<=h)&&decide (h<=str.size)then k (fY (vv (.string (str.extract l.toNat h.toNat))) [])else none
  | _,_=>none
 | _,_,_=>none
theorem vE {c:Ct cx.ty}{slots:List (V cx.ty)}{ρ:Operand->Value}{x:Option Operand}{d i:Int}(h:aG0 slots x d=some i)(hr:∀ y,x=some y->RepV cx c (dU slots y) (ρ y)):(x=none/\i=d)\/∃ y k,x=some y/\ρ y=.int k i:=by
 cases x with
 | none=>simp only[aG0,aB]at h;exact .inl ⟨rfl,h.symm⟩
 | some y=>
  simp only[aG0]at h;split at h
  ·rename_i k j hy;simp only[aB]at h;subst h;have:=hr y rfl;rw[hy]at this;exact .inr ⟨y,k,rfl,this⟩
  ·simp at h
theorem zN {w:World}{isS:Bool}{len cap:Nat}{lo hi:Option Value}{l h:Int}(hl:(lo=none/\l=0)\/∃ k,lo=some (.int k l))(hh:(hi=none/\h=len)\/∃ k,hi=some (.int k h))(h0:0<=l)(h1:l<=h)(h2:h<=cap) :
  (Instr.sliceBounds isS len cap lo hi none).run P w=.ok (l.toNat,h.toNat,cap) w:=by
 have hb:∀ (k:IntKind) (j:Int) (y:Nat) code,0<=j->j<=y->(Instr.sliceBound (.int k j) y code).run P w=.ok j.toNat w:=by
  intro k j y code a1 a2;simp[Instr.sliceBound,asIntOf,a1,a2]
 unfold Instr.sliceBounds;have hle:l<=(h.toNat:Int):=by omega
 rcases hh with⟨rfl,rfl⟩ | ⟨k,rfl⟩<;>rcases hl with⟨rfl,rfl⟩ | ⟨k',rfl⟩
 ·simp
 ·simp only[Sem.run_bind,Sem.run_pure,Result.andThen_ok];rw[hb _ _ _ _ h0 (by omega)];simp
 ·simp only[Sem.run_bind,Sem.run_pure,Result.andThen_ok];rw[hb _ _ _ _ (by omega) h2];simp
 ·simp only[Sem.run_bind,Sem.run_pure,Result.andThen_ok];rw[hb _ _ _ _ (by omega) h2];simp only[Result.andThen_ok];rw[hb _ _ _ _ h0 hle];simp
theorem RepL_sub {w:World}{S:Nat->Prop}{n:Nat}{s:SlD cx.ty}{a:Option Addr}{k cap:Nat}(h:RepL cx w S n (some (.inr s)) (.slice a k cap)){l hh:Nat}(h1:l<=hh)(h2:hh<=s.xs.length) :
  ∃ m,RepL cx w S m (some (.inr (ro s.e ((s.xs.take hh).drop l)))) (.slice (if cap=l then a else a.map (·.add (l * cx.size s.e))) (hh-l) (cap-l)):=by
 cases n with
 | zero=>simp[RepL]at h
 | succ n=>
  obtain⟨a',cap',hu,hcap,hcase⟩:=h;simp only[Value.slice.injEq]at hu;obtain⟨rfl,rfl,rfl⟩:=hu;have hlen:((s.xs.take hh).drop l).length=hh-l:=by simp;omega
  refine⟨n+1,_,cap-l,by rw[show(ro s.e ((s.xs.take hh).drop l)).xs.length=hh-l from hlen],by rw[show(ro s.e ((s.xs.take hh).drop l)).xs.length=hh-l from hlen];omega,?_⟩;by_cases hlt:l < hh
  ·rcases hcase with hx | ⟨b,off,rfl,hS,hc⟩
   ·exact .inl (by simp[ro,hx])
   ·have hne:¬ cap=l:=by omega
    refine .inr ⟨b,off+l * cx.size s.e,by simp[hne,Addr.add_lit],hS,λi x hx j y hy=>?_⟩;have hx1:((s.xs.take hh).drop l)[i]?=some x:=hx;rw[cL,bK]at hx1;split at hx1
    ·obtain⟨v,hv,hr⟩:=hc (l+i) x hx1 j y hy;refine⟨v,?_,hr⟩;rw[<-hv];have:off+l * cx.size s.e+(i * cx.size (ro s.e ((s.xs.take hh).drop l)).e+j)=off+((l+i) * cx.size s.e+j):=by
      show off+l * cx.size s.e+(i * cx.size s.e+j)=_;rw[eZ];omega
     rw[this]
    ·simp at hx1
  ·refine .inl (cQ ?_);show((s.xs.take hh).drop l).length=0;omega
theorem aEY (ok:cx.Ok){β:Type}{o:Oper}{slots:List (V cx.ty)}{nm0:Nat}{t:TypeId}{x:Operand}{lo hi mx:Option Operand}(ho:o.op=.slice t x lo hi mx){k:Eff cx.ty->Option β}{r:β}
  (h:aCM P cx slots t x lo hi mx k=some r):∃ ef,k ef=some r/\EffOK P cx o slots nm0 ef:=by
 have hxm:x∈o.op.operands:=by simp[ho,Op.operands]
 have hlm:∀ y,lo=some y->y∈o.op.operands:=λy hy=>by simp[ho,Op.operands,hy]
 have hhm:∀ y,hi=some y->y∈o.op.operands:=λy hy=>by simp[ho,Op.operands,hy]
 unfold aCM at h;split at h
 ·rename_i s l hx hl;split at h
  ·rename_i hh e hhi he;split at h
   ·rename_i hc;simp only[aJ,beq_iff_eq]at hc;obtain⟨rfl,hel⟩:=hc;obtain⟨⟨d,hd⟩,hsz⟩:=mB hel;cases hb:(decide (0<=l)&&decide (l<=hh)&&decide (hh<=s.xs.length))with
    | false=>rw[hb]at h;simp at h
    | true=>
     rw[hb]at h;simp only[aJ,decide_eq_true_eq]at hb;obtain⟨⟨h0,h1⟩,h2⟩:=hb;refine⟨_,h,⟨λc ρ hw hop _ hrd hf=>?_⟩⟩;have hrx:=hop x hxm;rw[hx]at hrx;have hrx:RepLS cx c (some (.inr s)) (ρ x):=hrx;have hlo:=vE hl (λy hy=>hop y (hlm y hy));have hhi':=vE hhi (λy hy=>hop y (hhm y hy));have run:∀ (a:Option Addr) (n cap:Nat),n=s.xs.length->s.xs.length<=cap->ρ x=.slice a n cap->
       (execOp ρ o).run P c.w=.ok (.value (.slice (if cap=l.toNat then a else a.map (·.add (l.toNat * cx.size s.e))) (hh.toNat-l.toNat) (cap-l.toNat))) c.w:=by
      intro a n cap hn hcap hu;have hbds:=zN (P:=P) (w:=c.w) (isS:=true) (len:=n) (cap:=cap) (lo:=lo.map ρ) (hi:=hi.map ρ) (l:=l) (h:=hh) (by
       rcases hlo with⟨a1,a2⟩ | ⟨y,kk,a1,a2⟩
       ·exact .inl ⟨by rw[a1];rfl,a2⟩
       ·exact .inr ⟨kk,by rw[a1,aD,a2]⟩) (by
       rcases hhi' with⟨a1,a2⟩ | ⟨y,kk,a1,a2⟩
       ·exact .inl ⟨by rw[a1];rfl,by rw[a2,hn]⟩
       ·exact .inr ⟨kk,by rw[a1,aD,a2]⟩) h0 h1 (by omega)
      have hmx:(none:Option Operand).map ρ=none:=rfl;unfold execOp;simp only[ho,Instr.sliceAt,Instr.slice,Sem.run_bind,run_underlying (fS he),Result.andThen_ok,hu,hmx,hbds,eD hd,hsz,Sem.run_pure]
     unfold RepLS at hrx;by_cases h4:s.own=1
     ·have hrn:rdn s=[s.nm]:=by simp[rdn,h4]
      have h5:s.nm∉c.D:=hrd _ (by simp[hrn]);simp only[h4,if_true,h5,if_false]at hrx;obtain⟨_,hrx⟩:=hrx;unfold Runs;by_cases h6:s.nm∈c.F
      ·simp only[h6,if_true]at hrx;obtain⟨n,hrx⟩:=hrx;have hrx':=hrx;cases n with
       | zero=>simp[RepL]at hrx
       | succ n=>
        obtain⟨a,cap,hu,hcap,_⟩:=hrx;rw[run a _ cap rfl hcap hu];rw[hu]at hrx';obtain⟨m,hm⟩:=RepL_sub hrx' (l:=l.toNat) (hh:=hh.toNat) (by omega) (by omega);refine⟨_,vD ok hw (λn hn=>?_) (λtk ht hn=>?_) (λc' hcw hp hbl=>?_)⟩
        ·rw[hrn]at hn;simp only[aO]at hn;rw[hn];exact .inr (.inr h6)
        ·rw[hrn]at hn;simp only[aO]at hn;exact absurd (hn▸h6) (hw.live tk ht).2
        ·exact(show RepLS cx c' (some (.inr _)) _ from uM (by simp[ro]) ⟨m,RepL.pres cx hp hm⟩)
      ·simp only[h6,if_false]at hrx;obtain⟨tk,ht,hn,hcc,hu⟩:=hrx;have hcapx:∃ a cap,ρ x=.slice a s.xs.length cap/\s.xs.length<=cap:=by
        rcases tJ ok hw ht hcc with⟨a1,a2⟩ | ⟨g,cap,a1,a2,_⟩
        ·exact⟨none,0,by rw[<-hu,a1,a2];rfl,by rw[a2];exact aK _⟩
        ·exact⟨_,cap,by rw[<-hu,a1],a2⟩
       obtain⟨a,cap,hua,hcap⟩:=hcapx;rw[run a _ cap rfl hcap hua];have huniq:∀ t2∈c.T,t2.nm=s.nm->t2=tk:=by
        intro t2 ht2 hn2;have hnd:=hw.names;rcases Classical.em (t2=tk)with h | h
        ·exact h
        ·exfalso;obtain⟨l1,l2,hl⟩:=cO ht;rw[hl]at hnd ht2;rw[dN,cU,aH]at hnd;rcases aA.1 ht2 with h3 | h3
         ·exact hnd.2.2 t2.nm (aM.2 ⟨t2,h3,rfl⟩) tk.nm (bR ..) (by rw[hn2,hn])
         ·rcases bS.1 h3 with h3 | h3
          ·exact h h3
          ·exact(dM.1 hnd.2.1).1 (aM.2 ⟨t2,h3,by rw[hn2,hn]⟩)
       refine⟨_,vD ok hw (λn hn'=>?_) (λt2 ht2 hn2=>?_) (λc' hcw hp hbl=>?_)⟩
       ·rw[hrn]at hn';simp only[aO]at hn';rw[hn'];exact .inl ⟨tk,ht,hn⟩
       ·rw[hrn]at hn2;simp only[aO]at hn2;rw[huniq t2 ht2 hn2];exact⟨s,hcc⟩
       ·obtain⟨n,hrx'⟩:=aCi ok hw ht hcc (S:=Rd c') (λb hb=>(hp.rd b hb).1) (hbl tk ht (by rw[hrn,hn];exact aO.2 rfl));rw[hu,hua]at hrx';obtain⟨m,hm⟩:=RepL_sub hrx' (l:=l.toNat) (hh:=hh.toNat) (by omega) (by omega);rw[<-hcw]at hm;exact(show RepLS cx c' (some (.inr _)) _ from uM (by simp[ro]) ⟨m,hm⟩)
     ·have hrn:rdn s=[]:=by simp[rdn,h4]
      simp only[h4,if_false]at hrx;obtain⟨n,hrx⟩:=hrx;have hrx':=hrx;cases n with
      | zero=>simp[RepL]at hrx
      | succ n=>
       obtain⟨a,cap,hu,hcap,_⟩:=hrx;unfold Runs;rw[run a _ cap rfl hcap hu];rw[hu]at hrx';obtain⟨m,hm⟩:=RepL_sub hrx' (l:=l.toNat) (hh:=hh.toNat) (by omega) (by omega);rw[hrn];refine⟨_,vD ok hw (λn hn=>by simp at hn) (λtk ht hn=>by simp at hn) (λc' hcw hp hbl=>?_)⟩;exact(show RepLS cx c' (some (.inr _)) _ from uM (by simp[ro]) ⟨m,RepL.pres cx hp hm⟩)
   ·simp at h
  ·simp at h
 ·rename_i str l hx hl;split at h
  ·rename_i hh hhi he;cases hb:(decide (0<=l)&&decide (l<=hh)&&decide (hh<=str.size))with
   | false=>rw[hb]at h;simp at h
   | true=>
    rw[hb]at h;simp only[aJ,decide_eq_true_eq]at hb;obtain⟨⟨h0,h1⟩,h2⟩:=hb;refine⟨_,h,eC λc ρ hw hop _=>?_⟩;have hrx:=hop x hxm;rw[hx]at hrx;have hrx:ρ x=.string str:=hrx;have hlo:=vE hl (λy hy=>hop y (hlm y hy));have hhi':=vE hhi (λy hy=>hop y (hhm y hy));have hbds:=zN (P:=P) (w:=c.w) (isS:=false) (len:=str.size) (cap:=str.size) (lo:=lo.map ρ) (hi:=hi.map ρ) (l:=l) (h:=hh) (by
     rcases hlo with⟨a1,a2⟩ | ⟨y,kk,a1,a2⟩
     ·exact .inl ⟨by rw[a1];rfl,a2⟩
     ·exact .inr ⟨kk,by rw[a1,aD,a2]⟩) (by
     rcases hhi' with⟨a1,a2⟩ | ⟨y,kk,a1,a2⟩
     ·exact .inl ⟨by rw[a1];rfl,a2⟩
     ·exact .inr ⟨kk,by rw[a1,aD,a2]⟩) h0 h1 h2
    refine⟨_,?_,rfl⟩;have hmx:(none:Option Operand).map ρ=none:=rfl;unfold execOp;simp only[ho,Instr.sliceAt,Instr.slice,Sem.run_bind,run_underlying he,Result.andThen_ok,hrx,hmx,hbds,Sem.run_pure,Option.isSome_none,dF,if_false]
  ·simp at h
 ·simp at h
end
section
variable {cx : Cx} {P : Program}
structure St (ty:Nat->Type) where
 slots:List (V ty)
 D:List Nat
 F:List Nat
 ctr:Nat
 lo:Nat:=0
 ps:List (Nat×(A ty ⊕ SlD ty)):=[]
 pend:Option (Nat×Pt ty):=none
def PsO (cx:Cx)(w:World)(S:Nat->Prop)(a:A cx.ty ⊕ SlD cx.ty)(u:Value):Prop:=match a with
 | .inl a=>ArgA cx w S a u
 | .inr s=>PtS cx w S s u
def PrOK (cx:Cx)(c:Ct cx.ty)(ps:List (Nat×(A cx.ty ⊕ SlD cx.ty))):Prop:=∀ p a,(p,a)∈ps->∃ u,(p,u)∈c.K/\PsO cx c.w c.S a u
theorem PrOK.nil {c:Ct cx.ty}:PrOK cx c []:=λp a h=>by simp at h
theorem PsO.mono {w w':World}{S S':Nat->Prop}(hS:∀ b,S b->S' b)(hw:∀ b,S b->w'.heap[b]?=w.heap[b]?){a:A cx.ty ⊕ SlD cx.ty}{u:Value}(h:PsO cx w S a u):PsO cx w' S' a u:=by
 match a,h with
 | .inl a,h=>exact ArgA.mono hS hw h
 | .inr s,h=>exact PtS.mono hS hw h
theorem PrOK.keep {c c':Ct cx.ty}{ps:List (Nat×(A cx.ty ⊕ SlD cx.ty))}(h:PrOK cx c ps)(hS:c'.S=c.S)(hK:c'.K=c.K)(hw:∀ b,c.S b->c'.w.heap[b]?=c.w.heap[b]?):PrOK cx c' ps:=λp a hp=>by
 obtain⟨u,h1,h2⟩:=h p a hp;exact⟨u,by rw[hK];exact h1,by rw[hS];exact PsO.mono (λ_ h=>h) hw h2⟩
theorem Wf.rdS {c:Ct cx.ty}(hw:Wf cx c){b:Nat}(hS:c.S b):Rd c b:=
 ⟨hw.lt cx (hw.start b hS),.inl hS,λtk ht hv=>hw.start b hS (hw.bound tk ht b (aA.2 (.inl hv))).1⟩
def PdOK (cx:Cx)(c:Ct cx.ty)(a:Act)(q:Option (Nat×Pt cx.ty)):Prop:=∀ d p,q=some (d,p)->p.nm∉c.D/\p.nm∉c.F/\∃ tk∈c.T,tk.nm=p.nm/\tk.c=.inl p.s/\p.i < p.s.xs.length ∧
 ∃ g n cap,tk.u=.slice (some ⟨g,0,none⟩) n cap/\c.w.cell? ⟨g,p.i * cx.size p.s.e+p.off,none⟩=some (a.tmps.getD d undef)
theorem PdOK.none {c:Ct cx.ty}{a:Act}:PdOK cx c a .none:=λ_ _ h=>by cases h
structure RS (cx:Cx) (c:Ct cx.ty) (st:St cx.ty) (a:Act):Prop where
 wf:Wf cx c
 size:a.tmps.size=st.slots.length
 rep:∀ t,RepV cx c (st.slots.getD t aN) (a.tmps.getD t undef)
 defers:a.defers=[]
 dead:∀ n,n∈c.D↔n∈st.D
 frz:∀ n,n∈c.F↔n∈st.F
 names:∀ n,Nm c n->n < st.ctr * 65536
 kp:∀ p u,(p,u)∈c.K->p < st.lo/\a.tmps.getD p undef=u
 pr:PrOK cx c st.ps
 pd:PdOK cx c a st.pend
def fN (ctr:Nat)(d:Option Nat):Nat:=ctr * 65536+(match d with | some d=>d | none=>1000) * 64
def jD {ty:Nat->Type}(slots:List (V ty))(d:Option Tmp)(v:V ty):List (V ty):=
 match d with
 | some d=>slots.set d v
 | none=>slots
def chk {ty:Nat->Type}(st:St ty)(ef:Eff ty):Bool:=
 ef.live.all (λn=>!st.D.contains n&&!st.F.contains n)&&ef.read.all (λn=>!st.D.contains n)
def St.app {ty:Nat->Type}(st:St ty)(d:Option Tmp)(ef:Eff ty):St ty:=
 {slots:=jD st.slots d ef.v,D:=ef.dead++st.D,F:=ef.frz++st.F,ctr:=st.ctr+1,lo:=st.lo,ps:=st.ps }
def xP (lo:Nat)(d:Option Nat):Bool:=match d with | some d=>decide (lo<=d) | none=>true
theorem pE {a:Act}{lo:Nat}{d:Option Nat}(h:xP lo d=true)(u:Value){p:Nat}(hp:p < lo):(a.put d u).tmps.getD p undef=a.tmps.getD p undef:=by
 cases d with
 | none=>rfl
 | some d=>
  have h:lo<=d:=by simpa[xP]using h
  have hd:d≠p:=by omega
  simp[Act.put,fD hd]
def iX (d:Option Nat):Bool:=match d with | some d=>decide (d < 1000) | none=>true
theorem eP {c:Ct cx.ty}{slots:List (V cx.ty)}{a:Act}(h:∀ t,RepV cx c (slots.getD t aN) (a.tmps.getD t undef))(x:Operand):RepV cx c (dU slots x) (a.eval x):=by
 cases x with
 | tmp t=>exact h t
 | const v=>exact rfl
 | global g=>trivial
 | func f=>exact rfl
theorem nI {c:Ct cx.ty}{slots:List (V cx.ty)}{a:Act}(hs:a.tmps.size=slots.length)(h:∀ t,RepV cx c (slots.getD t aN) (a.tmps.getD t undef))(d:Option Tmp){v:V cx.ty}{u:Value}(hv:RepV cx c v u) :
  ∀ t,RepV cx c ((jD slots d v).getD t aN) ((a.put d u).tmps.getD t undef):=by
 intro t;cases d with
 | none=>exact h t
 | some d=>
  by_cases hd:d=t
  ·subst hd;by_cases hl:d < slots.length
   ·have e1:(jD slots (some d) v).getD d aN=v:=by simp[jD,List.getD,hl]
    have e2:(a.put (some d) u).tmps.getD d undef=u:=by simp[Act.put,hs,hl]
    rw[e1,e2];exact hv
   ·have e1:(jD slots (some d) v).getD d aN=aN:=by simp[jD,List.getD,fC hl]
    rw[e1];trivial
  ·have e1:(jD slots (some d) v).getD t aN=slots.getD t aN:=by simp[jD,List.getD,fF hd]
   have e2:(a.put (some d) u).tmps.getD t undef=a.tmps.getD t undef:=by simp[Act.put,fD hd]
   rw[e1,e2];exact h t
theorem lW {a:Act}{slots:List (V cx.ty)}(hs:a.tmps.size=slots.length)(d:Option Tmp)(v:V cx.ty)(u:Value):(a.put d u).tmps.size=(jD slots d v).length:=by
 cases d<;>simp[Act.put,jD,hs]
theorem iL (a:Act)(d:Option Tmp)(u:Value):(a.put d u).defers=a.defers:=by cases d<;>rfl
theorem zB {ctr:Nat}{d:Option Nat}(hd:iX d=true){n:Nat}(h:fN ctr d<=n/\n < fN ctr d+64):n < (ctr+1) * 65536:=by
 unfold fN at h;cases d with
 | none=>simp only at h;omega
 | some d=>
  have hd:d < 1000:=by simpa[iX]using hd
  simp only at h;omega
theorem RS.app {c:Ct cx.ty}{st:St cx.ty}{a:Act}(h:RS cx c st a){d:Option Tmp}(hd:iX d=true)(hlo:xP st.lo d=true){ef:Eff cx.ty}{u:Value}{w':World}{T':List (Tk cx.ty)}(hg:Good cx c ef (fN st.ctr d) u w' T') :
  RS cx (c.nx ef w' T') (st.app d ef) (a.put d u):=by
 refine⟨hg.wf,lW h.size d ef.v u,?_,by rw[iL];exact h.defers,λn=>?_,λn=>?_,λn hn=>?_,λp u' hp=>⟨(h.kp p u' hp).1,(pE hlo u (h.kp p u' hp).1).trans (h.kp p u' hp).2⟩,h.pr.keep rfl rfl (λb hb=>(hg.pres.rd b (h.wf.rdS hb)).2),PdOK.none⟩
 ·exact nI h.size (λt=>RepV.pres cx hg.pres (h.rep t)) d hg.rep
 ·simp[Ct.nx,St.app,h.dead n]
 ·simp[Ct.nx,St.app,h.frz n]
 ·rcases hg.names n hn with hn | hn
  ·exact cN (h.names n hn) (aQ _ (nA _))
  ·exact zB hd hn
theorem RS.fresh {c:Ct cx.ty}{st:St cx.ty}{a:Act}(h:RS cx c st a)(d:Option Tmp):∀ n,Nm c n->¬ (fN st.ctr d<=n/\n < fN st.ctr d+64):=by
 intro n hn hb;have:=h.names n hn;unfold fN at hb;omega
theorem mZ {c:Ct cx.ty}{st:St cx.ty}{a:Act}(h:RS cx c st a){ef:Eff cx.ty}(hc:chk st ef=true):(∀ n∈ef.live,n∉c.D/\n∉c.F)/\∀ n∈ef.read,n∉c.D:=by
 simp only[chk,aJ,cG]at hc;refine⟨λn hn=>?_,λn hn=>?_⟩
 ·have:=hc.1 n hn;rw[h.dead,h.frz];simpa using this
 ·have:=hc.2 n hn;rw[h.dead];simpa using this
theorem Oper.wp_of_runs {o:Oper}{a:Act}{w:World}{next:Act->World->Prop}{Q:Exit->Act->World->Prop}(h:Runs P o a.eval w (λu w'=>next (a.put o.dst u) w')):o.wp P a w next Q:=by
 unfold Oper.wp;unfold Runs at h
 generalize (execOp a.eval o).run P w=r at h
 cases r with
 | ok n w'=>
  cases n<;>first | exact h | exact h.elim | skip
  case enter f args=>
   refine h.mono λe w'' ⟨v,he,hn⟩=>?_
   subst he;exact hn
 | halt x w'=>exact h.elim
theorem Runs.mono {o:Oper}{ρ:Operand->Value}{w:World}{K K':Value->World->Prop}(h:Runs P o ρ w K)(hk:∀ u w',K u w'->K' u w'):Runs P o ρ w K':=by
 unfold Runs at h ⊢
 generalize (execOp ρ o).run P w=r at h
 cases r with
 | ok n w'=>
  cases n<;>first | exact hk _ _ h | exact h.elim | skip
  case enter f args=>exact h.mono λe w'' ⟨v,he,hn⟩=>⟨v,he,hk _ _ hn⟩
 | halt x w'=>exact h.elim
end
section
variable {cx : Cx} {P : Program}
structure PresX (X:Nat->Prop) (c c':Ct cx.ty):Prop where
 rd:∀ b,Rd c b->Rd c' b/\c'.w.heap[b]?=c.w.heap[b]?
 dead:c'.D=c.D
 frz:c'.F=c.F
 tok:∀ tk∈c.T,¬ X tk.nm->∀ s,tk.c=.inl s->tk∈c'.T
 box:∀ tk∈c.T,¬ X tk.nm->∀ l,tk.c=.inr l->∃ tk'∈c'.T,tk'.nm=tk.nm/\tk'.u=tk.u/\tk'.c=.inr l
def aHp {ty:Nat->Type}(X:Nat->Prop):L ty->Prop
 | some (.inr s)=>s.own=1/\X s.nm
 | _=>False
theorem RepLS.presX {X:Nat->Prop}{c c':Ct cx.ty}(h:PresX X c c'){l:L cx.ty}{u:Value}(ht:¬ aHp X l)(hr:RepLS cx c l u):RepLS cx c' l u:=by
 have up:∀ {n:Nat} {l:L cx.ty} {u:Value},RepL cx c.w (Rd c) n l u->RepL cx c'.w (Rd c') n l u:=λhr=>RepL_mono cx (λb hb=>(h.rd b hb).2) (λb hb=>(h.rd b hb).1) _ _ _ hr
 match l,hr with
 | none,_=>trivial
 | some (.inl v),hr=>exact hr
 | some (.inr s),hr=>
  unfold RepLS at hr ⊢;by_cases h1:s.own=1
  ·have hX:¬ X s.nm:=λhx=>ht ⟨h1,hx⟩
   simp only[h1,if_true,h.dead,h.frz]at hr ⊢;obtain⟨hsl,hr⟩:=hr;refine⟨hsl,?_⟩;split at hr
   ·rename_i hd;rw[if_pos hd];trivial
   ·rename_i hd;rw[if_neg hd];split at hr
    ·rename_i hf;rw[if_pos hf];obtain⟨n,hr⟩:=hr;exact⟨n,up hr⟩
    ·rename_i hf;rw[if_neg hf];obtain⟨tk,k1,k2,k3,k4⟩:=hr;exact⟨tk,h.tok tk k1 (by rw[k2];exact hX) s k3,k2,k3,k4⟩
  ·simp only[h1,if_false]at hr ⊢;obtain⟨n,hr⟩:=hr;exact⟨n,up hr⟩
def vP {ty:Nat->Type}(nm:Nat)(cells:List (L ty))(v:V ty):V ty:=
 match v with
 | .inr (.inr p)=>if p.kind == 0&&p.nm == nm then .inr (.inr { p with cells:=cells })else .inr (.inr p)
 | v=>v
theorem kK {nm:Nat}{c c':Ct cx.ty}(h:PresX (λn=>n=nm) c c')(hib:∀ tk∈c.T,tk.nm=nm->∃ l,tk.c=.inr l){l:L cx.ty}{u:Value}(hl:RepLS cx c l u):RepLS cx c' l u:=by
 by_cases ht:aHp (λn=>n=nm) l
 ·match l,hl,ht with
  | some (.inr s),hl,⟨h1,h2⟩=>
   unfold RepLS at hl ⊢;simp only[h1,if_true,h.dead,h.frz]at hl ⊢;obtain⟨hsl,hl⟩:=hl;refine⟨hsl,?_⟩;split at hl
   ·rename_i hd;rw[if_pos hd];trivial
   ·rename_i hd;rw[if_neg hd];split at hl
    ·rename_i hf;rw[if_pos hf];obtain⟨n,hr⟩:=hl;exact⟨n,RepL_mono cx (λb hb=>(h.rd b hb).2) (λb hb=>(h.rd b hb).1) _ _ _ hr⟩
    ·obtain⟨tk,k1,k2,k3,_⟩:=hl;obtain⟨l,hl⟩:=hib tk k1 (by rw[k2];exact h2);rw[k3]at hl;cases hl
 ·exact hl.presX h ht
theorem aDu {nm:Nat}{cells:List (L cx.ty)}{c c':Ct cx.ty}(h:PresX (λn=>n=nm) c c')(hbox:∀ tk∈c.T,tk.nm=nm->∃ tk'∈c'.T,tk'.nm=nm/\tk'.u=tk.u/\tk'.c=.inr cells)(hib:∀ tk∈c.T,tk.nm=nm->∃ l,tk.c=.inr l)
  {v:V cx.ty} {u:Value} (hr:RepV cx c v u):RepV cx c' (vP nm cells v) u:=by
 have leaf:∀ {l:L cx.ty} {u:Value},RepLS cx c l u->RepLS cx c' l u:=λhl=>kK h hib hl
 have agg:∀ {a:A cx.ty} {u:Value},RepA cx c a u->RepA cx c' a u:=by
  intro a u ha
  match a,ha with
  | .inl l,ha=>exact leaf ha
  | .inr l,⟨us,hu,h1,h2⟩=>exact⟨us,hu,h1,λj a b e1 e2=>leaf (h2 j a b e1 e2)⟩
 have el:∀ {s:SlD cx.ty} {i b o:Nat},RepEl cx c s i b o->RepEl cx c' s i b o:=by
  rintro s i b o ⟨hb,x,hx,n,hr⟩;refine⟨(h.rd b hb).1,x,hx,n,λj l hl=>?_⟩;obtain⟨v,hv,hr⟩:=hr j l hl;exact⟨v,by rw[World.cell?_of_block (h.rd b hb).2];exact hv,RepL_mono cx (λb hb=>(h.rd b hb).2) (λb hb=>(h.rd b hb).1) _ _ _ hr⟩
 match v,hr with
 | .inl a,hr=>exact agg hr
 | .inr (.inl l),⟨us,hu,h1,h2⟩=>exact⟨us,hu,h1,λj a b e1 e2=>agg (h2 j a b e1 e2)⟩
 | .inr (.inr p),hr=>
  have hr:RepP cx c p u:=hr;simp only[vP];unfold RepP at hr;split at hr
  ·rename_i hk;obtain⟨tk,k1,k2,k3,g,k4,k5⟩:=hr;by_cases hn:p.nm=nm
   ·have:(p.kind == 0&&p.nm == nm)=true:=by simp[hk,hn]
    rw[if_pos this];obtain⟨tk',m1,m2,m3,m4⟩:=hbox tk k1 (by rw[k2,hn]);show RepP cx c' _ u;unfold RepP;simp only[hk];exact⟨tk',m1,by rw[m2,hn],m4,g,by rw[m3];exact k4,k5⟩
   ·have:¬ (p.kind == 0&&p.nm == nm)=true:=by simp[hn]
    rw[if_neg this];obtain⟨tk',m1,m2,m3,m4⟩:=h.box tk k1 (by rw[k2];exact hn) _ k3;show RepP cx c' p u;unfold RepP;simp only[hk];exact⟨tk',m1,by rw[m2,k2],m4,g,by rw[m3];exact k4,k5⟩
  ·rename_i hk;have:¬ (p.kind == 0&&p.nm == nm)=true:=by simp[hk]
   rw[if_neg this];show RepP cx c' p u;unfold RepP;simp only[hk,h.dead,h.frz]at hr ⊢;split at hr
   ·rename_i hd;rw[if_pos hd];trivial
   ·rename_i hd;rw[if_neg hd];split at hr
    ·rename_i hf;rw[if_pos hf];obtain⟨b,o,hu,hr⟩:=hr;exact⟨b,o,hu,el hr⟩
    ·rename_i hf;rw[if_neg hf];obtain⟨tk,k1,k2,k3,k4⟩:=hr;by_cases hn:tk.nm=nm
     ·obtain⟨l,hl⟩:=hib tk k1 hn;rw[k3]at hl;cases hl
     ·exact⟨tk,h.tok tk k1 hn _ k3,k2,k3,k4⟩
  ·rename_i hk;have:¬ (p.kind == 0&&p.nm == nm)=true:=by simp[hk]
   rw[if_neg this];show RepP cx c' p u;unfold RepP;simp only[hk];obtain⟨b,o,hu,hr⟩:=hr;exact⟨b,o,hu,el hr⟩
  ·rename_i k0 k1 k2;have:¬ (p.kind == 0&&p.nm == nm)=true:=by
    have:p.kind≠0:=k0;simp[this]
   rw[if_neg this];show RepP cx c' p u;unfold RepP;split<;>first | trivial | (rename_i hh;first | exact(k0 hh).elim | exact(k1 hh).elim | exact(k2 hh).elim)
theorem aER {c:Ct cx.ty}{l:L cx.ty}{u:Value}(h:RepLS cx c l u)(ho:oB l=true):u.oneCell'=true:=by
 match l,h,ho with
 | some (.inl v),h,ho=>
  have h:u=v:=h;subst h;cases u<;>first | rfl | (simp[oB]at ho)
 | some (.inr s),h,_=>
  have:∃ a n cap,u=.slice a n cap:=by
   unfold RepLS at h;by_cases h1:s.own=1
   ·simp only[h1,if_true]at h;exact h.1
   ·simp only[h1,if_false]at h;obtain⟨n,h⟩:=h;obtain⟨a,cap,hu⟩:=RepL_slice h;exact⟨a,_,cap,hu⟩
  obtain⟨a,n,cap,rfl⟩:=this
  rfl
def stB (P:Program)(st:St cx.ty)(t:TypeId)(a x:Operand):Option (St cx.ty):=
 match dU st.slots a,pN (dU st.slots x)with
 | .inr (.inr p),some l=>if p.kind == 0&&p.i == 0&&l.all oB&&(P.underlying t).isSome&&l.length == P.cellsOf t&&decide (p.off+l.length<=p.cells.length)then
   some { st with slots:=st.slots.map (vP p.nm (splice p.cells p.off l)),pend:=none }
  else none
 | _,_=>none
theorem aMu {o:Oper}{t:TypeId}{a x:Operand}(ho:o.op=.store t a x){st st':St cx.ty}(hst:stB P st t a x=some st'){c:Ct cx.ty}{act:Act}(h:RS cx c st act) :
  ∃ w' T',(execOp act.eval o).run P c.w=.ok .skip w'/\RS cx { c with T:=T',w:=w' } st' act/\Kept c.N c.w w':=by
 unfold stB at hst;split at hst
 ·rename_i p l hp hl;split at hst
  ·rename_i hc;simp only[aJ,beq_iff_eq,decide_eq_true_eq]at hc;obtain⟨⟨⟨⟨⟨hk,hi0⟩,hlo⟩,hund⟩,hsz⟩,hoff⟩:=hc;simp only[aB]at hst;subst hst;obtain⟨d,hd⟩:=cH.1 hund;have hra:=eP h.rep a;rw[hp]at hra;have hra:RepP cx c p (act.eval a):=hra;unfold RepP at hra;simp only[hk,hi0]at hra;obtain⟨tk,ht,hn,hcc,g,hu,hpa⟩:=hra;have hpa:act.eval a=.pointer (some ⟨g,p.off,none⟩):=hpa;have htr:=h.wf.rep tk ht;unfold TokRep at htr;rw[hcc]at htr;obtain⟨hfp,g',cur,e,hu',hh,hcells⟩:=htr;rw[hu]at hu';simp only[Value.pointer.injEq,aB,Addr.mk.injEq]at hu';obtain⟨rfl,_⟩:=hu';have hcv:=lT (eP h.rep x) hl;have hlen:(act.eval x).cells.toList.length=l.length:=hcv.1;have hone:∀ v∈(act.eval x).cells.toList,v.oneCell'=true:=by
    intro v hv;obtain⟨j,hj⟩:=dW hv;have hjl:j < l.length:=by rw[<-hlen];exact(aI.1 hj).1
    exact aER (hcv.2 j _ v (aC hjl) hj) (cG.1 hlo _ (iD hjl))
   have hcs:cur.toList.length=p.cells.length:=hcells.1;have hstore:=run_storeCells_at P g p.off e (act.eval x).cells.toList 0 cur c.w hh (by simp at hcs;omega) hone;simp only[jR]at hstore;have hrun:(execOp act.eval o).run P c.w=.ok .skip (c.w.setRow g (splice cur.toList p.off (act.eval x).cells.toList).toArray):=by
    have hsize:(act.eval x).cells.size=P.cellsOf t:=by rw[<-hsz,<-hlen];simp
    unfold execOp;simp only[ho,Instr.storeAt,Instr.sureAddr,hpa,storeVar,Sem.run_bind,Sem.run_pure,Result.andThen_ok,eD hd,hsize,ne_eq,not_true_eq_false,if_false];unfold splice;rw[hstore]
    rfl
   have hheap:∀ k,k≠g->(c.w.setRow g (splice cur.toList p.off (act.eval x).cells.toList).toArray).heap[k]?=c.w.heap[k]?:=λk hk=>setRow_other c.w g k _ hk
   have hsame:(c.w.setRow g (splice cur.toList p.off (act.eval x).cells.toList).toArray).heap.size=c.w.heap.size:=by simp[World.setRow]
   have hg:g∈vb tk.u:=by rw[hu];simp[vb]
   have hgb:=h.wf.bound tk ht g (aA.2 (.inl hg))
   let up:Tk cx.ty->Tk cx.ty:=λt2=>if t2.nm=p.nm then{ t2 with c:=.inr (splice p.cells p.off l) }else t2
   have upnm:∀ t2,(up t2).nm=t2.nm:=λt2=>by simp only[up];split<;>rfl
   have upu:∀ t2,(up t2).u=t2.u:=λt2=>by simp only[up];split<;>rfl
   have upfp:∀ t2,(up t2).fp=t2.fp:=λt2=>by simp only[up];split<;>rfl
   have huniq:∀ t2∈c.T,t2.nm=p.nm->t2=tk:=by
    intro t2 ht2 hn2;have hnd:=h.wf.names;rcases Classical.em (t2=tk)with h | h
    ·exact h
    ·exfalso;obtain⟨l1,l2,hl⟩:=cO ht;rw[hl]at hnd ht2;rw[dN,cU,aH]at hnd;rcases aA.1 ht2 with h3 | h3
     ·exact hnd.2.2 t2.nm (aM.2 ⟨t2,h3,rfl⟩) tk.nm (bR ..) (by rw[hn2,hn])
     ·rcases bS.1 h3 with h3 | h3
      ·exact h h3
      ·exact(dM.1 hnd.2.1).1 (aM.2 ⟨t2,h3,by rw[hn2,hn]⟩)
   have hib:∀ t2∈c.T,t2.nm=p.nm->∃ l,t2.c=.inr l:=λt2 ht2 hn2=>by rw[huniq t2 ht2 hn2];exact⟨_,hcc⟩
   have hP:PresX (λn=>n=p.nm) c { c with T:=c.T.map up,w:=c.w.setRow g (splice cur.toList p.off (act.eval x).cells.toList).toArray }:=by
    refine⟨λb hb=>?_,rfl,rfl,λt2 ht2 hX s hs=>?_,λt2 ht2 hX l' hl'=>?_⟩
    ·have hbg:b≠g:=λe=>hb.2.2 tk ht (e▸hg)
     refine⟨⟨dY hb.1 hsame.symm,hb.2.1,λt2 ht2=>?_⟩,hheap b hbg⟩;obtain⟨t3,h3,rfl⟩:=aM.1 ht2;rw[upu];exact hb.2.2 t3 h3
    ·exact aM.2 ⟨t2,ht2,by simp only[up];rw[if_neg hX]⟩
    ·exact⟨up t2,aM.2 ⟨t2,ht2,rfl⟩,upnm t2,upu t2,by simp only[up];rw[if_neg hX];exact hl'⟩
   refine⟨_,c.T.map up,hrun,⟨⟨?_,?_,?_,?_,h.wf.start,?_,?_⟩,by simp[h.size],λt2=>?_,h.defers,h.dead,h.frz,λn hn'=>?_,h.kp,h.pr.keep rfl rfl (λb hb=>(hP.rd b (h.wf.rdS hb)).2),PdOK.none⟩,?_⟩
   ·show((c.T.map up).map (·.nm)).Nodup;rw[iI];have:((λt2:Tk cx.ty=>t2.nm)∘up)=λt2=>t2.nm:=funext upnm
    rw[this];exact h.wf.names
   ·show((c.T.map up).flatMap _).Nodup;rw[gR];have:(λt2=>vb (up t2).u++(up t2).fp)=λt2:Tk cx.ty=>vb t2.u++t2.fp:=funext λt2=>by rw[upu,upfp]
    rw[this];exact h.wf.nodup
   ·intro t2 ht2 b hb;obtain⟨t3,h3,rfl⟩:=aM.1 ht2;rw[upu,upfp]at hb;have:=h.wf.bound t3 h3 b hb;exact⟨this.1,dY this.2 hsame.symm⟩
   ·intro t2 ht2;obtain⟨t3,h3,rfl⟩:=aM.1 ht2;have hold:=h.wf.rep t3 h3;by_cases hn3:t3.nm=p.nm
    ·have e3:=huniq t3 h3 hn3;subst e3;unfold TokRep;simp only[up,hn3,if_true];refine⟨hfp,g,_,e,hu,setRow_heap c.w g cur _ e _ hh,?_⟩;have a1:RepLs cx { c with T:=c.T.map up,w:=c.w.setRow g (splice cur.toList p.off (act.eval x).cells.toList).toArray } p.cells cur.toList:=⟨hcells.1,λj a b e1 e2=>kK hP hib (hcells.2 j a b e1 e2)⟩
     have a2:RepLs cx { c with T:=c.T.map up,w:=c.w.setRow g (splice cur.toList p.off (act.eval x).cells.toList).toArray } l (act.eval x).cells.toList:=⟨hcv.1,λj a b e1 e2=>kK hP hib (hcv.2 j a b e1 e2)⟩
     simpa using a1.splice a2 hoff
    ·have hup:up t3=t3:=by simp only[up];rw[if_neg hn3]
     rw[hup];have hblk:∀ b∈vb t3.u++t3.fp,(c.w.setRow g (splice cur.toList p.off (act.eval x).cells.toList).toArray).heap[b]?=c.w.heap[b]?:=λb hb=>hheap b (λe=>dD h.wf h3 ht (λe2=>hn3 (by rw[e2,hn])) hb (by rw[e];exact aA.2 (.inl hg)))
     unfold TokRep at hold ⊢;split at hold
     ·rename_i s hs;obtain⟨hv,hold⟩:=hold;refine⟨hv,?_⟩;split at hold
      ·rename_i hso;rw[if_pos hso];obtain⟨n,hold⟩:=hold;exact⟨n,OwnL_mono cx n _ _ _ hblk hold⟩
      ·rename_i hso;rw[if_neg hso];obtain⟨hf,us,n,hrow,hl2,hr⟩:=hold;refine⟨hf,us,n,?_,hl2,λj l v h1 h2=>RepL_mono cx (λb hb=>(hP.rd b hb).2) (λb hb=>(hP.rd b hb).1) n l v (hr j l v h1 h2)⟩;obtain⟨hx,hcx⟩:=hrow;refine⟨hx,?_⟩;rcases hcx with hcx | ⟨g2,cap2,cur2,hv',hg2,hh2,hrest⟩
       ·exact .inl hcx
       ·refine .inr ⟨g2,cap2,cur2,hv',hg2,?_,hrest⟩;rw[hblk g2 (by rw[hv'];simp[vb])];exact hh2
     ·obtain⟨hf,g2,cur2,e2,hu2,hh2,hr⟩:=hold;refine⟨hf,g2,cur2,e2,hu2,?_,hr.1,λj a b e1 e2=>kK hP hib (hr.2 j a b e1 e2)⟩;rw[hblk g2 (by rw[hu2];simp[vb])];exact hh2
   ·intro t2 ht2;obtain⟨t3,h3,rfl⟩:=aM.1 ht2;rw[upnm];exact h.wf.live t3 h3
   ·exact λb hb=>h.wf.size b (dZ (nV hsame.symm) hb)
   ·have hbase:=aDu (cells:=splice p.cells p.off l) hP (λt3 h3 hn3=>⟨up t3,aM.2 ⟨t3,h3,rfl⟩,by rw[upnm,hn3],upu t3,by simp only[up];rw[if_pos hn3]⟩) hib (h.rep t2);have:(st.slots.map (vP p.nm (splice p.cells p.off l))).getD t2 aN=vP p.nm (splice p.cells p.off l) (st.slots.getD t2 aN):=by
     by_cases hlt:t2 < st.slots.length
     ·simp[List.getD,hlt]
     ·simp[List.getD,bQ (fC hlt),aN,vP]
    show RepV cx _ ((st.slots.map (vP p.nm (splice p.cells p.off l))).getD t2 aN) _;rw[this];exact hbase
   ·rcases hn' with⟨t2,ht2,rfl⟩ | hn' | hn'
    ·obtain⟨t3,h3,rfl⟩:=aM.1 ht2;rw[upnm];exact h.names _ (.inl ⟨t3,h3,rfl⟩)
    ·exact h.names _ (.inr (.inl hn'))
    ·exact h.names _ (.inr (.inr hn'))
   ·exact⟨rfl,rfl,rfl,by rw[hsame];exact aK _,λk hk=>hheap k (λe=>hk (e▸hgb.1))⟩
  ·simp at hst
 ·simp at hst
end
section
variable {cx : Cx} {P : Program}
def jQ {ty:Nat->Type}(nm:Nat)(s':SlD ty):L ty->L ty
 | some (.inr s)=>if s.own == 1&&s.nm == nm then some (.inr s')else some (.inr s)
 | l=>l
def wO {ty:Nat->Type}(nm:Nat)(s':SlD ty):A ty->A ty
 | .inl l=>.inl (jQ nm s' l)
 | .inr l=>.inr (l.map (jQ nm s'))
def iN {ty:Nat->Type}(nm:Nat)(s':SlD ty):V ty->V ty
 | .inl a=>.inl (wO nm s' a)
 | .inr (.inl l)=>.inr (.inl (l.map (wO nm s')))
 | .inr (.inr p)=>match p.kind with
  | 0=>.inr (.inr { p with cells:=p.cells.map (jQ nm s') })
  | 1=>if p.nm == nm then .inr (.inr { p with s:=s' })else .inr (.inr p)
  | _=>.inr (.inr p)
def aFs {ty:Nat->Type}:L ty->Bool
 | some (.inl (.agg _))=>false
 | some (.inl (.tuple _))=>false
 | some (.inl _)=>true
 | _=>false
def aJA (cx:Cx)(e:Nat)(xs:List (cx.ty e))(i off:Nat)(l:List (L cx.ty))(x':cx.ty e):List (cx.ty e):=
 match Nat.ble (cx.size e) 5 || Nat.ble (cx.size e) l.length with
 | true=>xs.set i x'
 | false=>xs.modify i λy=>match cx.dec e (splice (cx.enc e true y) off l)with
  | some z=>z
  | none=>y
theorem aFx {e:Nat}{xs:List (cx.ty e)}{i off:Nat}{l:List (L cx.ty)}{x':cx.ty e}(hi:i < xs.length)(h:cx.dec e (splice (cx.enc e true (xs.getD i (cx.dflt e))) off l)=some x'):aJA cx e xs i off l x'=xs.set i x':=by
 unfold aJA;split
 ·rfl
 ·apply dV;intro j;rw[List.getElem?_modify,List.getElem?_set];by_cases hj:i=j
  ·subst hj;have hx:xs.getD i (cx.dflt e)=xs[i]:=by simp[List.getD,hi]
   rw[hx]at h;rw[if_pos rfl,if_pos hi,aC hi];show some (if i=i then _ else _)=_;rw[if_pos rfl,h]
  ·rw[if_neg hj];cases xs[j]?<;>simp[hj]
def stE (P:Program)(st:St cx.ty)(t:TypeId)(a x:Operand):Option (St cx.ty):=
 match dU st.slots a,pN (dU st.slots x)with
 | .inr (.inr p),some l=>
  if p.kind == 1&&p.s.o&&p.s.own == 1&&p.s.nm == p.nm&&cx.flat p.s.e&&!st.D.contains p.nm&&!st.F.contains p.nm&&l.all aFs&&(P.underlying t).isSome&&l.length == P.cellsOf t&&decide (p.off+l.length<=cx.size p.s.e)then
   match cx.dec p.s.e (splice (cx.enc p.s.e true (p.s.xs.getD p.i (cx.dflt p.s.e))) p.off l)with
   | some x'=>some { st with slots:=st.slots.map (iN p.nm { p.s with xs:=aJA cx p.s.e p.s.xs p.i p.off l x' }),pend:=none }
   | none=>none
  else none
 | _,_=>none
theorem aEB {α:Type}(F1 B F2 l:List α)(off:Nat)(h:off+l.length<=B.length):splice (F1++B++F2) (F1.length+off) l=F1++splice B off l++F2:=by
 unfold splice;have e1:(F1++B++F2).take (F1.length+off)=F1++B.take off:=by
  rw[dB,List.take_length_add_append,cP (by omega)]
 have e2:(F1++B++F2).drop (F1.length+off+l.length)=B.drop (off+l.length)++F2:=by
  rw[dB,gT,List.drop_length_add_append,mH (by omega)]
 rw[e1,e2];simp
theorem pD {α β:Type}(f:α->β)(l p:List α)(off:Nat):(splice l off p).map f=splice (l.map f) off (p.map f):=by
 simp[splice,pR,pS]
theorem qK {α:Type}(l p:List α)(off m:Nat)(h:off+p.length<=m)(hl:off+p.length<=l.length):(splice l off p).take m=splice (l.take m) off p:=by
 apply dV;intro j;rw[bK,gQ hl,gQ (by simp;omega),bK];by_cases h1:off<=j/\j < off+p.length
 ·rw[if_pos h1,if_pos h1,if_pos (by omega)]
 ·rw[if_neg h1,if_neg h1]
theorem mY {α β:Type}(f:α->List β)(k:Nat)(hf:∀ x,(f x).length=k)(xs:List α)(i:Nat)(x x':α)(hx:xs[i]?=some x)(off:Nat)(l:List β)(hl:off+l.length<=k)(he:f x'=splice (f x) off l) :
  (xs.set i x').flatMap f=splice (xs.flatMap f) (i * k+off) l:=by
 have hi:i < xs.length:=(aI.1 hx).1;have hxe:xs[i]=x:=(aI.1 hx).2;have hsplit:xs=xs.take i++x::xs.drop (i+1):=by
  rw[<-hxe]
  conv=>lhs;rw[<-dH i xs,dE hi]
 have hset:xs.set i x'=xs.take i++x'::xs.drop (i+1):=by
  rw[fV,if_pos hi]
 have hlen:((xs.take i).flatMap f).length=i * k:=by
  rw[eX _ _ hf,bA,Nat.min_eq_left (by omega)]
 rw[hset]
 conv=>rhs;rw[hsplit]
 simp only[bE,aR];rw[<-dB,<-dB,<-hlen,aEB _ _ _ _ _ (by rw[hf];exact hl),he]
theorem aDy {c:Ct cx.ty}{T':List (Tk cx.ty)}{w':World}{nm:Nat}{s s':SlD cx.ty}{tk0:Tk cx.ty}(hown:s'.own=1)(hsn:s'.nm=nm)(hD:nm∉c.D)(hF:nm∉c.F)
  (hrd:∀ b,Rd c b->Rd { c with T:=T',w:=w' } b/\w'.heap[b]?=c.w.heap[b]?) (_h0:tk0∈c.T) (hn0:tk0.nm=nm) (_hc0:tk0.c=.inl s) (huniq:∀ t2∈c.T,t2.nm=nm->t2=tk0)
  (hnew:{ tk0 with c:=.inl s' }∈T') (hkeep:∀ t2∈c.T,t2.nm≠nm->∀ s,t2.c=.inl s->t2∈T') {l:L cx.ty} {u:Value} (hl:RepLS cx c l u):RepLS cx { c with T:=T',w:=w' } (jQ nm s' l) u:=by
 match l,hl with
 | none,_=>trivial
 | some (.inl v),hl=>exact hl
 | some (.inr q),hl=>
  simp only[jQ];by_cases h1:q.own=1
  ·by_cases h2:q.nm=nm
   ·rw[if_pos (by simp[h1,h2])];unfold RepLS at hl ⊢;simp only[h1,if_true,h2,hD,hF,if_false,hown,hsn]at hl ⊢;obtain⟨hsl,tk,k1,k2,k3,k4⟩:=hl;refine⟨hsl,⟨_,hnew,hn0,rfl,?_⟩⟩;rw[<-huniq tk k1 k2];exact k4
   ·rw[if_neg (by simp[h2])];unfold RepLS at hl ⊢;simp only[h1,if_true]at hl ⊢;obtain⟨hsl,hl⟩:=hl;refine⟨hsl,?_⟩;split at hl
    ·rename_i hd;rw[if_pos hd];trivial
    ·rename_i hd;rw[if_neg hd];split at hl
     ·rename_i hf;rw[if_pos hf];obtain⟨n,hl⟩:=hl;exact⟨n,RepL_mono cx (λb hb=>(hrd b hb).2) (λb hb=>(hrd b hb).1) _ _ _ hl⟩
     ·rename_i hf;rw[if_neg hf];obtain⟨tk,k1,k2,k3,k4⟩:=hl;exact⟨tk,hkeep tk k1 (by rw[k2];exact h2) q k3,k2,k3,k4⟩
  ·rw[if_neg (by simp[h1])];unfold RepLS at hl ⊢;simp only[h1,if_false]at hl ⊢;obtain⟨n,hl⟩:=hl;exact⟨n,RepL_mono cx (λb hb=>(hrd b hb).2) (λb hb=>(hrd b hb).1) _ _ _ hl⟩
theorem RepLs.mapE {c c':Ct cx.ty}{f:L cx.ty->L cx.ty}(hf:∀ l u,RepLS cx c l u->RepLS cx c' (f l) u){l:List (L cx.ty)}{us:List Value}(h:RepLs cx c l us):RepLs cx c' (l.map f) us:=by
 refine⟨by rw[dK];exact h.1,λj a u e1 e2=>?_⟩;rw[aX]at e1;cases e0:l[j]? with
 | none=>rw[e0]at e1;simp at e1
 | some a0=>
  rw[e0]at e1;simp only[aD,aB]at e1;subst e1;exact hf _ _ (h.2 j a0 u e0 e2)
theorem aMs (ok:cx.Ok){o:Oper}{t:TypeId}{a x:Operand}(ho:o.op=.store t a x){st st':St cx.ty}(hst:stE P st t a x=some st'){c:Ct cx.ty}{act:Act}(h:RS cx c st act) :
  ∃ w' T',(execOp act.eval o).run P c.w=.ok .skip w'/\RS cx { c with T:=T',w:=w' } st' act/\Kept c.N c.w w':=by
 unfold stE at hst;split at hst
 ·rename_i p l hp hl;split at hst
  ·rename_i hc;simp only[aJ,beq_iff_eq,decide_eq_true_eq,dC]at hc;obtain⟨⟨⟨⟨⟨⟨⟨⟨⟨⟨hk,hso⟩,hown⟩,hsn⟩,hflat⟩,hnD⟩,hnF⟩,hlo⟩,hund⟩,hsz⟩,hoff⟩:=hc;split at hst
   ·rename_i x' hdec;simp only[aB]at hst;subst hst;obtain⟨d,hd⟩:=cH.1 hund;have hnD:p.nm∉c.D:=by rw[h.dead];simpa using hnD
    have hnF:p.nm∉c.F:=by rw[h.frz];simpa using hnF
    have hra:=eP h.rep a;rw[hp]at hra;have hra:RepP cx c p (act.eval a):=hra;unfold RepP at hra;simp only[hk,hnD,hnF,if_false]at hra;obtain⟨tk,ht,hn,hcc,hi,g,n0,cap0,hu,hpa⟩:=hra;rw[aFx hi hdec];have htr:=h.wf.rep tk ht;unfold TokRep at htr;rw[hcc]at htr;simp only[hso,if_true]at htr;obtain⟨hvb,nn,htr⟩:=htr;obtain⟨hrow,hfp⟩:=xD ok hflat htr;obtain⟨hrl,hrow⟩:=hrow;have hfp0:tk.fp=[]:=by
     rw[hvb]at hfp;simpa using hfp
    rcases hrow with⟨hbad,_⟩ | ⟨g',cap,cur,hu',hg0,hh,hncap,hcapm,hcur,htake⟩
    ·rw[hu]at hbad;simp at hbad
    rw[hu]at hu';simp only[Value.slice.injEq,aB,Addr.mk.injEq]at hu';obtain⟨⟨rfl,_⟩,rfl,rfl⟩:=hu';have hcv:=lT (eP h.rep x) hl;have hlen:(act.eval x).cells.toList.length=l.length:=hcv.1;have hlv:l=(act.eval x).cells.toList.map lv:=by
     apply dV;intro j;rw[aX];cases e1:l[j]? with
     | none=>
      have:l.length<=j:=List.getElem?_eq_none_iff.1 e1;rw[bQ (by omega)];rfl
     | some q=>
      have hj:j < l.length:=(aI.1 e1).1;rw[aC (by omega)];have hq:=cG.1 hlo q (bC e1);have:=hcv.2 j q _ e1 (aC (by omega))
      match q,hq,this with
      | some (.inl v),hq,this=>
       have this:_=v:=this;rw[this];rfl
    have hone:∀ v∈(act.eval x).cells.toList,v.oneCell'=true:=by
     intro v hv;have hm:lv v∈l:=by rw[hlv];exact aM.2 ⟨v,hv,rfl⟩
     have hq:=cG.1 hlo _ hm;cases v<;>first | rfl | (simp[lv,aFs]at hq)
    have hxi:p.s.xs[p.i]?=some (p.s.xs.getD p.i (cx.dflt p.s.e)):=by
     rw[aC hi];simp[List.getD,hi]
    have henc:cx.enc p.s.e true x'=splice (cx.enc p.s.e true (p.s.xs.getD p.i (cx.dflt p.s.e))) p.off l:=by
     rw[<-ok.dec _ _ _ true hdec];have:∀ q∈splice (cx.enc p.s.e true (p.s.xs.getD p.i (cx.dflt p.s.e))) p.off l,weak true q=q:=by
      intro q hq;unfold splice at hq;have hv:∃ v,q=some (.inl v):=by
       rcases aA.1 hq with hq | hq
       ·rcases aA.1 hq with hq | hq
        ·exact ok.flat _ _ _ hflat q (eB hq)
        ·rw[hlv]at hq;obtain⟨v,_,rfl⟩:=aM.1 hq;exact⟨v,rfl⟩
       ·exact ok.flat _ _ _ hflat q (cC hq)
      obtain⟨v,rfl⟩:=hv
      rfl
     conv=>rhs;rw[<-List.map_id (splice _ _ _)]
     exact nC this
    have hset:=mY (cx.enc p.s.e true) (cx.size p.s.e) (λx=>ok.len p.s.e true x) p.s.xs p.i _ x' hxi p.off l hoff henc;have hfv:dG cx p.s.e (p.s.xs.set p.i x')=splice (dG cx p.s.e p.s.xs) (p.i * cx.size p.s.e+p.off) (act.eval x).cells.toList:=by
     rw[mA ok hflat true,mA ok hflat true,hlv,<-pD]at hset;have inj:∀ a b:Value,(lv a:L cx.ty)=lv b->a=b:=λa b e=>by simpa[lv]using e
     exact(List.map_inj_right inj).1 hset
    have hmul:(p.i+1) * cx.size p.s.e<=p.s.xs.length * cx.size p.s.e:=aQ _ hi;have hmul2:p.s.xs.length * cx.size p.s.e<=cap0 * cx.size p.s.e:=aQ _ hncap;rw[eZ,pP]at hmul;have hfit:p.i * cx.size p.s.e+p.off+(act.eval x).cells.toList.length<=cur.toList.length:=by
     have:cur.toList.length=cur.size:=by simp
     omega
    have hstore:=run_storeCells_at P g (p.i * cx.size p.s.e+p.off) p.s.e (act.eval x).cells.toList 0 cur c.w hh (by omega) hone;simp only[jR]at hstore;have hrun:(execOp act.eval o).run P c.w=.ok .skip (c.w.setRow g (splice cur.toList (p.i * cx.size p.s.e+p.off) (act.eval x).cells.toList).toArray):=by
     have hsize:(act.eval x).cells.size=P.cellsOf t:=by rw[<-hsz,<-hlen];simp
     unfold execOp;simp only[ho,Instr.storeAt,Instr.sureAddr,hpa,storeVar,Sem.run_bind,Sem.run_pure,Result.andThen_ok,eD hd,hsize,ne_eq,not_true_eq_false,if_false];unfold splice;rw[hstore]
     rfl
    generalize hW:c.w.setRow g (splice cur.toList (p.i * cx.size p.s.e+p.off) (act.eval x).cells.toList).toArray=w' at hrun
    have hheap:∀ k,k≠g->w'.heap[k]?=c.w.heap[k]?:=λk hk=>by rw[<-hW];exact setRow_other c.w g k _ hk
    have hsame:w'.heap.size=c.w.heap.size:=by rw[<-hW];simp[World.setRow]
    have hnewrow:w'.heap[g]?=some (.cells (splice cur.toList (p.i * cx.size p.s.e+p.off) (act.eval x).cells.toList).toArray p.s.e (0,0)):=by rw[<-hW];exact setRow_heap c.w g cur _ _ _ hh
    have hg:g∈vb tk.u:=by rw[hu];simp[vb]
    have hgb:=h.wf.bound tk ht g (aA.2 (.inl hg))
    generalize hs':({ p.s with xs:=p.s.xs.set p.i x' }:SlD cx.ty)=s'
    have hs'own:s'.own=1:=by rw[<-hs'];exact hown
    have hs'nm:s'.nm=p.nm:=by rw[<-hs'];exact hsn
    have hs'o:s'.o=true:=by rw[<-hs'];exact hso
    have huniq:∀ t2∈c.T,t2.nm=p.nm->t2=tk:=by
     intro t2 ht2 hn2;have hnd:=h.wf.names;rcases Classical.em (t2=tk)with h | h
     ·exact h
     ·exfalso;obtain⟨l1,l2,hl⟩:=cO ht;rw[hl]at hnd ht2;rw[dN,cU,aH]at hnd;rcases aA.1 ht2 with h3 | h3
      ·exact hnd.2.2 t2.nm (aM.2 ⟨t2,h3,rfl⟩) tk.nm (bR ..) (by rw[hn2,hn])
      ·rcases bS.1 h3 with h3 | h3
       ·exact h h3
       ·exact(dM.1 hnd.2.1).1 (aM.2 ⟨t2,h3,by rw[hn2,hn]⟩)
    let up:Tk cx.ty->Tk cx.ty:=λt2=>match t2.c with
     | .inl _=>if t2.nm=p.nm then{ t2 with c:=.inl s' }else t2
     | .inr cells=>{ t2 with c:=.inr (cells.map (jQ p.nm s')) }
    have upnm:∀ t2,(up t2).nm=t2.nm:=λt2=>by simp only[up];split<;>(try split)<;>rfl
    have upu:∀ t2,(up t2).u=t2.u:=λt2=>by simp only[up];split<;>(try split)<;>rfl
    have upfp:∀ t2,(up t2).fp=t2.fp:=λt2=>by simp only[up];split<;>(try split)<;>rfl
    have upl:∀ t2 s,t2.c=.inl s->t2.nm≠p.nm->up t2=t2:=λt2 s e hne=>by simp only[up];rw[e];simp only;rw[if_neg hne]
    have up0:up tk={ tk with c:=.inl s' }:=by simp only[up];rw[hcc];simp only;rw[if_pos hn]
    have hrd:∀ b,Rd c b->Rd { c with T:=c.T.map up,w:=w' } b/\w'.heap[b]?=c.w.heap[b]?:=by
     intro b hb;have hbg:b≠g:=λe=>hb.2.2 tk ht (e▸hg)
     refine⟨⟨dY hb.1 hsame.symm,hb.2.1,λt2 ht2=>?_⟩,hheap b hbg⟩;obtain⟨t3,h3,rfl⟩:=aM.1 ht2;rw[upu];exact hb.2.2 t3 h3
    have hleaf:∀ (q:L cx.ty) (u:Value),RepLS cx c q u->RepLS cx { c with T:=c.T.map up,w:=w' } (jQ p.nm s' q) u:=λq u hq=>
     aDy (s:=p.s) hs'own hs'nm hnD hnF hrd ht hn hcc huniq (aM.2 ⟨tk,ht,up0⟩) (λt2 h2 hne s hs=>aM.2 ⟨t2,h2,upl t2 s hs hne⟩) hq
    have hagg:∀ (q:A cx.ty) (u:Value),RepA cx c q u->RepA cx { c with T:=c.T.map up,w:=w' } (wO p.nm s' q) u:=by
     intro q u hq
     match q,hq with
     | .inl q,hq=>exact hleaf q u hq
     | .inr q,⟨us,hu,hq⟩=>exact⟨us,hu,hq.mapE hleaf⟩
    have hel:∀ {s:SlD cx.ty} {i b o:Nat},RepEl cx c s i b o->RepEl cx { c with T:=c.T.map up,w:=w' } s i b o:=by
     rintro s i b o ⟨hb,y,hy,n,hr⟩;refine⟨(hrd b hb).1,y,hy,n,λj q hq=>?_⟩;obtain⟨v,hv,hr⟩:=hr j q hq;exact⟨v,by rw[World.cell?_of_block (hrd b hb).2];exact hv,RepL_mono cx (λb hb=>(hrd b hb).2) (λb hb=>(hrd b hb).1) _ _ _ hr⟩
    have hval:∀ (q:V cx.ty) (u:Value),RepV cx c q u->RepV cx { c with T:=c.T.map up,w:=w' } (iN p.nm s' q) u:=by
     intro q u hq
     match q,hq with
     | .inl q,hq=>exact hagg q u hq
     | .inr (.inl q),⟨us,hu,h1,h2⟩=>
      refine⟨us,hu,by rw[dK];exact h1,λj a b e1 e2=>?_⟩;rw[aX]at e1;cases e0:q[j]? with
      | none=>rw[e0]at e1;simp at e1
      | some a0=>
       rw[e0]at e1;simp only[aD,aB]at e1;subst e1;exact hagg _ _ (h2 j a0 b e0 e2)
     | .inr (.inr q),hq=>
      have hq:RepP cx c q u:=hq;unfold RepP at hq;simp only[iN];split at hq
      ·rename_i hk0;obtain⟨t2,k1,k2,k3,g2,k4,k5⟩:=hq;simp only[hk0];show RepP cx { c with T:=c.T.map up,w:=w' } { q with kind:=0,cells:=q.cells.map (jQ p.nm s') } u;unfold RepP;simp only;exact⟨up t2,aM.2 ⟨t2,k1,rfl⟩,by rw[upnm];exact k2,by simp only[up];rw[k3],g2,by rw[upu];exact k4,k5⟩
      ·rename_i hk1;simp only[hk1];by_cases hne:q.nm=p.nm
       ·rw[if_pos (by simp[hne])];show RepP cx { c with T:=c.T.map up,w:=w' } { q with kind:=1,s:=s' } u;unfold RepP;simp only[hne,hnD,hnF,if_false]at hq ⊢;obtain⟨t2,k1,k2,k3,k4,g2,n2,cap2,k5,k6⟩:=hq;have e2:=huniq t2 k1 k2;subst e2;have hqs:q.s=p.s:=by
         rw[hcc]at k3;exact(Sum.inl.inj k3).symm
        refine⟨up t2,aM.2 ⟨t2,k1,rfl⟩,by rw[upnm];exact k2,by rw[up0],?_,g2,n2,cap2,by rw[upu];exact k5,?_⟩
        ·rw[<-hs'];simp only[bW];rw[<-hqs];exact k4
        ·rw[<-hs'];simp only;rw[<-hqs];exact k6
       ·rw[if_neg (by simp[hne])];show RepP cx { c with T:=c.T.map up,w:=w' } q u;unfold RepP;simp only[hk1]at hq ⊢;split at hq
        ·rename_i hd';rw[if_pos hd'];trivial
        ·rename_i hd';rw[if_neg hd'];split at hq
         ·rename_i hf';rw[if_pos hf'];obtain⟨b,o,hu,hr⟩:=hq;exact⟨b,o,hu,hel hr⟩
         ·rename_i hf';rw[if_neg hf'];obtain⟨t2,k1,k2,k3,k4⟩:=hq;exact⟨t2,aM.2 ⟨t2,k1,upl t2 _ k3 (by rw[k2];exact hne)⟩,k2,k3,k4⟩
      ·rename_i hk2;simp only[hk2];show RepP cx { c with T:=c.T.map up,w:=w' } q u;unfold RepP;simp only[hk2];obtain⟨b,o,hu,hr⟩:=hq;exact⟨b,o,hu,hel hr⟩
      ·rename_i k0 k1 k2;have:(match q.kind with
        | 0=>(.inr (.inr { q with cells:=q.cells.map (jQ p.nm s') }):V cx.ty)
        | 1=>if(q.nm == p.nm)=true then .inr (.inr { q with s:=s' })else .inr (.inr q)
        | _=>.inr (.inr q))=.inr (.inr q):=by
        split<;>first | rfl | (rename_i hh;first | exact(k0 hh).elim | exact(k1 hh).elim)
       rw[this];show RepP cx { c with T:=c.T.map up,w:=w' } q u;unfold RepP;split<;>first | trivial | (rename_i hh;first | exact(k0 hh).elim | exact(k1 hh).elim | exact(k2 hh).elim)
    refine⟨w',c.T.map up,hrun,⟨⟨?_,?_,?_,?_,h.wf.start,?_,?_⟩,by simp[h.size],λt2=>?_,h.defers,h.dead,h.frz,λn hn'=>?_,h.kp,h.pr.keep rfl rfl (λb hb=>(hrd b (h.wf.rdS hb)).2),PdOK.none⟩,?_⟩
    ·show((c.T.map up).map (·.nm)).Nodup;rw[iI];have:((λt2:Tk cx.ty=>t2.nm)∘up)=λt2=>t2.nm:=funext upnm
     rw[this];exact h.wf.names
    ·show((c.T.map up).flatMap _).Nodup;rw[gR];have:(λt2=>vb (up t2).u++(up t2).fp)=λt2:Tk cx.ty=>vb t2.u++t2.fp:=funext λt2=>by rw[upu,upfp]
     rw[this];exact h.wf.nodup
    ·intro t2 ht2 b hb;obtain⟨t3,h3,rfl⟩:=aM.1 ht2;rw[upu,upfp]at hb;have:=h.wf.bound t3 h3 b hb;exact⟨this.1,dY this.2 hsame.symm⟩
    ·intro t2 ht2;obtain⟨t3,h3,rfl⟩:=aM.1 ht2;have hold:=h.wf.rep t3 h3;by_cases hn3:t3.nm=p.nm
     ·have e3:=huniq t3 h3 hn3;subst e3;rw[up0];unfold TokRep;simp only[hs'o,if_true];refine⟨hvb,1,?_⟩;have hro:w'.ownsRow 0 s'.e (cx.size s'.e) t3.u s'.xs.length (dG cx s'.e s'.xs):=by
       rw[<-hs'];simp only[bW];refine⟨by rw[jU ok hflat,bW],.inr ⟨g,cap0,_,hu,bX _,hnewrow,hncap,hcapm,?_,?_⟩⟩
       ·simp only[cR];rw[gP hfit];simpa using hcur
       ·simp only;rw[qK cur.toList (act.eval x).cells.toList (p.i * cx.size p.s.e+p.off) _ (by omega) hfit,htake,hfv]
      have:=uP ok (s:=s') (by rw[<-hs'];exact hflat) hro;rw[hfp0,dR,hvb];exact this
     ·have hblk:∀ b∈vb t3.u++t3.fp,w'.heap[b]?=c.w.heap[b]?:=λb hb=>hheap b (λe=>dD h.wf h3 ht (λe2=>hn3 (by rw[e2,hn])) hb (by rw[e];exact aA.2 (.inl hg)))
      unfold TokRep at hold;split at hold
      ·rename_i s hs;rw[upl t3 s hs hn3];unfold TokRep;rw[hs];simp only;obtain⟨hv,hold⟩:=hold;refine⟨hv,?_⟩;split at hold
       ·rename_i hso2;rw[if_pos hso2];obtain⟨n,hold⟩:=hold;exact⟨n,OwnL_mono cx n _ _ _ hblk hold⟩
       ·rename_i hso2;rw[if_neg hso2];obtain⟨hf,us,n,hrow,hl2,hr⟩:=hold;refine⟨hf,us,n,?_,hl2,λj l v h1 h2=>RepL_mono cx (λb hb=>(hrd b hb).2) (λb hb=>(hrd b hb).1) n l v (hr j l v h1 h2)⟩;obtain⟨hx,hcx⟩:=hrow;refine⟨hx,?_⟩;rcases hcx with hcx | ⟨g2,cap2,cur2,hv',hg2,hh2,hrest⟩
        ·exact .inl hcx
        ·refine .inr ⟨g2,cap2,cur2,hv',hg2,?_,hrest⟩;rw[hblk g2 (by rw[hv'];simp[vb])];exact hh2
      ·rename_i cells hs;obtain⟨hf,g2,cur2,e2,hu2,hh2,hr⟩:=hold;have hup:up t3={ t3 with c:=.inr (cells.map (jQ p.nm s')) }:=by simp only[up];rw[hs]
       rw[hup];unfold TokRep;refine⟨hf,g2,cur2,e2,hu2,?_,hr.mapE hleaf⟩;rw[hblk g2 (by rw[hu2];simp[vb])];exact hh2
    ·intro t2 ht2;obtain⟨t3,h3,rfl⟩:=aM.1 ht2;rw[upnm];exact h.wf.live t3 h3
    ·exact λb hb=>h.wf.size b (dZ (nV hsame.symm) hb)
    ·have:(st.slots.map (iN p.nm s')).getD t2 aN=iN p.nm s' (st.slots.getD t2 aN):=by
      by_cases hlt:t2 < st.slots.length
      ·simp[List.getD,hlt]
      ·simp[List.getD,bQ (fC hlt),aN,iN,wO,jQ]
     show RepV cx _ ((st.slots.map (iN p.nm s')).getD t2 aN) _;rw[this];exact hval _ _ (h.rep t2)
    ·rcases hn' with⟨t2,ht2,rfl⟩ | hn' | hn'
     ·obtain⟨t3,h3,rfl⟩:=aM.1 ht2;rw[upnm];exact h.names _ (.inl ⟨t3,h3,rfl⟩)
     ·exact h.names _ (.inr (.inl hn'))
     ·exact h.names _ (.inr (.inr hn'))
    ·exact⟨by rw[<-hW];rfl,by rw[<-hW];rfl,by rw[<-hW];rfl,by rw[hsame];exact aK _,λk hk=>hheap k (λe=>hk (e▸hgb.1))⟩
   ·simp at hst
  ·simp at hst
 ·simp at hst
end
section
variable {cx : Cx} {P : Program}
def stA (P:Program)(st:St cx.ty)(t:TypeId)(a x:Operand):Option (St cx.ty):=
 match stB P st t a x with
 | some st'=>some st'
 | none=>stE P st t a x
theorem aMv (ok:cx.Ok){o:Oper}{t:TypeId}{a x:Operand}(ho:o.op=.store t a x){st st':St cx.ty}(hst:stA P st t a x=some st'){c:Ct cx.ty}{act:Act}(h:RS cx c st act) :
  ∃ w' T',(execOp act.eval o).run P c.w=.ok .skip w'/\RS cx { c with T:=T',w:=w' } st' act/\Kept c.N c.w w':=by
 unfold stA at hst;split at hst
 ·rename_i s1 e1;simp only[aB]at hst;subst hst;exact aMu ho e1 h
 ·exact aMs ok ho hst h
end
section
variable {cx : Cx} {P : Program}
def qN (rs:List Value):Value:=if h:rs.length=1 then rs[0]else .tuple rs.toArray
def SatW (P:Program)(cx:Cx)(f:FuncId)(nres n:Nat)(F:List (A cx.ty)->Option (Bool×List (A cx.ty))):Prop:=
 ∀ (w:World) (l:List (A cx.ty)) (us:List Value) (fps:List (List Nat)) (cs:List (A cx.ty)),ResAs cx w (λ_=>False) l us fps->(List.flatten fps).Nodup->(∀ b∈List.flatten fps,b < w.heap.size)->F l=some (true,cs)->
  Calls P f us.toArray w (λe w'=>∃ rs:List Value,e=.returned (qN rs)/\rs.length=nres/\Kept (λb=>w.heap.size<=b\/b∈List.flatten fps) w w' ∧
   ResV cx w' (λ_=>False) (λb=>w.heap.size<=b\/b∈List.flatten fps) (.inr (.inl cs)) (.tuple (rs++us.take n).toArray))
def Gives (c:Ct cx.ty)(ns:List Nat)(fp:List Nat):Prop:=∃ tks:List (Tk cx.ty),tks.map (·.nm)=ns/\(∀ tk∈tks,tk∈c.T/\tk.fp=[]/\∃ s,tk.c=.inl s)/\fp=tks.flatMap cS
theorem Gives.nil (c:Ct cx.ty):Gives c [] []:=⟨[],rfl,by simp,rfl⟩
theorem Gives.app {c:Ct cx.ty}{a b f g:List Nat}(h1:Gives c a f)(h2:Gives c b g):Gives c (a++b) (f++g):=by
 obtain⟨t1,p1,q1,r1⟩:=h1;obtain⟨t2,p2,q2,r2⟩:=h2;exact⟨t1++t2,by simp[p1,p2],λtk ht=>(aA.1 ht).elim (q1 tk) (q2 tk),by rw[bE,r1,r2]⟩
theorem jN {T:List (Tk cx.ty)}(h:(T.flatMap cS).Nodup)(_hn:(T.map (·.nm)).Nodup):∀ tks:List (Tk cx.ty),(tks.map (·.nm)).Nodup->(∀ tk∈tks,tk∈T)->(tks.flatMap cS).Nodup:=by
 have hdis:∀ t1∈T,∀ t2∈T,t1.nm≠t2.nm->∀ b∈cS t1,b∉cS t2:=by
  intro t1 h1 t2 h2 hne b hb1 hb2;obtain⟨l1,l2,hl⟩:=cO h1;rw[hl]at h h2;simp only[bE,aR]at h;rcases aA.1 h2 with h3 | h3
  ·exact(aH.1 h).2.2 b (bB.2 ⟨t2,h3,hb2⟩) b (aA.2 (.inl hb1)) rfl
  ·rcases bS.1 h3 with h3 | h3
   ·exact hne (by rw[h3])
   ·exact(aH.1 (aH.1 h).2.1).2.2 b hb1 b (bB.2 ⟨t2,h3,hb2⟩) rfl
 intro tks
 induction tks with
 | nil=>simp
 | cons a r ih=>
  intro hn2 hm;rw[cU,dM]at hn2;rw[aR,aH];refine⟨?_,ih hn2.2 (λtk ht=>hm tk (bG _ ht)),λx hx y hy he=>?_⟩
  ·obtain⟨l1,l2,hl⟩:=cO (hm a (bR ..));rw[hl]at h;simp only[bE,aR]at h;exact(aH.1 (aH.1 h).2.1).1
  ·subst he;obtain⟨t2,k1,k2⟩:=bB.1 hy;exact hdis a (hm a (bR ..)) t2 (hm t2 (bG _ k1)) (λe=>hn2.1 (aM.2 ⟨t2,k1,e.symm⟩)) x hx k2
def qG {ty:Nat->Type}(ps:List (Nat×SlD ty))(l:L ty):L ty:=
 match l with
 | some (.inr s)=>if s.own == 1 then(match ps.find? (λp=>p.1 == s.nm)with
   | some p=>some (.inr p.2)
   | none=>some (.inr s))else some (.inr s)
 | l=>l
def aHY {ty:Nat->Type}(ps:List (Nat×SlD ty)):A ty->A ty
 | .inl l=>.inl (qG ps l)
 | .inr l=>.inr (l.map (qG ps))
def sN {ty:Nat->Type}(ps:List (Nat×SlD ty)):V ty->V ty
 | .inl a=>.inl (aHY ps a)
 | .inr (.inl l)=>.inr (.inl (l.map (aHY ps)))
 | .inr (.inr p)=>match p.kind with
  | 0=>.inr (.inr { p with cells:=p.cells.map (qG ps) })
  | _=>.inr (.inr p)
structure Ren (cx:Cx) (c c':Ct cx.ty) (gs:List Nat) (ps:List (Nat×SlD cx.ty)):Prop where
 rd:∀ b,Rd c b->Rd c' b/\c'.w.heap[b]?=c.w.heap[b]?
 dead:∀ n,n∈c'.D↔n∈gs\/n∈c.D
 frz:∀ n,n∈c'.F↔n∈c.F
 tok:∀ tk∈c.T,tk.nm∉gs->∀ s,tk.c=.inl s->tk∈c'.T
 box:∀ tk∈c.T,∀ l,tk.c=.inr l->∃ tk'∈c'.T,tk'.nm=tk.nm/\tk'.u=tk.u/\tk'.c=.inr (l.map (qG ps))
 ok:∀ p∈ps,∀ tk∈c.T,tk.nm=p.1->p.2.own=1/\p.2.nm∉c'.D/\p.2.nm∉c'.F/\∃ tk'∈c'.T,tk'.nm=p.2.nm/\tk'.c=.inl p.2/\tk'.u=tk.u
 live:∀ p∈ps,p.1∉c.D/\p.1∉c.F
theorem zT {c c':Ct cx.ty}{gs:List Nat}{ps:List (Nat×SlD cx.ty)}(hr:Ren cx c c' gs ps){l:L cx.ty}{u:Value}(h:RepLS cx c l u):RepLS cx c' (qG ps l) u:=by
 have up:∀ {n:Nat} {l:L cx.ty} {u:Value},RepL cx c.w (Rd c) n l u->RepL cx c'.w (Rd c') n l u:=λhx=>RepL_mono cx (λb hb=>(hr.rd b hb).2) (λb hb=>(hr.rd b hb).1) _ _ _ hx
 have old:∀ {l:L cx.ty},RepLS cx c l u->RepLS cx c' l u:=by
  intro l h
  match l,h with
  | none,_=>trivial
  | some (.inl v),h=>exact h
  | some (.inr s),h=>
   unfold RepLS at h ⊢;by_cases h1:s.own=1
   ·simp only[h1,if_true]at h ⊢;obtain⟨hsl,h⟩:=h;refine⟨hsl,?_⟩;by_cases h2:s.nm∈c'.D
    ·rw[if_pos h2];trivial
    ·rw[if_neg h2];have h2':s.nm∉gs/\s.nm∉c.D:=⟨λhx=>h2 ((hr.dead _).2 (.inl hx)),λhx=>h2 ((hr.dead _).2 (.inr hx))⟩
     simp only[h2'.2,if_false]at h;by_cases h3:s.nm∈c.F
     ·rw[if_pos ((hr.frz _).2 h3)];simp only[h3,if_true]at h;obtain⟨n,h⟩:=h;exact⟨n,up h⟩
     ·rw[if_neg (λhx=>h3 ((hr.frz _).1 hx))];simp only[h3,if_false]at h;obtain⟨tk,k1,k2,k3,k4⟩:=h;exact⟨tk,hr.tok tk k1 (by rw[k2];exact h2'.1) s k3,k2,k3,k4⟩
   ·simp only[h1,if_false]at h ⊢;obtain⟨n,h⟩:=h;exact⟨n,up h⟩
 unfold qG;split
 ·rename_i s;split
  ·rename_i h1;have h1:s.own=1:=by simpa using h1
   split
   ·rename_i p hp';have hm:=fJ hp';have he:p.1=s.nm:=by simpa using lI hp'
    have hl:=hr.live p hm;rw[he]at hl;unfold RepLS at h;simp only[h1,if_true,hl.1,hl.2,if_false]at h;obtain⟨hsl,tk,k1,k2,k3,k4⟩:=h;obtain⟨q1,q2,q3,tk',q4,q5,q6,q7⟩:=hr.ok p hm tk k1 (by rw[k2,he]);unfold RepLS;simp only[q1,if_true,q2,q3,if_false];exact⟨hsl,tk',q4,q5,q6,q7.trans k4⟩
   ·exact old h
  ·exact old h
 ·exact old h
theorem aDI {c c':Ct cx.ty}{gs:List Nat}{ps:List (Nat×SlD cx.ty)}(hr:Ren cx c c' gs ps){a:A cx.ty}{u:Value}(h:RepA cx c a u):RepA cx c' (aHY ps a) u:=by
 match a,h with
 | .inl l,h=>exact zT hr h
 | .inr l,⟨us,hu,h⟩=>exact⟨us,hu,h.mapE λl u h=>zT hr h⟩
theorem aHX {c c':Ct cx.ty}{gs:List Nat}{ps:List (Nat×SlD cx.ty)}(hr:Ren cx c c' gs ps){v:V cx.ty}{u:Value}(h:RepV cx c v u):RepV cx c' (sN ps v) u:=by
 have hel:∀ {s:SlD cx.ty} {i b o:Nat},RepEl cx c s i b o->RepEl cx c' s i b o:=by
  rintro s i b o ⟨hb,y,hy,n,hx⟩;refine⟨(hr.rd b hb).1,y,hy,n,λj q hq=>?_⟩;obtain⟨v,hv,hx⟩:=hx j q hq;exact⟨v,by rw[World.cell?_of_block (hr.rd b hb).2];exact hv,RepL_mono cx (λb hb=>(hr.rd b hb).2) (λb hb=>(hr.rd b hb).1) _ _ _ hx⟩
 match v,h with
 | .inl a,h=>exact aDI hr h
 | .inr (.inl l),⟨us,hu,h⟩=>
  refine⟨us,hu,by rw[dK];exact h.1,λj a u e1 e2=>?_⟩;rw[aX]at e1;cases e0:l[j]? with
  | none=>rw[e0]at e1;simp at e1
  | some a0=>
   rw[e0]at e1;simp only[aD,aB]at e1;subst e1;exact aDI hr (h.2 j a0 u e0 e2)
 | .inr (.inr q),h=>
  have hq:RepP cx c q u:=h;unfold RepP at hq;simp only[sN];split at hq
  ·rename_i hk0;obtain⟨t2,k1,k2,k3,g2,k4,k5⟩:=hq;obtain⟨t3,m1,m2,m3,m4⟩:=hr.box t2 k1 _ k3;simp only[hk0];show RepP cx c' { q with kind:=0,cells:=q.cells.map (qG ps) } u;unfold RepP;simp only;exact⟨t3,m1,m2.trans k2,m4,g2,by rw[m3];exact k4,k5⟩
  ·rename_i hk1;simp only[hk1];show RepP cx c' q u;unfold RepP;simp only[hk1];by_cases h2:q.nm∈c'.D
   ·rw[if_pos h2];trivial
   ·rw[if_neg h2];have h2':q.nm∉gs/\q.nm∉c.D:=⟨λhx=>h2 ((hr.dead _).2 (.inl hx)),λhx=>h2 ((hr.dead _).2 (.inr hx))⟩
    simp only[h2'.2,if_false]at hq;by_cases h3:q.nm∈c.F
    ·rw[if_pos ((hr.frz _).2 h3)];simp only[h3,if_true]at hq;obtain⟨b,o,hu,hx⟩:=hq;exact⟨b,o,hu,hel hx⟩
    ·rw[if_neg (λhx=>h3 ((hr.frz _).1 hx))];simp only[h3,if_false]at hq;obtain⟨t2,k1,k2,k3,k4⟩:=hq;exact⟨t2,hr.tok t2 k1 (by rw[k2];exact h2'.1) _ k3,k2,k3,k4⟩
  ·rename_i hk2;simp only[hk2];show RepP cx c' q u;unfold RepP;simp only[hk2];obtain⟨b,o,hu,hx⟩:=hq;exact⟨b,o,hu,hel hx⟩
  ·rename_i k0 k1 k2;have:(match q.kind with
    | 0=>(.inr (.inr { q with cells:=q.cells.map (qG ps) }):V cx.ty)
    | _=>.inr (.inr q))=.inr (.inr q):=by
    split
    ·rename_i hh;exact(k0 hh).elim
    ·rfl
   rw[this];show RepP cx c' q u;unfold RepP;split<;>first | trivial | (rename_i hh;first | exact(k0 hh).elim | exact(k1 hh).elim | exact(k2 hh).elim)
theorem TokRep.ren {c c':Ct cx.ty}{gs:List Nat}{ps:List (Nat×SlD cx.ty)}(hr:Ren cx c c' gs ps){tk tk':Tk cx.ty}(hu:tk'.u=tk.u)(hfp:tk'.fp=tk.fp)(hc:tk'.c=match tk.c with | .inl s=>.inl s | .inr l=>.inr (l.map (qG ps)))
  (hb:∀ b∈vb tk.u++tk.fp,c'.w.heap[b]?=c.w.heap[b]?) (h:TokRep cx c tk):TokRep cx c' tk':=by
 unfold TokRep at h;split at h
 ·rename_i s hs;rw[hs]at hc;simp only at hc;unfold TokRep;rw[hc];simp only;rw[hu,hfp];obtain⟨hv,h⟩:=h;refine⟨hv,?_⟩;split at h
  ·rename_i ho;rw[if_pos ho];obtain⟨n,h⟩:=h;exact⟨n,OwnL_mono cx n _ _ _ hb h⟩
  ·rename_i ho;rw[if_neg ho];obtain⟨hf,us,n,hrow,hl2,hx⟩:=h;refine⟨hf,us,n,?_,hl2,λj l v h1 h2=>RepL_mono cx (λb hb=>(hr.rd b hb).2) (λb hb=>(hr.rd b hb).1) n l v (hx j l v h1 h2)⟩;obtain⟨hx,hcx⟩:=hrow;refine⟨hx,?_⟩;rcases hcx with hcx | ⟨g2,cap2,cur2,hv',hg2,hh2,hrest⟩
   ·exact .inl hcx
   ·refine .inr ⟨g2,cap2,cur2,hv',hg2,?_,hrest⟩;rw[hb g2 (by rw[hv'];simp[vb])];exact hh2
 ·rename_i cells hs;rw[hs]at hc;simp only at hc;obtain⟨hf,g2,cur2,e2,hu2,hh2,hx⟩:=h;unfold TokRep;rw[hc];simp only;rw[hu,hfp];refine⟨hf,g2,cur2,e2,hu2,?_,hx.mapE λl u h=>zT hr h⟩;rw[hb g2 (by rw[hu2];simp[vb])];exact hh2
structure GoodW (cx:Cx) (c:Ct cx.ty) (ef:Eff cx.ty) (ps:List (Nat×SlD cx.ty)) (nm0:Nat) (u:Value) (w':World) (T':List (Tk cx.ty)):Prop where
 wf:Wf cx (c.nx ef w' T')
 ren:Ren cx c (c.nx ef w' T') ef.dead ps
 rep:RepV cx (c.nx ef w' T') ef.v u
 below:Kept c.N c.w w'
 names:∀ n,Nm (c.nx ef w' T') n->Nm c n\/(nm0<=n/\n < nm0+64)
def aFL {ty:Nat->Type}:L ty->L ty->Option (List (Nat×SlD ty))
 | some (.inr s),some (.inr s')=>if s.own == 1&&s'.own == 1 then some [(s.nm,s')]else none
 | some (.inl _),_=>some []
 | _,_=>none
def tO {ty:Nat->Type}:List (L ty)->List (L ty)->Option (List (Nat×SlD ty))
 | a::r,b::q=>match aFL a b,tO r q with
  | some x,some y=>some (x++y)
  | _,_=>none
 | [],[]=>some []
 | _,_=>none
def aFM {ty:Nat->Type}:A ty->A ty->Option (List (Nat×SlD ty))
 | .inl a,.inl b=>aFL a b
 | .inr a,.inr b=>tO a b
 | _,_=>none
def qL {ty:Nat->Type}:List (V ty)->List (A ty)->Option (List (Nat×SlD ty))
 | .inl a::r,b::q=>match aFM a b,qL r q with
  | some x,some y=>some (x++y)
  | _,_=>none
 | _,[]=>some []
 | _,_=>none
def PairOK (cx:Cx)(c c':Ct cx.ty)(ps:List (Nat×SlD cx.ty)):Prop:=
 ∀ p∈ps,∃ u s,s.own=1/\s.nm=p.1/\RepLS cx c (some (.inr s)) u/\p.2.own=1/\RepLS cx c' (some (.inr p.2)) u
theorem PairOK.app {c c':Ct cx.ty}{a b:List (Nat×SlD cx.ty)}(h1:PairOK cx c c' a)(h2:PairOK cx c c' b):PairOK cx c c' (a++b):=
 λp hp=>(aA.1 hp).elim (h1 p) (h2 p)
theorem aDM {c c':Ct cx.ty}{a b:L cx.ty}{u:Value}{ps:List (Nat×SlD cx.ty)}(h1:RepLS cx c a u)(h2:RepLS cx c' b u)(h:aFL a b=some ps):PairOK cx c c' ps:=by
 unfold aFL at h;split at h
 ·rename_i s s';split at h
  ·rename_i hc;simp only[aJ,beq_iff_eq]at hc;simp only[aB]at h;subst h;intro p hp;simp only[aO]at hp;subst hp;exact⟨u,s,hc.1,rfl,h1,hc.2,h2⟩
  ·simp at h
 ·simp only[aB]at h;subst h;intro p hp;simp at hp
 ·simp at h
theorem aBN {c c':Ct cx.ty}:∀ (a b:List (L cx.ty)) (us:List Value) (ps:List (Nat×SlD cx.ty)),RepLs cx c a us->RepLs cx c' b us->tO a b=some ps->PairOK cx c c' ps
 | [],[],us,ps,_,_,h=>by
  simp only[tO,aB]at h;subst h;intro p hp;simp at hp
 | a::r,b::q,us,ps,h1,h2,h=>by
  simp only[tO]at h;split at h
  ·rename_i x y e1 e2;simp only[aB]at h;subst h
   match us,h1,h2 with
   | [],h1,_=>simp[RepLs]at h1
   | u::us,h1,h2=>
    exact(aDM (h1.2 0 a u rfl rfl) (h2.2 0 b u rfl rfl) e1).app (aBN r q us y ⟨by simpa using h1.1,λj a u e1 e2=>h1.2 (j+1) a u (by simpa using e1) (by simpa using e2)⟩ ⟨by simpa using h2.1,λj a u e1 e2=>h2.2 (j+1) a u (by simpa using e1) (by simpa using e2)⟩ e2)
  ·simp at h
 | [],_::_,_,_,_,_,h=>by simp[tO]at h
 | _::_,[],_,_,_,_,h=>by simp[tO]at h
theorem aH2 {c c':Ct cx.ty}{a b:A cx.ty}{u:Value}{ps:List (Nat×SlD cx.ty)}(h1:RepA cx c a u)(h2:RepA cx c' b u)(h:aFM a b=some ps):PairOK cx c c' ps:=by
 match a,b,h1,h2,h with
 | .inl a,.inl b,h1,h2,h=>exact aDM h1 h2 h
 | .inr a,.inr b,⟨us,hu,h1⟩,⟨us2,hu2,h2⟩,h=>
  have:us=us2:=by
   rw[hu]at hu2;simp only[Value.agg.injEq]at hu2;have:=congrArg Array.toList hu2;simpa using this
  subst this;exact aBN a b us ps h1 h2 h
 | .inl _,.inr _,_,_,h=>simp[aFM]at h
 | .inr _,.inl _,_,_,h=>simp[aFM]at h
theorem aBM {c c':Ct cx.ty}:∀ (a:List (V cx.ty)) (b:List (A cx.ty)) (us us':List Value) (ps:List (Nat×SlD cx.ty)),(∀ (j:Nat) v u,a[j]?=some v->us[j]?=some u->RepV cx c v u)->us.length=a.length->RepAs cx c' b us'->us'=us.take b.length->qL a b=some ps->PairOK cx c c' ps
 | [],[],us,us',ps,_,_,_,_,h=>by
  simp only[qL,aB]at h;subst h;intro p hp;simp at hp
 | v::r,[],us,us',ps,_,_,_,_,h=>by
  have:ps=[]:=by
   unfold qL at h;split at h<;>simp_all
  subst this;intro p hp;simp at hp
 | v::r,b::q,us,us',ps,h1,hl,h2,he,h=>by
  match us,hl with
  | [],hl=>simp at hl
  | u::us,hl=>
   subst he
   match v,h with
   | .inl a,h=>
    simp only[qL]at h;split at h
    ·rename_i x y e1 e2;simp only[aB]at h;subst h;have k1:RepA cx c a u:=h1 0 _ u rfl rfl;have k2:RepA cx c' b u:=h2.2 0 b u rfl (by simp);refine(aH2 k1 k2 e1).app (aBM r q us (us.take q.length) y (λj a u e1 e2=>h1 (j+1) a u (by simpa using e1) (by simpa using e2)) (by simpa using hl) ⟨?_,λj a u e1 e2=>h2.2 (j+1) a u (by simpa using e1) (by simpa using e2)⟩ rfl e2);have:=h2.1;simpa using this
    ·simp at h
   | .inr _,h=>simp[qL]at h
 | [],_::_,_,_,_,_,_,_,_,h=>by simp[qL]at h
def qM {ty:Nat->Type}(l:List (A ty)):V ty:=
 match l with
 | [a]=>.inl a
 | l=>.inr (.inl l)
structure WFn (cx:Cx) where
 nres:Nat
 n:Nat
 F:List (A cx.ty)->Option (Bool×List (A cx.ty))
 p:Nat:=0
 bx:Option (Nat×TypeId):=none
def qS:List Nat->Bool
 | []=>true
 | a::r=>!r.contains a&&qS r
theorem kL:∀ l:List Nat,qS l=true->l.Nodup
 | [],_=>List.nodup_nil
 | a::r,h=>by
  simp only[qS,aJ]at h;exact dM.2 ⟨by simpa using h.1,kL r h.2⟩
def aCT {β:Type}(P:Program)(f:FuncId)(W:WFn cx)(slots:List (V cx.ty))(args:List Operand)(ts:List TypeId)(nm0:Nat)(k:Eff cx.ty->List (Nat×SlD cx.ty)->Option β):Option β:=none
theorem iM {ty:Nat->Type}:∀ (l:List (A ty)) (nm:Nat),(fU nm l).length=l.length
 | [],_=>rfl
 | a::r,nm=>by simp[fU,iM r]
theorem tM {c:Ct cx.ty}{l:List (A cx.ty)}{us:List Value}(h:RepAs cx c l us)(n:Nat):RepAs cx c (l.take n) (us.take n):=
 ⟨by simp[h.1],λj a u e1 e2=>by
  rw[bK]at e1 e2;split at e1
  ·rename_i hj;rw[if_pos hj]at e2;exact h.2 j a u e1 e2
  ·simp at e1⟩
theorem zS {c:Ct cx.ty}{l:List (A cx.ty)}{us:List Value}(h:RepAs cx c l us)(n:Nat):RepAs cx c (l.drop n) (us.drop n):=
 ⟨by simp[h.1],λj a u e1 e2=>by
  rw[cL]at e1 e2;exact h.2 _ a u e1 e2⟩
theorem rX {c:Ct cx.ty}{l:List (A cx.ty)}{us:List Value}(h:RepAs cx c l us):RepV cx c (qM l) (qN us):=by
 unfold qM qN;split
 ·rename_i a;have hl:us.length=1:=h.1;rw[dif_pos hl];exact h.2 0 a _ rfl (aC (by omega))
 ·rename_i hne;rw[dif_neg (λhl=>?_)]
  ·exact⟨us,rfl,h⟩
  ·rw[h.1]at hl
   match l,hl,hne with
   | [a],_,hne=>exact hne a rfl
theorem iF {c:Ct cx.ty}(h:Wf cx c){a b:Tk cx.ty}(ha:a∈c.T)(hb:b∈c.T)(hn:a.nm=b.nm):a=b:=by
 rcases Classical.em (a=b)with h1 | h1
 ·exact h1
 ·exfalso;have hnd:=h.names;obtain⟨l1,l2,hl⟩:=cO hb;rw[hl]at hnd ha;rw[dN,cU,aH]at hnd;rcases aA.1 ha with h3 | h3
  ·exact hnd.2.2 a.nm (aM.2 ⟨a,h3,rfl⟩) b.nm (bR ..) hn
  ·rcases bS.1 h3 with h3 | h3
   ·exact h1 h3
   ·exact(dM.1 hnd.2.1).1 (aM.2 ⟨a,h3,hn⟩)
theorem aE6 (ok:cx.Ok){β:Type}{o:Oper}{slots:List (V cx.ty)}{nm0:Nat}{f:FuncId}{args:Array Operand}{ts:Array TypeId}{W:WFn cx}(hK:SatW P cx f W.nres W.n W.F)
  (ho:o.op=.call { callee:=.value (.func f),args:=args,argTypes:=ts }) {k:Eff cx.ty->List (Nat×SlD cx.ty)->Option β} {r:β}
  (h:aCT P f W slots args.toList ts.toList nm0 k=some r):∃ ef ps,k ef ps=some r ∧
   ∀ (c:Ct cx.ty) (ρ:Operand->Value),Wf cx c->(∀ x∈o.op.operands,RepV cx c (dU slots x) (ρ x))->(∀ n∈ef.live,n∉c.D/\n∉c.F)->
    (∀ n,Nm c n->¬ (nm0<=n/\n < nm0+64))->Runs P o ρ c.w (λu w'=>∃ T',GoodW cx c ef ps nm0 u w' T'):=by
 unfold aCT at h;cases h
def St.appW {ty:Nat->Type}(st:St ty)(d:Option Tmp)(ef:Eff ty)(ps:List (Nat×SlD ty)):St ty:=
 {slots:=jD (st.slots.map (sN ps)) d ef.v,D:=ef.dead++st.D,F:=ef.frz++st.F,ctr:=st.ctr+1,lo:=st.lo,ps:=st.ps }
theorem RS.appW {c:Ct cx.ty}{st:St cx.ty}{a:Act}(h:RS cx c st a){d:Option Tmp}(hd:iX d=true)(hlo:xP st.lo d=true){ef:Eff cx.ty}{u:Value}{w':World}{T':List (Tk cx.ty)}{ps:List (Nat×SlD cx.ty)}(hg:GoodW cx c ef ps (fN st.ctr d) u w' T'):RS cx (c.nx ef w' T') (st.appW d ef ps) (a.put d u):=by
 have hs:a.tmps.size=(st.slots.map (sN ps)).length:=by rw[dK];exact h.size
 refine⟨hg.wf,lW hs d ef.v u,?_,by rw[iL];exact h.defers,λn=>?_,λn=>?_,λn hn=>?_,λp u' hp=>⟨(h.kp p u' hp).1,(pE hlo u (h.kp p u' hp).1).trans (h.kp p u' hp).2⟩,h.pr.keep rfl rfl (λb hb=>(hg.ren.rd b (h.wf.rdS hb)).2),PdOK.none⟩
 ·refine nI hs (λt=>?_) d hg.rep;have:(st.slots.map (sN ps)).getD t aN=sN ps (st.slots.getD t aN):=by
   by_cases hlt:t < st.slots.length
   ·simp[List.getD,hlt]
   ·simp[List.getD,bQ (fC hlt),aN,sN,aHY,qG]
  rw[this];exact aHX hg.ren (h.rep t)
 ·simp[Ct.nx,St.appW,h.dead n]
 ·simp[Ct.nx,St.appW,h.frz n]
 ·rcases hg.names n hn with hn | hn
  ·exact cN (h.names n hn) (aQ _ (nA _))
  ·exact zB hd hn
abbrev Kwt (cx:Cx):=FuncId->Option (WFn cx)
def rT (Kw:Kwt cx)(o:Oper):Option (FuncId×WFn cx×Call):=
 if o.guard.isNone then
  match o.op with
  | .call cl=>match cl.callee with
   | .value (.func f)=>match Kw f with
    | some W=>some (f,W,cl)
    | none=>none
   | _=>none
  | _=>none
 else none
theorem zG {Kw:Kwt cx}{o:Oper}{f:FuncId}{W:WFn cx}{cl:Call}(h:rT Kw o=some (f,W,cl)):o.guard=none/\Kw f=some W/\o.op=.call { callee:=.value (.func f),args:=cl.args,argTypes:=cl.argTypes }:=by
 unfold rT at h;split at h
 ·rename_i hg;split at h
  ·rename_i cl' ho;split at h
   ·rename_i f' hcal;split at h
    ·rename_i W' hk;simp only[aB,aY]at h;obtain⟨rfl,rfl,rfl⟩:=h;obtain⟨cal,args,ts⟩:=cl';simp only at hcal;subst hcal;exact⟨by simpa using hg,hk,ho⟩
    ·simp at h
   ·simp at h
  ·simp at h
 ·simp at h
def aCd (Kw:Kwt cx)(o:Oper):Option (Nat×Bool×FuncId×WFn cx×Call):=
 match o.guard with
 | some (g,want)=>match rT Kw { o with guard:=none }with
  | some (f,W,cl)=>if W.p=1 then some (g,want,f,W,cl)else none
  | none=>none
 | none=>none
theorem aGp {Kw:Kwt cx}{o:Oper}{g:Nat}{want:Bool}{f:FuncId}{W:WFn cx}{cl:Call}(h:aCd Kw o=some (g,want,f,W,cl)):o.guard=some (g,want)/\Kw f=some W/\o.op=.call { callee:=.value (.func f),args:=cl.args,argTypes:=cl.argTypes }/\W.p=1:=by
 unfold aCd at h;split at h
 ·rename_i g' w' hg;split at h
  ·rename_i f' W' cl' hw;split at h
   ·rename_i hp;simp only[aB,aY]at h;obtain⟨rfl,rfl,rfl,rfl,rfl⟩:=h;obtain⟨_,h2,h3⟩:=zG hw;exact⟨hg,h2,h3,hp⟩
   ·simp at h
  ·simp at h
 ·simp at h
end
end Go.VM
