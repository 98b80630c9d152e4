/- A part of the proof of FnExactApplyCmd: VmA9, VmA10, VmA11, VmA12, VmA13, VmA14, VmA15, VmA16. -/
import Derived.Test.YtfncedbejffggaaGreatVmA4
set_option linter.unusedSimpArgs false
set_option linter.unusedVariables false
namespace Go.VM
open Go.RowKit
section
variable {cx : Cx} {P : Program}
theorem Pres.trans {a b c:Ct cx.ty}(h:Pres cx a b)(k:Pres cx b c):Pres cx a c:=by
 refine⟨λx hx=>⟨(k.rd x (h.rd x hx).1).1,(k.rd x (h.rd x hx).1).2.trans (h.rd x hx).2⟩,λn hn=>k.dead n (h.dead n hn),λn hn=>k.frz n (h.frz n hn),λtk ht hD hF=>?_,λtk ht l hl=>k.box tk (h.box tk ht l hl) l hl,λtk ht s hs hD hF=>?_⟩
 ·exact k.tok tk (h.tok tk ht (λhx=>hD (k.dead _ hx)) (λhx=>hF (k.frz _ hx))) hD hF
 ·by_cases hb:tk.nm∈b.F
  ·obtain⟨n,hn⟩:=h.froze tk ht s hs (λhx=>hD (k.dead _ hx)) hb;exact⟨n,RepL.pres cx k hn⟩
  ·exact k.froze tk (h.tok tk ht (λhx=>hD (k.dead _ hx)) hb) s hs hD hF
theorem RepL_up {w:World}{S:Nat->Prop}(d:Nat):∀ {n:Nat} {l:L cx.ty} {u:Value},RepL cx w S n l u->RepL cx w S (n+d) l u:=by
 induction d with
 | zero=>intro n l u h;exact h
 | succ d ih=>intro n l u h;exact RepL_succ cx _ _ _ (ih h)
theorem aFD {w:World}{S:Nat->Prop}:∀ (l:List (L cx.ty)) (us:List Value),(∀ (j:Nat) a u,l[j]?=some a->us[j]?=some u->∃ n,RepL cx w S n a u)->∃ n,∀ (j:Nat) a u,l[j]?=some a->us[j]?=some u->RepL cx w S n a u
 | [],_,_=>⟨0,λj a u h=>by simp at h⟩
 | _::_,[],_=>⟨0,λj a u _ h=>by simp at h⟩
 | a::r,u::us,h=>by
  obtain⟨n,hn⟩:=h 0 a u rfl rfl;obtain⟨m,hm⟩:=aFD r us (λj b v e1 e2=>h (j+1) b v (by simpa using e1) (by simpa using e2));refine⟨n+m,λj b v e1 e2=>?_⟩;cases j with
  | zero=>
   simp only[aP,aB]at e1 e2;subst e1;subst e2;exact RepL_up m hn
  | succ j=>
   rw[fX];exact RepL_up n (hm j b v (by simpa using e1) (by simpa using e2))
def aVA (P:Program)(e len:Nat):List (Option Nat):=List.flatten (List.replicate len ((kM P 8 e).map (eU P)))
def rH {β:Type}(P:Program)(cx:Cx)(slots:List (V cx.ty))(t:TypeId)(len:Nat)(parts:List (Nat×Operand))(nm0:Nat)(k:Eff cx.ty->Option β):Option β:=none
theorem aAR (ok:cx.Ok){β:Type}{o:Oper}{slots:List (V cx.ty)}{nm0:Nat}{t:TypeId}{len:Nat}{parts:Array (Nat×Operand)}(ho:o.op=.buildSlice t len parts){k:Eff cx.ty->Option β}{r:β}
  (h:rH P cx slots t len parts.toList nm0 k=some r):∃ ef,k ef=some r/\EffOK P cx o slots nm0 ef:=by
 unfold rH at h;cases h
end
section
variable {cx : Cx} {P : Program}
def aII {β:Type}(P:Program)(cx:Cx)(o:Oper)(slots:List (V cx.ty))(src dst:TypeId)(x:Operand)(k:Eff cx.ty->Option β):Option β:=pY P o slots k
theorem aG8 (ok:cx.Ok)(hZ:cx.POk P){β:Type}{o:Oper}{slots:List (V cx.ty)}{nm0:Nat}{src dst:TypeId}{x:Operand}(ho:o.op=.convert src dst x){k:Eff cx.ty->Option β}{r:β}
  (h:aII P cx o slots src dst x k=some r):∃ ef,k ef=some r/\EffOK P cx o slots nm0 ef:=kC h
end
section
variable {cx : Cx} {P : Program}
theorem OwnL_succ {w:World}:∀ (n:Nat) (l:L cx.ty) (u:Value) (fp:List Nat),OwnL cx w n l u fp->OwnL cx w (n+1) l u fp
 | _,none,_,_,h=>by simp[OwnL]at h
 | n,some (.inl v),u,fp,h=>by
  cases n<;>simpa[OwnL]using h
 | 0,some (.inr _),_,_,h=>by simp[OwnL]at h
 | n+1,some (.inr s),u,fp,h=>by
  obtain⟨us,fpl,h1,h2,h3,h4,h5⟩:=h;exact⟨us,fpl,h1,h2,h3,h4,λj l c f a b d=>OwnL_succ n l c f (h5 j l c f a b d)⟩
theorem OwnL_up {w:World}(d:Nat):∀ {n:Nat} {l:L cx.ty} {u:Value} {fp:List Nat},OwnL cx w n l u fp->OwnL cx w (n+d) l u fp:=by
 induction d with
 | zero=>intro n l u fp h;exact h
 | succ d ih=>intro n l u fp h;exact OwnL_succ _ _ _ _ (ih h)
def aIo {ty:Nat->Type}(mk:Option Nat)(l:L ty):Option (L ty×List Nat):=
 match l with
 | some (.inl v)=>match v,mk with
  | .slice none 0 0,some e=>some (ls { own:=2,nm:=0,e:=e,o:=true,xs:=[] },[])
  | v,_=>some (lv v,[])
 | some (.inr s)=>if s.own == 1&&s.o then some (ls { own:=2,nm:=0,e:=s.e,o:=true,xs:=s.xs },[s.nm])else none
 | none=>none
def aAB {ty:Nat->Type}:List (Option Nat)->List (L ty)->Option (List (L ty)×List Nat)
 | _,[]=>some ([],[])
 | mks,l::r=>match aIo (mks.headD none) l,aAB mks.tail r with
  | some (a,n),some (as,ns)=>some (a::as,n++ns)
  | _,_=>none
def GivesO (c:Ct cx.ty)(ns:List Nat)(fp:List Nat):Prop:=∃ tks:List (Tk cx.ty),tks.map (·.nm)=ns/\(∀ tk∈tks,tk∈c.T/\∃ s,tk.c=.inl s)/\fp=tks.flatMap cS
theorem GivesO.nil (c:Ct cx.ty):GivesO c [] []:=⟨[],rfl,by simp,rfl⟩
theorem GivesO.app {c:Ct cx.ty}{a b f g:List Nat}(h1:GivesO c a f)(h2:GivesO c b g):GivesO c (a++b) (f++g):=by
 obtain⟨t1,p1,q1,r1⟩:=h1;obtain⟨t2,p2,q2,r2⟩:=h2;exact⟨t1++t2,by simp[p1,p2],λtk ht=>(aA.1 ht).elim (q1 tk) (q2 tk),by rw[bE,r1,r2]⟩
theorem aGR {c:Ct cx.ty}(hw:Wf cx c){mk:Option Nat}{l l':L cx.ty}{n:List Nat}(ha:aIo mk l=some (l',n)){u:Value}(h:RepLS cx c l u)(hd:∀ k∈n,k∉c.D/\k∉c.F) :
  weak true l'=l'/\∃ m fp,OwnL cx c.w m l' u fp/\GivesO c n fp:=by
 unfold aIo at ha;split at ha
 ·rename_i v;have h:u=v:=h;subst h;split at ha
  ·simp only[aB,aY]at ha;obtain⟨rfl,rfl⟩:=ha;exact⟨rfl,1,[],⟨[],[],World.ownsRow_nil _ _ _ _,rfl,rfl,rfl,λj l c f h=>by simp at h⟩,GivesO.nil c⟩
  ·simp only[aB,aY]at ha;obtain⟨rfl,rfl⟩:=ha;exact⟨rfl,0,[],⟨rfl,rfl⟩,GivesO.nil c⟩
 ·rename_i s;split at ha
  ·rename_i hc;simp only[aJ,beq_iff_eq]at hc;simp only[aB,aY]at ha;obtain⟨rfl,rfl⟩:=ha;have h2:=hd s.nm (by simp);unfold RepLS at h;simp only[hc.1,if_true,h2.1,h2.2,if_false]at h;obtain⟨_,tk,ht,hn,hcc,hu⟩:=h;have htr:=hw.rep tk ht;unfold TokRep at htr;rw[hcc]at htr;simp only[hc.2,if_true]at htr;obtain⟨hv,m,htr⟩:=htr;refine⟨rfl,m,cS tk,?_,[tk],by simp[hn],by simp only[aO];rintro _ rfl;exact⟨ht,s,hcc⟩,by simp⟩;rw[<-hu];cases m with
   | zero=>simp[OwnL]at htr
   | succ m=>exact htr
  ·simp at ha
 ·simp at ha
theorem aAA {c:Ct cx.ty}(hw:Wf cx c):∀ (mks:List (Option Nat)) (l l':List (L cx.ty)) (n:List Nat) (us:List Value),aAB mks l=some (l',n)->RepLs cx c l us->(∀ k∈n,k∉c.D/\k∉c.F)->
  l'.map (weak true)=l'/\l'.length=l.length/\∃ m fpl,fpl.length=l.length/\(∀ (j:Nat) a u f,l'[j]?=some a->us[j]?=some u->fpl[j]?=some f->OwnL cx c.w m a u f)/\GivesO c n (List.flatten fpl)
 | mks,[],l',n,us,ha,h,_=>by
  simp only[aAB,aB,aY]at ha;obtain⟨rfl,rfl⟩:=ha;exact⟨rfl,rfl,0,[],rfl,λj a u f h1=>by simp at h1,GivesO.nil c⟩
 | mks,l::r,l',n,us,ha,h,hd=>by
  simp only[aAB]at ha;split at ha
  ·rename_i a n1 as ns e1 e2;simp only[aB,aY]at ha;obtain⟨rfl,rfl⟩:=ha
   match us,h with
   | [],h=>simp[RepLs]at h
   | u::us,h=>
    obtain⟨w1,m1,f,k1,k2⟩:=aGR hw e1 (h.2 0 l u rfl rfl) (λk hk=>hd k (aA.2 (.inl hk)));obtain⟨w2,len2,m2,fpl,k3,k4,k5⟩:=aAA hw mks.tail r as ns us e2 ⟨by have:=h.1;simpa using this,λj a b h1 h2=>h.2 (j+1) a b (by simpa using h1) (by simpa using h2)⟩ (λk hk=>hd k (aA.2 (.inr hk)));refine⟨by simp[w1,w2],by simp[len2],m1+m2,f::fpl,by simp[k3],λj a' u' f' h1 h2 h3=>?_,by rw[dA];exact k2.app k5⟩;cases j with
    | zero=>
     simp only[aP,aB]at h1 h2 h3;subst h1;subst h2;subst h3;exact OwnL_up m2 k1
    | succ j=>
     rw[fX];exact OwnL_up m1 (k4 j a' u' f' (by simpa using h1) (by simpa using h2) (by simpa using h3))
  ·simp at ha
theorem aB0 {c:Ct cx.ty}(h:Wf cx c){w':World}{nm0:Nat}(hf:∀ n,Nm c n->¬ (nm0<=n/\n < nm0+64)){dn:List Nat}(hdn:∀ tk∈c.T,tk.nm∈dn->∃ s,tk.c=.inl s)(hdT:∀ n∈dn,∃ tk∈c.T,tk.nm=n){u':Value}{fp':List Nat}{s':SlD cx.ty}(hs':s'.own=1/\s'.nm=nm0)
  (hblk:∀ b∈vb u'++fp',(∃ tk∈c.T,tk.nm∈dn/\b∈cS tk)\/(c.w.heap.size<=b/\b < w'.heap.size)) (hvb:∀ b∈vb u',(∃ tk∈c.T,tk.nm∈dn/\b∈vb tk.u)\/c.w.heap.size<=b) (hnd:(vb u'++fp').Nodup)
  (hheap:∀ b,b < c.w.heap.size->(∀ tk∈c.T,tk.nm∈dn->b∉vb tk.u)->w'.heap[b]?=c.w.heap[b]?) (hsz:c.w.heap.size<=w'.heap.size) (hbel:Kept c.N c.w w')
  (htok:∀ c':Ct cx.ty,c'.w=w'->TokRep cx c' { nm:=nm0,u:=u',fp:=fp',c:=.inl s' }) (hsl:∃ a n cap,u'=.slice a n cap) :
  Good cx c { v:=vs s',dead:=dn,frz:=[],live:=dn,read:=[] } nm0 u' w' ({ nm:=nm0,u:=u',fp:=fp',c:=.inl s' }::c.T.filter (λtk=>!dn.contains tk.nm)):=by
 have hmem:∀ tk,tk∈c.T.filter (λtk=>!dn.contains tk.nm)↔tk∈c.T/\tk.nm∉dn:=λtk=>by simp[eH]
 have hpres:Pres cx c (c.nx { v:=vs s',dead:=dn,frz:=[],live:=dn,read:=[] } w' ({ nm:=nm0,u:=u',fp:=fp',c:=.inl s' }::c.T.filter (λtk=>!dn.contains tk.nm))):=by
  refine⟨λb hb=>?_,λn hn=>aA.2 (.inr hn),λn hn=>hn,λtk ht hD _=>?_,λtk ht l hl=>?_,λtk ht _ _ _ hF=>absurd hF (h.live tk ht).2⟩
  ·obtain⟨h1,h2,h3⟩:=hb;refine⟨⟨cN h1 hsz,h2,λtk ht hv=>?_⟩,hheap b h1 (λtk ht _=>h3 tk ht)⟩;rcases bS.1 ht with ht | ht
   ·subst ht;rcases hvb b hv with⟨tk,k1,_,k3⟩ | hk
    ·exact h3 tk k1 k3
    ·omega
   ·exact h3 tk ((hmem tk).1 ht).1 hv
  ·refine bG _ ((hmem tk).2 ⟨ht,λhd=>hD (aA.2 (.inl hd))⟩)
  ·refine bG _ ((hmem tk).2 ⟨ht,λhd=>?_⟩);obtain⟨s,hs⟩:=hdn tk ht hd;rw[hl]at hs;cases hs
 have hother:∀ tk∈c.T,tk.nm∉dn->∀ b∈cS tk,∀ t2∈c.T,t2.nm∈dn->b∉cS t2:=λtk ht hn b hb t2 ht2 hn2 hb2=>
  dD h ht ht2 (λe=>hn (e▸hn2)) hb hb2
 have hnewD:nm0∉dn++c.D:=λhd=>by
  rcases aA.1 hd with hd | hd
  ·obtain⟨tk,k1,k2⟩:=hdT _ hd;exact hf _ (.inl ⟨tk,k1,k2⟩) ⟨aK _,by omega⟩
  ·exact hf _ (.inr (.inl hd)) ⟨aK _,by omega⟩
 have hnewF:nm0∉c.F:=λhd=>hf _ (.inr (.inr hd)) ⟨aK _,by omega⟩
 refine⟨⟨?_,?_,?_,?_,h.start,?_,λb hb=>h.size b (dZ hsz hb)⟩,hpres,?_,hbel,?_⟩
 ·show(List.map _ (_::_)).Nodup;rw[cU,dM];refine⟨λhm=>?_,(iE _ gE).nodup h.names⟩;obtain⟨tk,ht,he⟩:=aM.1 hm;have he:tk.nm=nm0:=he;exact hf _ (.inl ⟨tk,((hmem tk).1 ht).1,rfl⟩) ⟨by omega,by omega⟩
 ·show(List.flatMap _ (_::_)).Nodup;rw[aR,aH];refine⟨hnd,iR _ h.nodup,λa ha b hb he=>?_⟩;subst he;obtain⟨tk,ht,hb⟩:=bB.1 hb;obtain⟨ht1,ht2⟩:=(hmem tk).1 ht;rcases hblk a ha with⟨t2,k1,k2,k3⟩ | hk
  ·exact hother tk ht1 ht2 a hb t2 k1 k2 k3
  ·have:=(h.bound tk ht1 a hb).2;omega
 ·intro tk ht b hb;rcases bS.1 ht with ht | ht
  ·subst ht;rcases hblk b hb with⟨t2,k1,k2,k3⟩ | hk
   ·have:=h.bound t2 k1 b k3;exact⟨this.1,cN this.2 hsz⟩
   ·exact⟨h.size b hk.1,hk.2⟩
  ·have:=h.bound tk ((hmem tk).1 ht).1 b hb;exact⟨this.1,cN this.2 hsz⟩
 ·intro tk ht;rcases bS.1 ht with ht | ht
  ·subst ht;exact htok _ rfl
  ·obtain⟨h1,h2⟩:=(hmem tk).1 ht;exact TokRep.pres cx hpres (λb hb=>hheap b (h.bound tk h1 b hb).2 (λt2 ht2 hn2 hb2=>hother tk h1 h2 b hb t2 ht2 hn2 (aA.2 (.inl hb2)))) (h.rep tk h1)
 ·intro tk ht;rcases bS.1 ht with ht | ht
  ·subst ht;exact⟨hnewD,hnewF⟩
  ·obtain⟨h1,h2⟩:=(hmem tk).1 ht;refine⟨λhd=>?_,(h.live tk h1).2⟩;rcases aA.1 hd with hd | hd
   ·exact h2 hd
   ·exact(h.live tk h1).1 hd
 ·refine oO hs'.1 ?_ ?_ (bR ..) hs'.2.symm rfl rfl hsl
  ·rw[hs'.2];exact hnewD
  ·rw[hs'.2];exact hnewF
 ·intro n hn;rcases hn with⟨tk,ht,rfl⟩ | hn | hn
  ·rcases bS.1 ht with ht | ht
   ·subst ht;exact .inr ⟨aK _,by show nm0 < nm0+64;omega⟩
   ·exact .inl (.inl ⟨tk,((hmem tk).1 ht).1,rfl⟩)
  ·rcases aA.1 hn with hn | hn
   ·obtain⟨tk,k1,k2⟩:=hdT _ hn;exact .inl (.inl ⟨tk,k1,k2⟩)
   ·exact .inl (.inr (.inl hn))
  ·exact .inl (.inr (.inr hn))
def aCo (P:Program)(cx:Cx)(e:TypeId):Bool:=
 match P.info? e with
 | some i=>match i.zero with
  | some z=>decide (i.size=cx.size e)&&decide (z.cells.size=cx.size e)&&decide (0 < cx.size e)&&decide (i.bytes<=100000)
  | none=>false
 | none=>false
theorem wQ {e:TypeId}(h:aCo P cx e=true):∃ i z,P.info? e=some i/\i.zero=some z/\i.size=cx.size e/\z.cells.size=cx.size e/\0 < cx.size e/\i.bytes<=100000:=by
 unfold aCo at h;split at h
 ·rename_i i hi;split at h
  ·rename_i z hz;simp only[aJ,decide_eq_true_eq]at h;exact⟨i,z,hi,hz,h.1.1.1,h.1.1.2,h.1.2,h.2⟩
  ·simp at h
 ·simp at h
theorem vY {c:Ct cx.ty}(hw:Wf cx c){s:SlD cx.ty}{u:Value}(h1:s.own=1)(ho:s.o=true)(hl:s.nm∉c.D/\s.nm∉c.F)(h:RepLS cx c (some (.inr s)) u) :
  ∃ tk∈c.T,tk.nm=s.nm/\tk.c=.inl s/\tk.u=u/\vb u=u.ownBlock.toList/\∃ n us fpl,c.w.ownsRow 0 s.e (cx.size s.e) u s.xs.length us/\tk.fp=List.flatten fpl/\us.length=(s.xs.flatMap (cx.enc s.e true)).length/\fpl.length=us.length ∧
   ∀ (j:Nat) l v f,(s.xs.flatMap (cx.enc s.e true))[j]?=some l->us[j]?=some v->fpl[j]?=some f->OwnL cx c.w n l v f:=by
 unfold RepLS at h;simp only[h1,if_true,hl.1,hl.2,if_false]at h;obtain⟨_,tk,ht,hn,hc,hu⟩:=h;have htr:=hw.rep tk ht;unfold TokRep at htr;rw[hc]at htr;simp only[ho,if_true]at htr;obtain⟨hv,m,htr⟩:=htr;rw[hu]at hv htr;cases m with
 | zero=>simp[OwnL]at htr
 | succ m=>
  obtain⟨us,fpl,k1,k2,k3,k4,k5⟩:=htr;refine⟨tk,ht,hn,hc,hu,hv,m,us,fpl,k1,?_,k3,k4,k5⟩;rw[hv]at k2;exact gU k2
theorem aCu (ok:cx.Ok){w:World}{n:Nat}{e:Nat}{x:cx.ty e}{l:L cx.ty}(hl:l∈cx.enc e true x){u:Value}{f:List Nat}(h:OwnL cx w n l u f):u.oneCell'=true:=by
 rcases ok.leaf e true x l hl with⟨v,rfl,hv⟩ | ⟨s,rfl,_⟩
 ·cases n<;>(simp only[OwnL]at h;rw[h.1];exact hv)
 ·obtain⟨_,_,_,a,k,cap,hu⟩:=OwnL_slice h;rw[hu];rfl
end
section
variable {cx : Cx} {P : Program}
def rI {β:Type}(P:Program)(cx:Cx)(slots:List (V cx.ty))(t:TypeId)(x y:Operand)(nm0:Nat)(k:Eff cx.ty->Option β):Option β:=
 match eU P t with
 | some e=>if aCo P cx e then
   match dU slots y with
   | .inl (.inl (some (.inr s2)))=>if s2.e == e&&s2.own == 1&&s2.o then
     match dU slots x with
     | .inl (.inl (some (.inr s)))=>if s.e == e&&s.own == 1&&s.o&&s.nm != s2.nm then
       bif decide (s.xs.length+s2.xs.length<=1000000000)then
        k { v:=aDv nm0 e (fL e s++fL e s2),dead:=[s.nm,s2.nm],frz:=[],live:=[s.nm,s2.nm],read:=[] }
       else none
      else none
     | _=>none
    else none
   | _=>none
  else none
 | none=>none
theorem aAT (ok:cx.Ok){β:Type}{o:Oper}{slots:List (V cx.ty)}{nm0:Nat}{t:TypeId}{x y:Operand}(ho:o.op=.call { callee:=.builtin .append,args:=#[x,y],argTypes:=#[t,t] }){k:Eff cx.ty->Option β}{r:β}
  (h:rI P cx slots t x y nm0 k=some r):∃ ef,k ef=some r/\EffOK P cx o slots nm0 ef:=by
 unfold rI at h;split at h
 ·rename_i e he;split at h
  ·rename_i hfit;obtain⟨i,z,hi,hz,hsz,hzs,hpos,hby⟩:=wQ hfit;have hxm:x∈o.op.operands:=by simp[ho,Op.operands,Call.operands]
   have hym:y∈o.op.operands:=by simp[ho,Op.operands,Call.operands]
   have execEq:∀ (ρ:Operand->Value) (w:World) v' w',(Builtin.append_ #[t,t] o.type #[ρ x,ρ y]).run P w=.ok v' w'->(execOp ρ o).run P w=.ok (.value v') w':=by
    intro ρ w v' w' hr;unfold execOp;simp only[ho,resolve,invoke,builtin,Sem.run_bind,Sem.run_pure,Result.andThen_ok,iC,cU,kR,hr]
   split at h
   ·rename_i s2 hy;split at h
    ·rename_i hc2;simp only[aJ,beq_iff_eq]at hc2;obtain⟨⟨rfl,hown2⟩,hso2⟩:=hc2;split at h
     ·rename_i s hx;split at h
      ·rename_i hc1;simp only[aJ,beq_iff_eq,bne_iff_ne,ne_eq]at hc1;obtain⟨⟨⟨hse,hown1⟩,hso⟩,hne⟩:=hc1;cases hb:decide (s.xs.length+s2.xs.length<=1000000000)with
       | false=>rw[hb]at h;simp at h
       | true=>
        rw[hb]at h;have hb:s.xs.length+s2.xs.length<=1000000000:=by simpa using hb
        refine⟨_,h,⟨λc ρ hw hop hlive _ hf=>?_⟩⟩;have hrx:=hop x hxm;rw[hx]at hrx;have hrx:RepLS cx c (some (.inr s)) (ρ x):=hrx;have hry:=hop y hym;rw[hy]at hry;have hry:RepLS cx c (some (.inr s2)) (ρ y):=hry;obtain⟨tk,ht,hn,hc,hu,hvb,n1,us1,fpl1,r1,fp1,l1,m1,o1⟩:=vY hw hown1 hso (hlive s.nm (by simp)) hrx;obtain⟨tk2,ht2,hn2,hcc2,hu2,hvb2,n2,us2,fpl2,r2,fp2,l2,m2,o2⟩:=vY hw hown2 hso2 (hlive s2.nm (by simp)) hry;obtain⟨ow,nmx,ex,ox,xs⟩:=s;simp only at hse hown1 hso hn hne l1 o1 r1 hb;subst hse;have hcx:fL s2.e ({ own:=ow,nm:=nmx,e:=s2.e,o:=ox,xs:=xs }:SlD cx.ty)=xs:=by simp[fL]
        have hcy:fL s2.e s2=s2.xs:=by simp[fL]
        rw[hcx,hcy];have hfl1:=eX (cx.enc s2.e true) (cx.size s2.e) (λx=>ok.len s2.e true x) xs;have hfl2:=eX (cx.enc s2.e true) (cx.size s2.e) (λx=>ok.len s2.e true x) s2.xs;have hnt:tk≠tk2:=λh=>hne (by rw[<-hn,<-hn2,h])
        have hones:∀ u∈us2,u.oneCell'=true:=by
         intro u hu';obtain⟨j,hj⟩:=dW hu';have hjl:j < (s2.xs.flatMap (cx.enc s2.e true)).length:=by rw[<-l2];exact(aI.1 hj).1
         have hjf:j < fpl2.length:=by rw[m2];exact(aI.1 hj).1
         have hl:=iD hjl;obtain⟨z,_,hz2⟩:=bB.1 hl;exact aCu ok hz2 (o2 j _ u _ (aC hjl) hj (aC hjf))
        obtain⟨a2,cap2,hau,hcells⟩:∃ a cap,ρ y=.slice a s2.xs.length cap/\(s2.xs.length=0\/∃ ad,a=some ad/\∀ (j:Nat) u,us2[j]?=some u->c.w.cell? (ad.add j)=some u):=by
         rcases r2.2 with⟨hv,h0⟩ | ⟨g,cap,cur,hv,_⟩
         ·exact⟨none,0,by rw[hv,h0],.inl h0⟩
         ·exact⟨some ⟨g,0,none⟩,cap,hv,.inr ⟨_,rfl,r2.cells (g:=g) (by rw[hv];rfl)⟩⟩
        obtain⟨v',w',hr,k1,k2,k3,k4⟩:=lD (P:=P) (w:=c.w) (ty:=o.type) (fS he) hi hz hsz hzs hpos r1 (a:=a2) (m:=s2.xs.length) (cap:=cap2) (news:=us2) (by rw[l2,hfl2]) hcells hones (by simp[maxLen];omega) (dZ (oH hb hby) (by omega));rw[<-hau]at hr;unfold Runs;rw[execEq ρ c.w v' w' hr];have hvb':vb v'=v'.ownBlock.toList:=by
         obtain⟨a,n,cc,rfl⟩:=k4;rcases k1.2 with⟨hv,_⟩ | ⟨g,cap',cur,hv,_⟩
         ·rw[hv];rfl
         ·rw[hv];rfl
        have hvbm:∀ b,b∈vb v'->v'.ownBlock=some b:=λb hb'=>by rw[hvb']at hb';simpa using hb'
        have hbx:∀ g,(ρ x).ownBlock=some g↔g∈vb tk.u:=λg=>by rw[hu,hvb];cases (ρ x).ownBlock<;>simp[eq_comm]
        have hnd1:(vb tk.u++tk.fp).Nodup:=by
         have hnd:=hw.nodup;obtain⟨p1,p2,hp⟩:=cO ht;rw[hp]at hnd;simp only[bE,aR]at hnd;exact(aH.1 (aH.1 hnd).2.1).1
        have hnd2:(vb tk2.u++tk2.fp).Nodup:=by
         have hnd:=hw.nodup;obtain⟨p1,p2,hp⟩:=cO ht2;rw[hp]at hnd;simp only[bE,aR]at hnd;exact(aH.1 (aH.1 hnd).2.1).1
        have hdis:∀ b∈cS tk,b∉cS tk2:=λb h1 h2=>dD hw ht ht2 (λe=>hne (by rw[<-hn,<-hn2];exact e)) h1 h2
        have hsame:∀ b,b∈tk.fp++tk2.fp->w'.heap[b]?=c.w.heap[b]?:=by
         intro b hb';have hlt:b < c.w.heap.size:=by
          rcases aA.1 hb' with h1 | h1
          ·exact(hw.bound tk ht b (aA.2 (.inr h1))).2
          ·exact(hw.bound tk2 ht2 b (aA.2 (.inr h1))).2
         refine k2.block b hlt (λhg=>?_);have hg:=(hbx b).1 hg.symm;rcases aA.1 hb' with h1 | h1
         ·exact(aH.1 hnd1).2.2 b hg b h1 rfl
         ·exact hdis b (aA.2 (.inl hg)) (aA.2 (.inr h1))
        refine⟨_,aB0 hw hf (λtk' ht' hn'=>?_) (λn hn'=>?_) (s':={ own:=1,nm:=nm0,e:=s2.e,o:=true,xs:=xs++s2.xs }) (fp':=tk.fp++tk2.fp) ⟨rfl,rfl⟩ (λb hb'=>?_) (λb hb'=>?_) ?_ (λb hb' hno=>?_) k2.size ⟨k2.os,k2.tape,k2.output,k2.size,λq hq=>k2.block q (Wf.lt cx hw hq) ?_⟩ (λc' hcw=>?_) k4⟩
        ·rcases bS.1 hn' with h1 | h1
         ·have:=iF hw ht' ht (h1.trans hn.symm);subst this;exact⟨_,hc⟩
         ·have:=iF hw ht' ht2 ((aO.1 h1).trans hn2.symm);subst this;exact⟨_,hcc2⟩
        ·rcases bS.1 hn' with h1 | h1
         ·exact⟨tk,ht,by rw[h1];exact hn⟩
         ·exact⟨tk2,ht2,by rw[aO.1 h1];exact hn2⟩
        ·rcases aA.1 hb' with h1 | h1
         ·rcases k3 b (hvbm b h1)with h2 | h2
          ·exact .inl ⟨tk,ht,by simp[hn],aA.2 (.inl ((hbx b).1 h2))⟩
          ·refine .inr ⟨h2,?_⟩;exact(World.ownsRow.lt k1 b (hvbm b h1)).2
         ·rcases aA.1 h1 with h2 | h2
          ·exact .inl ⟨tk,ht,by simp[hn],aA.2 (.inr h2)⟩
          ·exact .inl ⟨tk2,ht2,by simp[hn2],aA.2 (.inr h2)⟩
        ·rcases k3 b (hvbm b hb')with h2 | h2
         ·exact .inl ⟨tk,ht,by simp[hn],(hbx b).1 h2⟩
         ·exact .inr h2
        ·rw[aH];refine⟨zH v',?_,λa ha b hb' he=>?_⟩
         ·rw[aH];refine⟨(aH.1 hnd1).2.1,(aH.1 hnd2).2.1,λa ha b hb' he=>?_⟩;subst he;exact hdis a (aA.2 (.inr ha)) (aA.2 (.inr hb'))
         ·subst he;rcases k3 a (hvbm a ha)with h2 | h2
          ·have h2:=(hbx a).1 h2;rcases aA.1 hb' with h3 | h3
           ·exact(aH.1 hnd1).2.2 a h2 a h3 rfl
           ·exact hdis a (aA.2 (.inl h2)) (aA.2 (.inr h3))
          ·rcases aA.1 hb' with h3 | h3
           ·have:=(hw.bound tk ht a (aA.2 (.inr h3))).2;omega
           ·have:=(hw.bound tk2 ht2 a (aA.2 (.inr h3))).2;omega
        ·exact k2.block b hb' (λhg=>hno tk ht (by simp[hn]) ((hbx b).1 hg.symm))
        ·intro hg;exact hq (hw.bound tk ht q (aA.2 (.inl ((hbx q).1 hg.symm)))).1
        ·subst hcw;unfold TokRep;simp only[if_true];refine⟨hvb',n1+n2+1,us1++us2,fpl1++fpl2,?_,?_,?_,by simp[m1,m2],λj l v f g1 g2 g3=>?_⟩
         ·simp only[aW];exact k1
         ·rw[hvb',eK,fp1,fp2]
         ·rw[bE,aW,aW,l1,l2]
         ·have lu1:us1.length=fpl1.length:=m1.symm;rw[bE]at g1;have sub1:∀ b,b∈f->(b∈tk.fp++tk2.fp):=by
           intro b hb';have:f∈fpl1++fpl2:=bC g3;rcases aA.1 this with h1 | h1
           ·exact aA.2 (.inl (by rw[fp1];exact dI.2 ⟨f,h1,hb'⟩))
           ·exact aA.2 (.inr (by rw[fp2];exact dI.2 ⟨f,h1,hb'⟩))
          refine OwnL_mono cx _ _ _ _ (λb hb'=>hsame b (sub1 b hb')) ?_;by_cases hj:j < us1.length
          ·rw[bM (by rw[<-l1];exact hj)]at g1;rw[bM hj]at g2;rw[bM (by rw[m1];exact hj)]at g3;exact OwnL_up n2 (o1 j l v f g1 g2 g3)
          ·rw[bJ (by rw[<-l1];omega),<-l1]at g1;rw[bJ (by omega)]at g2;rw[bJ (by rw[m1];omega),m1]at g3;rw[fX n1 n2];exact OwnL_up n1 (o2 _ l v f g1 g2 g3)
      ·simp at h
     ·simp at h
    ·simp at h
   ·simp at h
  ·simp at h
 ·simp at h
end
section
variable {cx : Cx} {P : Program}
theorem aEU {c:Ct cx.ty}(h:Wf cx c){w':World}{nm0:Nat}(hf:∀ n,Nm c n->¬ (nm0<=n/\n < nm0+64)){dn r:List Nat}(hdn:∀ tk∈c.T,tk.nm∈dn->∃ s,tk.c=.inl s)(hdT:∀ n∈dn,∃ tk∈c.T,tk.nm=n){u':Value}{s':SlD cx.ty}(hs':s'.own=1/\s'.nm=nm0)
  (hblk:∀ b∈vb u',(∃ tk∈c.T,tk.nm∈dn/\b∈vb tk.u)\/(c.w.heap.size<=b/\b < w'.heap.size))
  (hheap:∀ b,b < c.w.heap.size->(∀ tk∈c.T,tk.nm∈dn->b∉vb tk.u)->w'.heap[b]?=c.w.heap[b]?) (hsz:c.w.heap.size<=w'.heap.size) (hbel:Kept c.N c.w w')
  (htok:∀ c':Ct cx.ty,c'.w=w'->(∀ b,Rd c b->Rd c' b/\c'.w.heap[b]?=c.w.heap[b]?)->TokRep cx c' { nm:=nm0,u:=u',fp:=[],c:=.inl s' }) (hsl:∃ a n cap,u'=.slice a n cap) :
  Good cx c { v:=vs s',dead:=dn,frz:=[],live:=dn,read:=r } nm0 u' w' ({ nm:=nm0,u:=u',fp:=[],c:=.inl s' }::c.T.filter (λtk=>!dn.contains tk.nm)):=by
 have hmem:∀ tk,tk∈c.T.filter (λtk=>!dn.contains tk.nm)↔tk∈c.T/\tk.nm∉dn:=λtk=>by simp[eH]
 have hpres:Pres cx c (c.nx { v:=vs s',dead:=dn,frz:=[],live:=dn,read:=r } w' ({ nm:=nm0,u:=u',fp:=[],c:=.inl s' }::c.T.filter (λtk=>!dn.contains tk.nm))):=by
  refine⟨λb hb=>?_,λn hn=>aA.2 (.inr hn),λn hn=>hn,λtk ht hD _=>?_,λtk ht l hl=>?_,λtk ht _ _ _ hF=>absurd hF (h.live tk ht).2⟩
  ·obtain⟨h1,h2,h3⟩:=hb;refine⟨⟨cN h1 hsz,h2,λtk ht hv=>?_⟩,hheap b h1 (λtk ht _=>h3 tk ht)⟩;rcases bS.1 ht with ht | ht
   ·subst ht;rcases hblk b hv with⟨tk,k1,_,k3⟩ | hk
    ·exact h3 tk k1 k3
    ·omega
   ·exact h3 tk ((hmem tk).1 ht).1 hv
  ·refine bG _ ((hmem tk).2 ⟨ht,λhd=>hD (aA.2 (.inl hd))⟩)
  ·refine bG _ ((hmem tk).2 ⟨ht,λhd=>?_⟩);obtain⟨s,hs⟩:=hdn tk ht hd;rw[hl]at hs;cases hs
 have hother:∀ tk∈c.T,tk.nm∉dn->∀ b∈cS tk,∀ t2∈c.T,t2.nm∈dn->b∉vb t2.u:=λtk ht hn b hb t2 ht2 hn2 hb2=>
  dD h ht ht2 (λe=>hn (e▸hn2)) hb (aA.2 (.inl hb2))
 refine⟨⟨?_,?_,?_,?_,h.start,?_,λb hb=>h.size b (dZ hsz hb)⟩,hpres,?_,hbel,?_⟩
 ·show(List.map _ (_::_)).Nodup;rw[cU,dM];refine⟨λhm=>?_,(iE _ gE).nodup h.names⟩;obtain⟨tk,ht,he⟩:=aM.1 hm;have he:tk.nm=nm0:=he;exact hf _ (.inl ⟨tk,((hmem tk).1 ht).1,rfl⟩) ⟨by omega,by omega⟩
 ·show(List.flatMap _ (_::_)).Nodup;rw[aR,aH];refine⟨by simpa using zH u',?_,λa ha b hb he=>?_⟩
  ·have hsub:List.Sublist ((c.T.filter (λtk=>!dn.contains tk.nm)).flatMap λtk=>vb tk.u++tk.fp) (c.T.flatMap λtk=>vb tk.u++tk.fp):=by
    have:∀ T:List (Tk cx.ty),List.Sublist ((T.filter (λtk=>!dn.contains tk.nm)).flatMap λtk=>vb tk.u++tk.fp) (T.flatMap λtk=>vb tk.u++tk.fp):=by
     intro T
     induction T with
     | nil=>exact dX _
     | cons x r ih=>
      rw[kG];split
      ·rw[aR,aR];exact(dX _).append ih
      ·rw[aR];exact ih.trans (fI _ _)
    exact this _
   exact hsub.nodup h.nodup
  ·subst he;simp only[dR]at ha;obtain⟨tk,ht,hb⟩:=bB.1 hb;obtain⟨ht1,ht2⟩:=(hmem tk).1 ht;rcases hblk a ha with⟨t2,k1,k2,k3⟩ | hk
   ·exact hother tk ht1 ht2 a hb t2 k1 k2 k3
   ·have:=(h.bound tk ht1 a hb).2;omega
 ·intro tk ht b hb;rcases bS.1 ht with ht | ht
  ·subst ht;simp only[dR]at hb;rcases hblk b hb with⟨t2,k1,k2,k3⟩ | hk
   ·have:=h.bound t2 k1 b (aA.2 (.inl k3));exact⟨this.1,cN this.2 hsz⟩
   ·have:=h.size;exact⟨by show c.N b;exact this b (by omega),hk.2⟩
  ·have:=h.bound tk ((hmem tk).1 ht).1 b hb;exact⟨this.1,cN this.2 hsz⟩
 ·intro tk ht;rcases bS.1 ht with ht | ht
  ·subst ht;exact htok _ rfl (λb hb=>hpres.rd b hb)
  ·obtain⟨ht1,ht2⟩:=(hmem tk).1 ht;exact TokRep.pres cx hpres (λb hb=>hheap b (h.bound tk ht1 b hb).2 (hother tk ht1 ht2 b hb)) (h.rep tk ht1)
 ·intro tk ht;rcases bS.1 ht with ht | ht
  ·subst ht;refine⟨λhd=>?_,λhd=>hf _ (.inr (.inr hd)) ⟨aK _,by show nm0 < nm0+64;omega⟩⟩;rcases aA.1 hd with hd | hd
   ·obtain⟨tk,k1,k2⟩:=hdT _ hd;exact hf _ (.inl ⟨tk,k1,k2⟩) ⟨aK _,by show nm0 < nm0+64;omega⟩
   ·exact hf _ (.inr (.inl hd)) ⟨aK _,by show nm0 < nm0+64;omega⟩
  ·obtain⟨ht1,ht2⟩:=(hmem tk).1 ht;refine⟨λhd=>?_,(h.live tk ht1).2⟩;rcases aA.1 hd with hd | hd
   ·exact ht2 hd
   ·exact(h.live tk ht1).1 hd
 ·refine(show RepV cx _ (vs s') u' from ?_);refine(show RepLS cx _ (some (.inr s')) u' from oO hs'.1 ?_ ?_ (bR ..) hs'.2.symm rfl rfl hsl)
  ·intro hd;rw[hs'.2]at hd;rcases aA.1 hd with hd | hd
   ·obtain⟨tk,k1,k2⟩:=hdT _ hd;exact hf _ (.inl ⟨tk,k1,k2⟩) ⟨aK _,by omega⟩
   ·exact hf _ (.inr (.inl hd)) ⟨aK _,by omega⟩
  ·intro hd;rw[hs'.2]at hd;exact hf _ (.inr (.inr hd)) ⟨aK _,by omega⟩
 ·intro n hn;rcases hn with⟨tk,ht,rfl⟩ | hn | hn
  ·rcases bS.1 ht with ht | ht
   ·subst ht;exact .inr ⟨aK _,by show nm0 < nm0+64;omega⟩
   ·exact .inl (.inl ⟨tk,((hmem tk).1 ht).1,rfl⟩)
  ·rcases aA.1 hn with hn | hn
   ·obtain⟨tk,k1,k2⟩:=hdT _ hn;exact .inl (.inl ⟨tk,k1,k2⟩)
   ·exact .inl (.inr (.inl hn))
  ·exact .inl (.inr (.inr hn))
theorem aJM (ok:cx.Ok){w:World}{S:Nat->Prop}{n:Nat}{e:Nat}{x:cx.ty e}{l:L cx.ty}(hl:l∈cx.enc e false x){u:Value}(h:RepL cx w S n l u):u.oneCell'=true:=by
 rcases ok.leaf e false x l hl with⟨v,rfl,hv⟩ | ⟨s,rfl,_⟩
 ·have:u=v:=by cases n<;>simpa[RepL]using h
  rw[this];exact hv
 ·cases n with
  | zero=>simp[RepL]at h
  | succ n=>
   obtain⟨a,cap,rfl,_⟩:=h
   rfl
theorem aHV (ok:cx.Ok){c:Ct cx.ty}(hw:Wf cx c){s:SlD cx.ty}(hpos:0 < cx.size s.e){u:Value}(h:RepLS cx c (some (.inr s)) u)(hd:∀ n∈rdn s,n∉c.D) :
  ∃ (a:Option Addr) (cap:Nat) (us:List Value) (n:Nat),u=.slice a s.xs.length cap/\us.length=(s.xs.flatMap (cx.enc s.e false)).length/\(s.xs.length=0\/∃ ad,a=some ad/\∀ (j:Nat) v,us[j]?=some v->c.w.cell? (ad.add j)=some v) ∧
   ∀ (j:Nat) l v,(s.xs.flatMap (cx.enc s.e false))[j]?=some l->us[j]?=some v->RepL cx c.w (Rd c) n l v:=by
 have hfl:=eX (cx.enc s.e false) (cx.size s.e) (λx=>ok.len s.e false x) s.xs;have nil:∀ (a:Option Addr) (cap:Nat),s.xs=[]->u=.slice a s.xs.length cap->∃ (a:Option Addr) (cap:Nat) (us:List Value) (n:Nat),u=.slice a s.xs.length cap/\us.length=(s.xs.flatMap (cx.enc s.e false)).length/\(s.xs.length=0\/∃ ad,a=some ad/\∀ (j:Nat) v,us[j]?=some v->c.w.cell? (ad.add j)=some v) ∧
   ∀ (j:Nat) l v,(s.xs.flatMap (cx.enc s.e false))[j]?=some l->us[j]?=some v->RepL cx c.w (Rd c) n l v:=λa cap hx hu=>
  ⟨a,cap,[],0,hu,by rw[hx];rfl,.inl (by rw[hx];rfl),λj l v _ h2=>by simp at h2⟩
 have key:∀ (b off cap:Nat),u=.slice (some ⟨b,off,none⟩) s.xs.length cap->(∀ (i:Nat) x,s.xs[i]?=some x->∃ n,∀ j l,(cx.enc s.e false x)[j]?=some l->∃ v,c.w.cell? ⟨b,off+i * cx.size s.e+j,none⟩=some v/\RepL cx c.w (Rd c) n l v)->
   ∃ (a:Option Addr) (cap:Nat) (us:List Value) (n:Nat),u=.slice a s.xs.length cap/\us.length=(s.xs.flatMap (cx.enc s.e false)).length/\(s.xs.length=0\/∃ ad,a=some ad/\∀ (j:Nat) v,us[j]?=some v->c.w.cell? (ad.add j)=some v) ∧
   ∀ (j:Nat) l v,(s.xs.flatMap (cx.enc s.e false))[j]?=some l->us[j]?=some v->RepL cx c.w (Rd c) n l v:=by
  intro b off cap hu hc;have hcell:∀ (j:Nat) l,(s.xs.flatMap (cx.enc s.e false))[j]?=some l->∃ v,c.w.cell? ⟨b,off+j,none⟩=some v/\∃ n,RepL cx c.w (Rd c) n l v:=by
   intro j l hl;have hjl:j < s.xs.length * cx.size s.e:=by rw[<-hfl];exact(aI.1 hl).1
   have hi:j / cx.size s.e < s.xs.length:=(Nat.div_lt_iff_lt_mul hpos).2 hjl;have hm:j % cx.size s.e < cx.size s.e:=wN _ hpos;have hj:j / cx.size s.e * cx.size s.e+j % cx.size s.e=j:=by rw[nU];exact nB j _
   obtain⟨n,hn⟩:=hc (j / cx.size s.e) _ (aC hi);have hfg:=gS (cx.enc s.e false) (cx.size s.e) (λx=>ok.len s.e false x) s.xs _ _ (aC hi) _ hm;rw[hj,hl]at hfg;obtain⟨v,h1,h2⟩:=hn _ _ hfg.symm;exact⟨v,by rw[<-h1];congr 2;omega,n,h2⟩
  let us:=(List.range (s.xs.flatMap (cx.enc s.e false)).length).map λj=>(c.w.cell? ⟨b,off+j,none⟩).getD undef
  have husl:us.length=(s.xs.flatMap (cx.enc s.e false)).length:=by simp[us]
  have hus:∀ (j:Nat) l v,(s.xs.flatMap (cx.enc s.e false))[j]?=some l->us[j]?=some v->c.w.cell? ⟨b,off+j,none⟩=some v/\∃ n,RepL cx c.w (Rd c) n l v:=by
   intro j l v h1 h2;obtain⟨v',h3,h4⟩:=hcell j l h1;have hj:j < (s.xs.flatMap (cx.enc s.e false)).length:=(aI.1 h1).1;have:v=v':=by
    simp only[us,aX,List.getElem?_range hj,aD,aB]at h2;rw[<-h2,h3];rfl
   subst this;exact⟨h3,h4⟩
  obtain⟨n,hn⟩:=aFD (s.xs.flatMap (cx.enc s.e false)) us (λj l v h1 h2=>(hus j l v h1 h2).2);refine⟨_,cap,us,n,hu,husl,.inr ⟨_,rfl,λj v hv=>?_⟩,hn⟩;have hj:j < (s.xs.flatMap (cx.enc s.e false)).length:=by rw[<-husl];exact(aI.1 hv).1
  rw[Addr.add_lit];exact(hus j _ v (aC hj) hv).1
 have ofRepL:∀ n,RepL cx c.w (Rd c) n (some (.inr s)) u->∃ (a:Option Addr) (cap:Nat) (us:List Value) (n:Nat),u=.slice a s.xs.length cap/\us.length=(s.xs.flatMap (cx.enc s.e false)).length/\(s.xs.length=0\/∃ ad,a=some ad/\∀ (j:Nat) v,us[j]?=some v->c.w.cell? (ad.add j)=some v) ∧
   ∀ (j:Nat) l v,(s.xs.flatMap (cx.enc s.e false))[j]?=some l->us[j]?=some v->RepL cx c.w (Rd c) n l v:=by
  intro n hn;cases n with
  | zero=>simp[RepL]at hn
  | succ n=>
   obtain⟨a,cap,hu,_,hcase⟩:=hn;rcases hcase with hx | ⟨b,off,rfl,hS,hc⟩
   ·exact nil a cap hx hu
   ·exact key b off cap hu (λi x hx=>⟨n,λj l hl=>by
     obtain⟨v,hv,hr⟩:=hc i x hx j l hl;exact⟨v,by rw[gT];exact hv,hr⟩⟩)
 unfold RepLS at h;by_cases h1:s.own=1
 ·have h2:s.nm∉c.D:=hd _ (by simp[rdn,h1]);simp only[h1,if_true,h2,if_false]at h;obtain⟨_,h⟩:=h;by_cases h3:s.nm∈c.F
  ·simp only[h3,if_true]at h;obtain⟨n,h⟩:=h;exact ofRepL n h
  ·simp only[h3,if_false]at h;obtain⟨tk,ht,_,hc,hu⟩:=h;rcases tJ ok hw ht hc with⟨h4,h5⟩ | ⟨g,cap,h4,_,h5⟩
   ·exact nil none 0 h5 (by rw[<-hu,h4,h5];rfl)
   ·exact key g 0 cap (by rw[<-hu,h4]) (λi x hx=>by
     obtain⟨n,hn⟩:=h5 i x hx;refine⟨n,λj l hl=>?_⟩;obtain⟨v,hv,hr⟩:=hn j l hl;exact⟨v,by rw[cX];exact hv,hr⟩)
 ·simp only[h1,if_false]at h;obtain⟨n,h⟩:=h;exact ofRepL n h
def tX {β:Type}(P:Program)(cx:Cx)(slots:List (V cx.ty))(t:TypeId)(x y:Operand)(nm0:Nat)(k:Eff cx.ty->Option β):Option β:=
 match eU P t with
 | some e=>if aCo P cx e then
   match aKC e (dU slots y)with
   | some s2=>match dU slots x with
    | .inl (.inl (some (.inr s)))=>if s.e == e&&s.own == 1&&(!s.o || s.xs.isEmpty)then
      bif decide (s.xs.length+s2.xs.length<=1000000000)then
       k { v:=vs { own:=1,nm:=nm0,e:=e,o:=false,xs:=fL e s++fL e s2 },dead:=[s.nm],frz:=[],live:=[s.nm],read:=rdn s2 }
      else none
     else none
    | _=>none
   | none=>none
  else none
 | none=>none
theorem aBw (ok:cx.Ok){β:Type}{o:Oper}{slots:List (V cx.ty)}{nm0:Nat}{t:TypeId}{x y:Operand}(ho:o.op=.call { callee:=.builtin .append,args:=#[x,y],argTypes:=#[t,t] }){k:Eff cx.ty->Option β}{r:β}
  (h:tX P cx slots t x y nm0 k=some r):∃ ef,k ef=some r/\EffOK P cx o slots nm0 ef:=by
 unfold tX at h;split at h
 ·rename_i e he;split at h
  ·rename_i hfit;obtain⟨i,z,hi,hz,hsz,hzs,hpos,hby⟩:=wQ hfit;have hxm:x∈o.op.operands:=by simp[ho,Op.operands,Call.operands]
   have hym:y∈o.op.operands:=by simp[ho,Op.operands,Call.operands]
   have execEq:∀ (ρ:Operand->Value) (w:World) v' w',(Builtin.append_ #[t,t] o.type #[ρ x,ρ y]).run P w=.ok v' w'->(execOp ρ o).run P w=.ok (.value v') w':=by
    intro ρ w v' w' hr;unfold execOp;simp only[ho,resolve,invoke,builtin,Sem.run_bind,Sem.run_pure,Result.andThen_ok,iC,cU,kR,hr]
   split at h
   ·rename_i s2 hy;split at h
    ·rename_i s hx;split at h
     ·rename_i hso;simp only[aJ,beq_iff_eq]at hso;obtain⟨⟨hse,hown1⟩,hso⟩:=hso;cases hb:decide (s.xs.length+s2.xs.length<=1000000000)with
      | false=>rw[hb]at h;simp at h
      | true=>
       rw[hb]at h;have hb:s.xs.length+s2.xs.length<=1000000000:=by simpa using hb
       refine⟨_,h,⟨λc ρ hw hop hlive hrd hf=>?_⟩⟩;have hrx:=hop x hxm;rw[hx]at hrx;have hrx:RepLS cx c (some (.inr s)) (ρ x):=hrx;obtain⟨hs2e,hry⟩:=aA5 hy (hop y hym);have hlv:=hlive s.nm (aO.2 rfl);obtain⟨hnD,hnF⟩:=hlv;have hpx:∃ tk∈c.T,tk.nm=s.nm/\tk.c=.inl s/\tk.u=ρ x/\vb (ρ x)=(ρ x).ownBlock.toList/\∃ (n:Nat) (us:List Value),c.w.ownsRow 0 s.e (cx.size s.e) (ρ x) s.xs.length us/\us.length=(s.xs.flatMap (cx.enc s.e false)).length ∧
         ∀ (j:Nat) l v,(s.xs.flatMap (cx.enc s.e false))[j]?=some l->us[j]?=some v->RepL cx c.w (Rd c) n l v:=by
        cases hoo:s.o with
        | true=>
         have hxe:s.xs=[]:=by
          rw[hoo]at hso;simpa using hso
         obtain⟨tk,h1,h2,h3,h4,h5,n,us,fpl,r1,_,l1,_⟩:=vY hw hown1 hoo ⟨hnD,hnF⟩ hrx;refine⟨tk,h1,h2,h3,h4,h5,n,us,r1,?_,λj l v g1=>?_⟩
         ·rw[l1,hxe];rfl
         ·rw[hxe]at g1;simp at g1
        | false=>
         unfold RepLS at hrx;simp only[hown1,if_true,hnD,hnF,if_false]at hrx;obtain⟨_,tk,ht,hn,hc,hu⟩:=hrx;have htr:=hw.rep tk ht;unfold TokRep at htr;rw[hc]at htr;simp only[hoo,dF,if_false]at htr;obtain⟨hv,_,us,n,r1,l1,r2⟩:=htr;rw[hu]at hv r1;exact⟨tk,ht,hn,hc,hu,hv,n,us,r1,l1,r2⟩
       obtain⟨tk,htk,hn,hc,hu,hvb,n1,us1,hrow,l1,hr1⟩:=hpx;obtain⟨a2,cap2,us2,n2,hu2,l2,hcells,hr2⟩:=aHV ok hw (by rw[hs2e];exact hpos) hry hrd;obtain⟨ow,nmx,ex,ox,xs⟩:=s;obtain⟨ow2,nmx2,ex2,ox2,xs2⟩:=s2;simp only at hse hs2e hown1 hn hrow l1 hr1 hu2 l2 hcells hr2 hb hnD hnF;subst hse;subst hs2e;have hcx:fL ex2 ({ own:=ow,nm:=nmx,e:=ex2,o:=ox,xs:=xs }:SlD cx.ty)=xs:=by simp[fL]
       have hcy:fL ex2 ({ own:=ow2,nm:=nmx2,e:=ex2,o:=ox2,xs:=xs2 }:SlD cx.ty)=xs2:=by simp[fL]
       simp only[hcx,hcy];have hfl2:=eX (cx.enc ex2 false) (cx.size ex2) (λx=>ok.len ex2 false x) xs2;have hones:∀ u∈us2,u.oneCell'=true:=by
        intro u hu';obtain⟨j,hj⟩:=dW hu';have hjl:j < (xs2.flatMap (cx.enc ex2 false)).length:=by rw[<-l2];exact(aI.1 hj).1
        have hl:=iD hjl;obtain⟨z,_,hz2⟩:=bB.1 hl;exact aJM ok hz2 (hr2 j _ u (aC hjl) hj)
       obtain⟨v',w',hr,k1,k2,k3,k4⟩:=lD (P:=P) (w:=c.w) (ty:=o.type) (fS he) hi hz hsz hzs hpos hrow (a:=a2) (m:=xs2.length) (cap:=cap2) (news:=us2) (by rw[l2,hfl2]) hcells hones (by simp[maxLen];omega) (dZ (oH hb hby) (by omega));rw[<-hu2]at hr;unfold Runs;rw[execEq ρ c.w v' w' hr];have hblk:∀ g,(ρ x).ownBlock=some g↔g∈vb tk.u:=λg=>by rw[hu,hvb];cases (ρ x).ownBlock<;>simp[eq_comm]
       have hvb2:vb v'=v'.ownBlock.toList:=by
        obtain⟨a,n,cc,rfl⟩:=k4;rcases k1.2 with⟨hv,_⟩ | ⟨g,cap',cur,hv,_⟩
        ·rw[hv];rfl
        ·rw[hv];rfl
       have hvb':∀ b,b∈vb v'->v'.ownBlock=some b:=λb hb'=>by rw[hvb2]at hb';simpa using hb'
       refine⟨_,aEU hw hf (λtk' ht' hn'=>?_) (λn hn'=>?_) (s':={ own:=1,nm:=nm0,e:=ex2,o:=false,xs:=xs++xs2 }) ⟨rfl,rfl⟩ (λb hb'=>?_) (λb hb' hno=>?_) k2.size ⟨k2.os,k2.tape,k2.output,k2.size,λk hk=>k2.block k (Wf.lt cx hw hk) ?_⟩ (λc' hcw hrdm=>?_) k4⟩
       ·have:=iF hw ht' htk ((aO.1 hn').trans hn.symm);subst this;exact⟨_,hc⟩
       ·exact⟨tk,htk,by rw[aO.1 hn'];exact hn⟩
       ·rcases k3 b (hvb' b hb')with hg | hg
        ·exact .inl ⟨tk,htk,by simp[hn],(hblk b).1 hg⟩
        ·exact .inr ⟨hg,(World.ownsRow.lt k1 b (hvb' b hb')).2⟩
       ·exact k2.block b hb' (λhg=>hno tk htk (by simp[hn]) ((hblk b).1 hg.symm))
       ·intro hg;exact hk (hw.bound tk htk k (aA.2 (.inl ((hblk k).1 hg.symm)))).1
       ·subst hcw;unfold TokRep;simp only[dF,if_false];refine⟨hvb2,trivial,us1++us2,n1+n2,?_,?_,λj l v g1 g2=>?_⟩
        ·simp only[aW];exact k1
        ·rw[bE,aW,aW,l1,l2]
        ·rw[bE]at g1;refine RepL_mono cx (λb hb=>(hrdm b hb).2) (λb hb=>(hrdm b hb).1) _ _ _ ?_;by_cases hj:j < us1.length
         ·rw[bM (by rw[<-l1];exact hj)]at g1;rw[bM hj]at g2;exact RepL_up n2 (hr1 j l v g1 g2)
         ·rw[bJ (by rw[<-l1];omega),<-l1]at g1;rw[bJ (by omega)]at g2;rw[fX n1 n2];exact RepL_up n1 (hr2 _ l v g1 g2)
     ·simp at h
    ·simp at h
   ·simp at h
  ·simp at h
 ·simp at h
def aKA {ty:Nat->Type}(a b:V ty):Bool:=match a,b with
 | .inl (.inl (some (.inr s))),.inl (.inl (some (.inr s2)))=>s.own == 1&&s.o&&(s2.own == 1&&s2.o)
 | _,_=>false
end
section
variable {cx : Cx} {P : Program}
def zX (P:Program)(cx:Cx)(slots:List (V cx.ty))(t:TypeId)(len:Nat)(parts:List (Nat×Operand)):Option (Nat×List (L cx.ty)×List Nat):=
 match eU P t with
 | some e=>if tY P cx e&&decide (len * cx.size e<=1000000)&&decide (len<=1000000)then
   match P.info? e with
   | some i=>match i.zero with
    | some z=>match xF (λj=>some (j * cx.size e,cx.size e)) (aFp (if len * cx.size e=0 then #[]else z.cells) (len * cx.size e)) (parts.map λ(j,x)=>(j,dU slots x))with
     | some cells=>match aAB (aVA P e len) cells with
      | some (cs,gs)=>if qS gs then some (e,cs,gs)else none
      | none=>none
     | none=>none
    | none=>none
   | none=>none
  else none
 | none=>none
def tV {β:Type}(P:Program)(cx:Cx)(slots:List (V cx.ty))(t:TypeId)(len:Nat)(parts:List (Nat×Operand))(nm0:Nat)(k:Eff cx.ty->Option β):Option β:=
 match zX P cx slots t len parts with
 | some (e,cs,gs)=>match aC5 cx e len cs with
  | some xs=>k { v:=vs { own:=1,nm:=nm0,e:=e,o:=true,xs:=xs },dead:=gs,frz:=[],live:=gs,read:=[] }
  | none=>none
 | none=>none
theorem aBu (ok:cx.Ok){β:Type}{o:Oper}{slots:List (V cx.ty)}{nm0:Nat}{t:TypeId}{len:Nat}{parts:Array (Nat×Operand)}(ho:o.op=.buildSlice t len parts){k:Eff cx.ty->Option β}{r:β}
  (h:tV P cx slots t len parts.toList nm0 k=some r):∃ ef,k ef=some r/\EffOK P cx o slots nm0 ef:=by
 unfold tV at h;split at h
 ·rename_i e cs gs hoc;split at h
  ·rename_i xs hxs;unfold zX at hoc;split at hoc
   ·rename_i e' he;split at hoc
    ·rename_i hc;simp only[aJ,decide_eq_true_eq]at hc;obtain⟨⟨hel,hlen⟩,hlen2⟩:=hc;obtain⟨⟨d,hd⟩,hcs⟩:=mB hel;split at hoc
     ·rename_i i hi;split at hoc
      ·rename_i z hz;split at hoc
       ·rename_i cells hcells;split at hoc
        ·rename_i cs' gs' hinto;split at hoc
         ·rename_i hgs;simp only[aB,aY]at hoc;obtain⟨rfl,rfl,rfl⟩:=hoc;refine⟨_,h,⟨λc ρ hw hop hlive _ hf=>?_⟩⟩;obtain⟨us',h1,h2⟩:=oT (c:=c) (parts.toList.map λp=>(p.1,dU slots p.2)) (parts.toList.map λp=>(p.1,ρ p.2)) (aFp (if len * cx.size e'=0 then #[]else z.cells) (len * cx.size e')) ((Array.range (len * cx.size e')).map ((if len * cx.size e'=0 then #[]else z.cells)[· % (if len * cx.size e'=0 then #[]else z.cells).size]!)) cells (aAg _) (by simp) (λj p q e1 e2=>by
           simp only[aX]at e1 e2;cases hx:parts.toList[j]? with
           | none=>simp[hx]at e1
           | some x=>
            simp only[hx,aD,aB]at e1 e2;subst e1;subst e2;refine⟨rfl,hop x.2 ?_⟩;simp only[ho,Op.operands,kF,aM];exact⟨x,bC hx,rfl⟩) hcells
          obtain⟨hwk,hcl,m,fpl,hfl,hown,tks,hg1,hg2,hg3⟩:=aAA hw _ _ _ _ us'.toList hinto h2 hlive;obtain⟨hxl,hxe⟩:=oX ok true len cs' xs hxs;rw[hwk]at hxe;have hflen:=eX (cx.enc e' true) (cx.size e') (λx=>ok.len e' true x) xs;have hclen:cells.length=len * cx.size e':=by rw[<-hcl,hxe,hflen,hxl]
          have hsize:us'.size=len * cx.size e':=by
           have:=h2.1;simp at this;omega
          have hrun:(execOp ρ o).run P c.w=.ok (.value (.slice (some ⟨c.w.heap.size,0,none⟩) len len)) (c.w.alloc (.cells us' e')):=by
           have hso:(sizeOf e').run P c.w=.ok (cx.size e') c.w:=by rw[eD hd,hcs]
           have hn24:¬ (2 ^ 24 < len * cx.size e'):=by omega
           have h1':Instr.fill (λj=>some (j * cx.size e',cx.size e')) ((Array.range (len * cx.size e')).map ((if len * cx.size e'=0 then #[]else z.cells)[· % (if len * cx.size e'=0 then #[]else z.cells).size]!)) (parts.map λp=>(p.1,ρ p.2)).toList=some us':=by simpa using h1
           have hz':(zeroValue e').run P c.w=.ok z c.w:=by simp[zeroValue,typeInfo,hi,hz]
           have hbuild:(Instr.buildSlice t len (parts.map λp=>(p.1,ρ p.2))).run P c.w=.ok (.slice (some ⟨c.w.heap.size,0,none⟩) len len) (c.w.alloc (.cells us' e')):=by
            unfold Instr.buildSlice;rw[Sem.run_bind,run_underlying (fS he),Result.andThen_ok];dsimp only;rw[Sem.run_bind,hso,Result.andThen_ok];by_cases hz0:len * cx.size e'=0
            ·simp only[hz0,if_true]at h1' ⊢;simp at h1';simp[h1',newRow]
            ·simp only[hz0,if_false]at h1' ⊢;simp at h1';simp[hn24,hz',h1',newRow]
           unfold execOp;simp only[ho,Sem.run_bind];rw[hbuild]
           rfl
          unfold Runs;rw[hrun];have hgn:gs'.Nodup:=kL gs' hgs;have hfnd:(List.flatten fpl).Nodup:=by
           rw[hg3];exact jN hw.nodup hw.names tks (by rw[hg1];exact hgn) (λtk ht=>(hg2 tk ht).1)
          have hfb:∀ b∈List.flatten fpl,∃ tk∈c.T,tk.nm∈gs'/\b∈cS tk:=λb hb=>by
           rw[hg3]at hb;obtain⟨tk,k1,k2⟩:=bB.1 hb;exact⟨tk,(hg2 tk k1).1,by rw[<-hg1];exact aM.2 ⟨tk,k1,rfl⟩,k2⟩
          have hflt:∀ b∈List.flatten fpl,b < c.w.heap.size:=λb hb=>by
           obtain⟨tk,k1,_,k3⟩:=hfb b hb;exact(hw.bound tk k1 b k3).2
          have hbel:=kQ c.w (.cells us' e')
          generalize hu':Value.slice (some ⟨c.w.heap.size,0,none⟩) len len=u'
          have hvb:vb u'=[c.w.heap.size]:=by rw[<-hu'];rfl
          refine⟨_,aB0 hw hf (λtk' ht' hn'=>?_) (λn hn'=>?_) (s':={ own:=1,nm:=nm0,e:=e',o:=true,xs:=xs }) (fp':=List.flatten fpl) ⟨rfl,rfl⟩ (λb hb'=>?_) (λb hb'=>?_) ?_ (λb hb' _=>hbel.block b hb') hbel.size (gF hbel hw.size) (λc' hcw=>?_) ⟨_,_,_,hu'.symm⟩⟩
          ·rw[<-hg1]at hn';obtain⟨t2,k1,k2⟩:=aM.1 hn';have:=iF hw ht' (hg2 t2 k1).1 k2.symm;subst this;exact(hg2 _ k1).2
          ·rw[<-hg1]at hn';obtain⟨t2,k1,k2⟩:=aM.1 hn';exact⟨t2,(hg2 t2 k1).1,k2⟩
          ·rcases aA.1 hb' with h3 | h3
           ·rw[hvb]at h3;simp only[aO]at h3;subst h3;exact .inr ⟨aK _,by simp⟩
           ·exact .inl (hfb b h3)
          ·rw[hvb]at hb';simp only[aO]at hb';subst hb';exact .inr (aK _)
          ·rw[hvb,aH];refine⟨by simp,hfnd,λa ha b hb' he2=>?_⟩;subst he2;simp only[aO]at ha;subst ha;exact Nat.lt_irrefl _ (hflt _ hb')
          ·unfold TokRep;simp only[if_true];rw[hcw];refine⟨by rw[<-hu'];rfl,m+1,us'.toList,fpl,?_,?_,?_,?_,λj l v f g1 g2 g3=>?_⟩
           ·show World.ownsRow _ 0 e' (cx.size e') u' xs.length us'.toList;rw[hxl,<-hu'];refine⟨by simp[hsize],.inr ⟨c.w.heap.size,len,us',rfl,bX _,heap_alloc_new c.w _,aK _,by simp[maxLen];omega,hsize,?_⟩⟩;rw[cT];simp[hsize]
           ·rw[<-hu'];rfl
           ·rw[<-hxe,hcl,h2.1]
           ·rw[hfl,h2.1]
           ·have g1:(xs.flatMap (cx.enc e' true))[j]?=some l:=g1;rw[<-hxe]at g1;refine OwnL_mono cx _ _ _ _ (λb hb'=>hbel.block b (hflt b (dI.2 ⟨f,bC g3,hb'⟩))) (hown j l v f g1 g2 g3)
         ·simp at hoc
        ·simp at hoc
       ·simp at hoc
      ·simp at hoc
     ·simp at hoc
    ·simp at hoc
   ·simp at hoc
  ·simp at h
 ·simp at h
def tW {β:Type}(P:Program)(cx:Cx)(slots:List (V cx.ty))(t:TypeId)(len:Nat)(parts:List (Nat×Operand))(nm0:Nat)(k:Eff cx.ty->Option β):Option β:=
 match eU P t with
 | some e=>if cx.flat e then pM P cx slots t len parts nm0 k else
   if(zX P cx slots t len parts).isSome then tV P cx slots t len parts nm0 k else rH P cx slots t len parts nm0 k
 | none=>none
theorem aBv (ok:cx.Ok)(hZ:cx.POk P){β:Type}{o:Oper}{slots:List (V cx.ty)}{nm0:Nat}{t:TypeId}{len:Nat}{parts:Array (Nat×Operand)}(ho:o.op=.buildSlice t len parts){k:Eff cx.ty->Option β}{r:β}
  (h:tW P cx slots t len parts.toList nm0 k=some r):∃ ef,k ef=some r/\EffOK P cx o slots nm0 ef:=by
 unfold tW at h;split at h
 ·split at h
  ·exact xT ok hZ ho h
  ·split at h
   ·exact aBu ok ho h
   ·exact aAR ok ho h
 ·simp at h
def rJ {β:Type}(P:Program)(cx:Cx)(slots:List (V cx.ty))(t:TypeId)(x y:Operand)(nm0:Nat)(k:Eff cx.ty->Option β):Option β:=
 match eU P t with
 | some e=>if cx.flat e then aAV P cx slots t x y nm0 k else if aKA (dU slots x) (dU slots y)then rI P cx slots t x y nm0 k else tX P cx slots t x y nm0 k
 | none=>none
theorem aAU (ok:cx.Ok)(hZ:cx.POk P){β:Type}{o:Oper}{slots:List (V cx.ty)}{nm0:Nat}{t:TypeId}{x y:Operand}(ho:o.op=.call { callee:=.builtin .append,args:=#[x,y],argTypes:=#[t,t] }){k:Eff cx.ty->Option β}{r:β}
  (h:rJ P cx slots t x y nm0 k=some r):∃ ef,k ef=some r/\EffOK P cx o slots nm0 ef:=by
 unfold rJ at h;split at h
 ·split at h
  ·exact aEd ok hZ ho h
  ·split at h
   ·exact aAT ok ho h
   ·exact aBw ok ho h
 ·simp at h
end
section
variable {cx : Cx} {P : Program}
def aCL {β:Type}(P:Program)(cx:Cx)(slots:List (V cx.ty))(t:TypeId)(x hi:Operand)(nm0:Nat)(k:Eff cx.ty->Option β):Option β:=none
theorem aEX (ok:cx.Ok){β:Type}{o:Oper}{slots:List (V cx.ty)}{nm0:Nat}{t:TypeId}{x hi:Operand}(ho:o.op=.slice t x none (some hi) none){k:Eff cx.ty->Option β}{r:β}
  (h:aCL P cx slots t x hi nm0 k=some r):∃ ef,k ef=some r/\EffOK P cx o slots nm0 ef:=by
 unfold aCL at h;cases h
def yV {ty:Nat->Type}(slots:List (V ty))(o:Oper)(rest:List Oper):Option (TypeId×Operand×Operand):=
 match o.guard,o.op,o.dst,rest with
 | none,.slice t x none (some hi) none,some d,o2::_=>
  match o2.op,o2.dst with
  | .assign (.tmp d'),some v=>if d'=d then
    match dU slots x,dU slots (.tmp v)with
    | .inl (.inl (some (.inr s))),.inl (.inl (some (.inr s2)))=>if s.own == 1&&s2.own == 1&&s.o&&s.nm == s2.nm then some (t,x,hi)else none
    | _,_=>none
   else none
  | _,_=>none
 | _,_,_,_=>none
theorem aEz {ty:Nat->Type}{slots:List (V ty)}{o:Oper}{rest:List Oper}{t:TypeId}{x hi:Operand}(h:yV slots o rest=some (t,x,hi)):o.guard=none/\o.op=.slice t x none (some hi) none:=by
 unfold yV at h;split at h
 ·rename_i hg hop hd;split at h
  ·split at h
   ·split at h
    ·split at h
     ·simp only[aB,aY]at h;obtain⟨rfl,rfl,rfl⟩:=h;exact⟨hg,hop⟩
     ·simp at h
    ·simp at h
   ·simp at h
  ·simp at h
 ·simp at h
end
section
variable {cx : Cx} {P : Program}
def qU {ty:Nat->Type}(kk:IntKind):List (L ty)->Option (List Int)
 | []=>some []
 | some (.inl (.int k a))::r=>if k=kk then(match qU kk r with
   | some xs=>some (a::xs)
   | none=>none)else none
 | _=>none
theorem uU {c:Ct cx.ty}{kk:IntKind}:∀ (l:List (L cx.ty)) (us:List Value) (xs:List Int),RepLs cx c l us->qU kk l=some xs->us=xs.map (λa=>.int kk a)
 | [],us,xs,h,hx=>by
  simp only[qU,aB]at hx;subst hx;exact cQ h.1
 | a::r,us,xs,h,hx=>by
  unfold qU at hx;split at hx
  ·rename_i heq;cases heq
  ·rename_i k a' r' heq;simp only[rR]at heq;obtain⟨rfl,rfl⟩:=heq;split at hx
   ·rename_i hk;subst hk;split at hx
    ·rename_i ys hy;simp only[aB]at hx;subst hx
     match us,h with
     | [],h=>simp[RepLs]at h
     | u::us,h=>
      have e1:u=.int k a':=h.2 0 _ u rfl rfl;have e2:=uU r us ys ⟨by have:=h.1;simpa using this,λj a b h1 h2=>h.2 (j+1) a b (by simpa using h1) (by simpa using h2)⟩ hy;rw[e1,e2];rfl
    ·simp at hx
   ·simp at hx
  ·simp at hx
def aMV {ty:Nat->Type}:List (L ty)->Option IntKind
 | some (.inl (.int k _))::_=>some k
 | _=>none
def tB (P:Program)(t:TypeId):Option (Nat×TypeId):=
 match P.underlying t with
 | some (.array n e)=>some (n,e)
 | _=>none
def aAM {β:Type}(P:Program)(e:TypeId)(n:Nat)(l:List (L cx.ty))(i:Int)(k:Eff cx.ty->Option β):Option β:=
 if n == l.length&&(P.underlying e).isSome&&!nT P e&&P.cellsOf e == 1 then
  match l[i.toNat]? with
  | some y=>bif decide (0<=i)&&decide (i < n)then k (fY (.inl (.inl y)) [])else none
  | none=>none
 else none
theorem aD8 {β:Type}{o:Oper}{slots:List (V cx.ty)}{nm0:Nat}{t e:TypeId}{n:Nat}{x ix:Operand}{l:List (L cx.ty)}{ki:IntKind}{i:Int}(ho:o.op=.index t x ix)(hx:dU slots x=.inl (.inr l))(hix:dU slots ix=.inl (.inl (some (.inl (.int ki i)))))(ha:P.underlying t=some (.array n e)){k:Eff cx.ty->Option β}{r:β}
  (h:aAM P e n l i k=some r):∃ ef,k ef=some r/\EffOK P cx o slots nm0 ef:=by
 unfold aAM at h;split at h
 ·rename_i hc;simp only[aJ,beq_iff_eq,dC]at hc;obtain⟨⟨⟨hn,hu⟩,hag⟩,hsz⟩:=hc;split at h
  ·rename_i y hy;cases hb:(decide (0<=i)&&decide (i < n))with
   | false=>rw[hb]at h;simp at h
   | true=>
    rw[hb]at h;simp only[aJ,decide_eq_true_eq]at hb;refine⟨_,h,eC λc ρ hw hop _=>?_⟩;have hr:=hop x (by simp[ho,Op.operands]);rw[hx]at hr;obtain⟨us,hus,hr⟩:=hr;have hri:=hop ix (by simp[ho,Op.operands]);rw[hix]at hri;have hri:ρ ix=.int ki i:=hri;obtain⟨d,hd⟩:=cH.1 hu;have hl:us.length=l.length:=hr.1;have hit:i.toNat < us.length:=by rw[hl];exact(aI.1 hy).1
    have hcell:=aC hit;refine⟨us[i.toNat],?_,hr.2 i.toNat y _ hy hcell⟩;have hlt:0<=i/\i < (n:Int):=hb;unfold execOp;simp only[ho,Instr.index,hri,hus,asIntOf,Sem.run_bind,Sem.run_pure,Result.andThen_ok,run_underlying ha,if_pos hlt,eD hd,hsz,fE,part,oN hd,hag,dF,if_false,rQ,hcell]
  ·simp at h
 ·simp at h
def aCQ {β:Type}(P:Program)(o:Oper)(slots:List (V cx.ty))(t:TypeId)(x ix:Operand)(k:Eff cx.ty->Option β):Option β:=
 match dU slots x,dU slots ix,tB P t with
 | .inl (.inr l),.inl (.inl (some (.inl (.int _ i)))),some (n,e)=>
  match aMV l with
  | some kk=>match qU kk l with
   | some xs=>if n == l.length&&(P.underlying e).isSome&&!nT P e&&P.cellsOf e == 1 then
     bif decide (0<=i)&&decide (i < xs.length)then k (fY (vv (.int kk (xs.getD i.toNat 0))) [])else none
    else none
   | none=>none
  | none=>aAM P e n l i k
 | _,_,_=>pY P o slots k
theorem aE4 {β:Type}{o:Oper}{slots:List (V cx.ty)}{nm0:Nat}{t:TypeId}{x ix:Operand}(ho:o.op=.index t x ix){k:Eff cx.ty->Option β}{r:β}
  (h:aCQ P o slots t x ix k=some r):∃ ef,k ef=some r/\EffOK P cx o slots nm0 ef:=by
 unfold aCQ at h;split at h
 ·rename_i l ki i n e hx hix ha;split at h
  ·rename_i kk hkk;split at h
   ·rename_i xs hxs;split at h
    ·rename_i hc;simp only[aJ,beq_iff_eq,dC]at hc;obtain⟨⟨⟨hn,hu⟩,hag⟩,hsz⟩:=hc;cases hb:(decide (0<=i)&&decide (i < xs.length))with
     | false=>rw[hb]at h;simp at h
     | true=>
      rw[hb]at h;simp only[aJ,decide_eq_true_eq]at hb;refine⟨_,h,eC λc ρ hw hop _=>?_⟩;have hr:=hop x (by simp[ho,Op.operands]);rw[hx]at hr;obtain⟨us,hus,hr⟩:=hr;have hri:=hop ix (by simp[ho,Op.operands]);rw[hix]at hri;have hri:ρ ix=.int ki i:=hri;have he:=uU l us xs hr hxs;obtain⟨d,hd⟩:=cH.1 hu;unfold tB at ha;split at ha
      ·rename_i n' e' hund;simp only[aB,aY]at ha;obtain⟨rfl,rfl⟩:=ha;have hl:us.length=l.length:=hr.1;have hxl:xs.length=l.length:=by rw[<-hl,he,dK]
       have hit:i.toNat < xs.length:=by omega
       have hcell:us[i.toNat]?=some (.int kk (xs.getD i.toNat 0)):=by
        rw[he,aX,aC hit];simp[List.getD,aC hit]
       refine⟨.int kk (xs.getD i.toNat 0),?_,rfl⟩;have hlt:0<=i/\i < (n':Int):=⟨hb.1,by omega⟩
       unfold execOp;simp only[ho,Instr.index,hri,hus,asIntOf,Sem.run_bind,Sem.run_pure,Result.andThen_ok,run_underlying hund,if_pos hlt,eD hd,hsz,fE,part,oN hd,hag,dF,if_false,rQ,hcell]
      ·simp at ha
    ·simp at h
   ·simp at h
  ·unfold tB at ha;split at ha
   ·rename_i n' e' hund;simp only[aB,aY]at ha;obtain⟨rfl,rfl⟩:=ha;exact aD8 ho hx hix hund h
   ·simp at ha
 ·exact kC h
def aAS {β:Type}(P:Program)(slots:List (V cx.ty))(t:TypeId)(parts:List (Nat×Operand))(k:Eff cx.ty->Option β):Option β:=
 match tB P t,P.info? t with
 | some (_,e),some i=>match i.zero with
  | some z=>if(P.underlying e).isSome then(match xF (λj=>some (j * P.cellsOf e,P.cellsOf e)) (z.cells.toList.map lv) (parts.map λ(j,x)=>(j,dU slots x))with
   | some cells=>k (fY (va cells) [])
   | none=>none)else none
  | none=>none
 | _,_=>aC2 P slots t parts k
theorem aEG {t e:TypeId}{n:Nat}(hfa:P.underlying t=some (.array n e)){d:TypeDesc}(hd:P.underlying e=some d){i:TypeInfo}{z:Value}(hi:P.info? t=some i)(hz:i.zero=some z){parts:Array (Nat×Value)}{us':Array Value}
  (hfill:Instr.fill (λj=>some (j * P.cellsOf e,P.cellsOf e)) z.cells parts.toList=some us') (w:World):(Instr.build t parts).run P w=.ok (.agg us') w:=by
 have hz':(zeroValue t).run P w=.ok z w:=by simp[zeroValue,typeInfo,hi,hz]
 unfold Instr.build;rw[Sem.run_bind,hz',Result.andThen_ok,Sem.run_bind,run_underlying hfa,Result.andThen_ok];dsimp only;rw[Sem.run_bind,eD hd,Result.andThen_ok,hfill]
 rfl
theorem aEb {β:Type}{o:Oper}{slots:List (V cx.ty)}{nm0:Nat}{t:TypeId}{parts:Array (Nat×Operand)}(ho:o.op=.build t parts){k:Eff cx.ty->Option β}{r:β}
  (h:aAS P slots t parts.toList k=some r):∃ ef,k ef=some r/\EffOK P cx o slots nm0 ef:=by
 unfold aAS at h;split at h
 ·rename_i n e i hfs hi;split at h
  ·rename_i z hz;split at h
   ·rename_i he;split at h
    ·rename_i cells hf;obtain⟨d,hd⟩:=cH.1 he;unfold tB at hfs;split at hfs
     ·rename_i n' e' hund;simp only[aB,aY]at hfs;obtain⟨rfl,rfl⟩:=hfs;refine⟨_,h,eC λc ρ hw hop _=>?_⟩;obtain⟨us',h1,h2⟩:=oT (parts.toList.map λp=>(p.1,dU slots p.2)) (parts.toList.map λp=>(p.1,ρ p.2)) (z.cells.toList.map lv) z.cells cells (aAg _) (by simp) (λj p q e1 e2=>by
       simp only[aX]at e1 e2;cases hx:parts.toList[j]? with
       | none=>simp[hx]at e1
       | some x=>
        simp only[hx,aD,aB]at e1 e2;subst e1;subst e2;refine⟨rfl,hop x.2 ?_⟩;simp only[ho,Op.operands,kF,aM];exact⟨x,bC hx,rfl⟩) hf
      refine⟨.agg us',?_,us'.toList,by simp,h2⟩;have hbuild:=aEG hund hd hi hz (parts:=parts.map λp=>(p.1,ρ p.2)) (us':=us') (by simpa using h1) c.w;unfold execOp;simp only[ho,Sem.run_bind];rw[hbuild]
      rfl
     ·simp at hfs
    ·simp at h
   ·simp at h
  ·simp at h
 ·exact aFg ho h
def aID {β:Type}(P:Program)(o:Oper)(slots:List (V cx.ty))(x:Operand)(k:Eff cx.ty->Option β):Option β:=
 match dU slots x with
 | .inr (.inr p)=>if p.kind == 0&&p.i == 0 then k (fY (.inr (.inr p)) [])else if p.kind == 2&&p.nm == 0 then k (fY (.inr (.inr p)) [])else none
 | _=>pY P o slots k
theorem aIC {β:Type}{o:Oper}{slots:List (V cx.ty)}{nm0:Nat}{x:Operand}(ho:o.op=.nilCheck x){k:Eff cx.ty->Option β}{r:β}
  (h:aID P o slots x k=some r):∃ ef,k ef=some r/\EffOK P cx o slots nm0 ef:=by
 unfold aID at h;split at h
 ·rename_i p hx;split at h
  ·rename_i hk;simp only[aJ,beq_iff_eq]at hk;obtain⟨hk,hi0⟩:=hk;refine⟨_,h,eC λc ρ hw hop _=>?_⟩;have hr:=hop x (by simp[ho,Op.operands]);rw[hx]at hr;refine⟨ρ x,?_,hr⟩;have hr:RepP cx c p (ρ x):=hr;unfold RepP at hr;simp only[hk,hi0]at hr;obtain⟨tk,_,_,_,g,_,hu⟩:=hr;have hu:ρ x=.pointer (some ⟨g,p.off,none⟩):=hu;unfold execOp;simp[ho,hu]
  ·split at h
   ·rename_i hk;have hk:p.kind=2/\p.nm=0:=by simpa using hk
    obtain⟨hk,hnm⟩:=hk;refine⟨_,h,eC λc ρ hw hop _=>?_⟩;have hr:=hop x (by simp[ho,Op.operands]);rw[hx]at hr;refine⟨ρ x,?_,hr⟩;have hr:RepP cx c p (ρ x):=hr;unfold RepP at hr;simp only[hk]at hr;obtain⟨b,o2,hu,_⟩:=hr;rw[hnm]at hu;have hu:ρ x=.pointer (some ⟨b,o2+p.off,none⟩):=hu;unfold execOp;simp[ho,hu]
   ·simp at h
 ·exact kC h
def aIH {β:Type}(P:Program)(o:Oper)(slots:List (V cx.ty))(op:BinOp)(t:TypeId)(x y:Operand)(k:Eff cx.ty->Option β):Option β:=pY P o slots k
theorem aD9 {β:Type}{o:Oper}{slots:List (V cx.ty)}{nm0:Nat}{op:BinOp}{t yt:TypeId}{x y:Operand}(ho:o.op=.binOp op t x y yt){k:Eff cx.ty->Option β}{r:β}
  (h:aIH P o slots op t x y k=some r):∃ ef,k ef=some r/\EffOK P cx o slots nm0 ef:=kC h
end
section
variable {cx : Cx} {P : Program}
def aNT {ty:Nat->Type}:L ty->Bool
 | some (.inl v)=>oB (some (.inl v):L ty)
 | some (.inr s)=>s.own == 0
 | none=>false
def bnL {ty:Nat->Type}:L ty->List Nat
 | some (.inr s)=>if s.own == 1 then[s.nm]else[]
 | _=>[]
def bnV {ty:Nat->Type}:V ty->List Nat
 | .inl (.inl l)=>bnL l
 | .inl (.inr l)=>l.flatMap bnL
 | _=>[]
theorem vK {c:Ct cx.ty}{l:L cx.ty}{u:Value}(h:RepLS cx c l u){n:Nat}(hn:n∈bnL l)(hd:n∉c.D):n∈c.F\/∃ tk∈c.T,tk.nm=n/\∃ s,tk.c=.inl s:=by
 unfold bnL at hn;split at hn
 ·rename_i s;split at hn
  ·rename_i h1;have h1:s.own=1:=by simpa using h1
   simp only[aO]at hn;subst hn;unfold RepLS at h;simp only[h1,if_true,hd,if_false]at h;obtain⟨_,h⟩:=h;by_cases h3:s.nm∈c.F
   ·exact .inl h3
   ·simp only[h3,if_false]at h;obtain⟨tk,k1,k2,k3,_⟩:=h;exact .inr ⟨tk,k1,k2,s,k3⟩
  ·simp at hn
 ·simp at hn
theorem aI2 {c:Ct cx.ty}{v:V cx.ty}{u:Value}(h:RepV cx c v u){n:Nat}(hn:n∈bnV v)(hd:n∉c.D):n∈c.F\/∃ tk∈c.T,tk.nm=n/\∃ s,tk.c=.inl s:=by
 match v,h,hn with
 | .inl (.inl l),h,hn=>exact vK (l:=l) h hn hd
 | .inl (.inr l),⟨us,_,h⟩,hn=>
  obtain⟨a,ha,hn⟩:=bB.1 hn;obtain⟨j,hj⟩:=dW ha;have hjl:j < us.length:=by rw[h.1];exact(aI.1 hj).1
  exact vK (h.2 j a _ hj (aC hjl)) hn hd
 | .inr (.inl _),_,hn=>simp[bnV]at hn
 | .inr (.inr _),_,hn=>simp[bnV]at hn
theorem aHW {w:World}{S:Nat->Prop}{n:Nat}{s:SlD cx.ty}{u:Value}(h:RepL cx w S n (some (.inr s)) u):RepL cx w S n (some (.inr (ro s.e s.xs))) u:=by
 cases n with
 | zero=>simp[RepL]at h
 | succ n=>exact h
theorem ResL.world {w w1:World}{S:Nat->Prop}{l:L cx.ty}{u:Value}{f:List Nat}(hS:∀ b,S b->w1.heap[b]?=w.heap[b]?)(hf:∀ b∈f,w1.heap[b]?=w.heap[b]?)(h:ResL cx w S l u f):ResL cx w1 S l u f:=by
 match l,h with
 | some (.inl v),h=>exact h
 | some (.inr s),h=>
  unfold ResL at h ⊢;by_cases h2:s.own=2
  ·simp only[h2,if_true]at h ⊢;obtain⟨ho,n,h⟩:=h;exact⟨ho,n,OwnL_mono cx n _ _ _ hf h⟩
  by_cases h4:s.own=4
  ·simp only[h4,show ¬ (4:Nat)=2 by decide,if_false,if_true]at h ⊢;exact⟨h.1,h.2.mono hS hf (λ_ h=>h)⟩
  ·simp only[h2,h4,if_false]at h ⊢;obtain⟨h0,hf0,n,h⟩:=h;exact⟨h0,hf0,n,RepL_mono cx hS (λ_ h=>h) n _ u h⟩
theorem ResA.world {w w1:World}{S:Nat->Prop}{a:A cx.ty}{u:Value}{f:List Nat}(hS:∀ b,S b->w1.heap[b]?=w.heap[b]?)(hf:∀ b∈f,w1.heap[b]?=w.heap[b]?)(h:ResA cx w S a u f):ResA cx w1 S a u f:=by
 match a,h with
 | .inl l,h=>exact ResL.world hS hf h
 | .inr l,⟨us,fps,hu,hfp,h1,h2,h⟩=>
  exact⟨us,fps,hu,hfp,h1,h2,λj a v g e1 e2 e3=>ResL.world hS (λb hb=>hf b (by rw[hfp];exact dI.2 ⟨g,bC e3,hb⟩)) (h j a v g e1 e2 e3)⟩
theorem ResV.world {w w1:World}{A0 NN:Nat->Prop}{l:List (A cx.ty)}{u:Value}(hsz:w1.heap.size=w.heap.size)(hS:∀ b,A0 b->w1.heap[b]?=w.heap[b]?)(hN:∀ b,NN b->w1.heap[b]?=w.heap[b]?)(h:ResV cx w A0 NN (.inr (.inl l)) u):ResV cx w1 A0 NN (.inr (.inl l)) u:=by
 obtain⟨fp,h1,h2,us,fps,hu,hfp,g1,g2,h⟩:=h;refine⟨fp,h1,λb hb=>⟨(h2 b hb).1,by rw[hsz];exact(h2 b hb).2⟩,us,fps,hu,hfp,g1,g2,λj a v g e1 e2 e3=>?_⟩;have h3:=h j a v g e1 e2 e3;rw[hsz];refine ResA.world (λb hb=>?_) (λb hb=>?_) h3
 ·rcases hb with hb | hb
  ·exact hS b hb
  ·exact hN b hb.1
 ·exact hN b (h2 b (by rw[hfp];exact dI.2 ⟨g,bC e3,hb⟩)).1
theorem aNV {st:St cx.ty}{c:Ct cx.ty}{act:Act}(h:RS cx c st act){tk:Tk cx.ty}(ht:tk∈c.T){nm:Nat}(hn:tk.nm=nm){cells l:List (L cx.ty)}(hcc:tk.c=.inr cells){g:Nat}(hu:tk.u=.pointer (some ⟨g,0,none⟩))(hfp:tk.fp=[]){cur':Array Value}{e:TypeId}
  {w2:World} (hheap:∀ k,k≠g->w2.heap[k]?=c.w.heap[k]?) (hsame:w2.heap.size=c.w.heap.size) (hh:w2.heap[g]?=some (.cells cur' e (0,0))) (hl:RepLs cx c l cur'.toList) :
  ∃ T',RS cx { c with T:=T',w:=w2 } { st with slots:=st.slots.map (vP nm l),pend:=none } act:=by
 have hg:g∈vb tk.u:=by rw[hu];simp[vb]
 have hgb:=h.wf.bound tk ht g (aA.2 (.inl hg))
 let up:Tk cx.ty->Tk cx.ty:=λt2=>if t2.nm=nm then{ t2 with c:=.inr l }else t2
 have upnm:∀ t2,(up t2).nm=t2.nm:=λt2=>by simp only[up];split<;>rfl
 have upu:∀ t2,(up t2).u=t2.u:=λt2=>by simp only[up];split<;>rfl
 have upfp:∀ t2,(up t2).fp=t2.fp:=λt2=>by simp only[up];split<;>rfl
 have huniq:∀ t2∈c.T,t2.nm=nm->t2=tk:=λt2 ht2 hn2=>iF h.wf ht2 ht (by rw[hn2,hn])
 have hib:∀ t2∈c.T,t2.nm=nm->∃ l,t2.c=.inr l:=λt2 ht2 hn2=>by rw[huniq t2 ht2 hn2];exact⟨_,hcc⟩
 have hP:PresX (λn=>n=nm) c { c with T:=c.T.map up,w:=w2 }:=by
  refine⟨λb hb=>?_,rfl,rfl,λt2 ht2 hX s hs=>?_,λt2 ht2 hX l' hl'=>?_⟩
  ·have hbg:b≠g:=λe=>hb.2.2 tk ht (e▸hg)
   refine⟨⟨dY hb.1 hsame.symm,hb.2.1,λt2 ht2=>?_⟩,hheap b hbg⟩;obtain⟨t3,h3,rfl⟩:=aM.1 ht2;rw[upu];exact hb.2.2 t3 h3
  ·exact aM.2 ⟨t2,ht2,by simp only[up];rw[if_neg hX]⟩
  ·exact⟨up t2,aM.2 ⟨t2,ht2,rfl⟩,upnm t2,upu t2,by simp only[up];rw[if_neg hX];exact hl'⟩
 refine⟨c.T.map up,⟨⟨?_,?_,?_,?_,h.wf.start,?_,?_⟩,by simp[h.size],λt2=>?_,h.defers,h.dead,h.frz,λn hn'=>?_,h.kp,h.pr.keep rfl rfl (λb hb=>(hP.rd b (h.wf.rdS hb)).2),PdOK.none⟩⟩
 ·show((c.T.map up).map (·.nm)).Nodup;rw[iI];have:((λt2:Tk cx.ty=>t2.nm)∘up)=λt2=>t2.nm:=funext upnm
  rw[this];exact h.wf.names
 ·show((c.T.map up).flatMap _).Nodup;rw[gR];have:(λt2=>vb (up t2).u++(up t2).fp)=λt2:Tk cx.ty=>vb t2.u++t2.fp:=funext λt2=>by rw[upu,upfp]
  rw[this];exact h.wf.nodup
 ·intro t2 ht2 b hb;obtain⟨t3,h3,rfl⟩:=aM.1 ht2;rw[upu,upfp]at hb;have:=h.wf.bound t3 h3 b hb;exact⟨this.1,dY this.2 hsame.symm⟩
 ·intro t2 ht2;obtain⟨t3,h3,rfl⟩:=aM.1 ht2;have hold:=h.wf.rep t3 h3;by_cases hn3:t3.nm=nm
  ·have e3:=huniq t3 h3 hn3;subst e3;unfold TokRep;simp only[up,hn3,if_true];exact⟨hfp,g,_,e,hu,hh,hl.1,λj a b e1 e2=>kK hP hib (hl.2 j a b e1 e2)⟩
  ·have hup:up t3=t3:=by simp only[up];rw[if_neg hn3]
   rw[hup];have hblk:∀ b∈vb t3.u++t3.fp,w2.heap[b]?=c.w.heap[b]?:=λb hb=>hheap b (λe=>dD h.wf h3 ht (λe2=>hn3 (by rw[e2,hn])) hb (by rw[e];exact aA.2 (.inl hg)))
   unfold TokRep at hold ⊢;split at hold
   ·rename_i s hs;obtain⟨hv,hold⟩:=hold;refine⟨hv,?_⟩;split at hold
    ·rename_i hso;rw[if_pos hso];obtain⟨n,hold⟩:=hold;exact⟨n,OwnL_mono cx n _ _ _ hblk hold⟩
    ·rename_i hso;rw[if_neg hso];obtain⟨hf,us,n,hrow,hl2,hr⟩:=hold;refine⟨hf,us,n,?_,hl2,λj l v h1 h2=>RepL_mono cx (λb hb=>(hP.rd b hb).2) (λb hb=>(hP.rd b hb).1) n l v (hr j l v h1 h2)⟩;obtain⟨hx,hcx⟩:=hrow;refine⟨hx,?_⟩;rcases hcx with hcx | ⟨g2,cap2,cur2,hv',hg2,hh2,hrest⟩
     ·exact .inl hcx
     ·refine .inr ⟨g2,cap2,cur2,hv',hg2,?_,hrest⟩;rw[hblk g2 (by rw[hv'];simp[vb])];exact hh2
   ·obtain⟨hf,g2,cur2,e2,hu2,hh2,hr⟩:=hold;refine⟨hf,g2,cur2,e2,hu2,?_,hr.1,λj a b e1 e2=>kK hP hib (hr.2 j a b e1 e2)⟩;rw[hblk g2 (by rw[hu2];simp[vb])];exact hh2
 ·intro t2 ht2;obtain⟨t3,h3,rfl⟩:=aM.1 ht2;rw[upnm];exact h.wf.live t3 h3
 ·exact λb hb=>h.wf.size b (dZ (nV hsame.symm) hb)
 ·have hbase:=aDu (cells:=l) hP (λt3 h3 hn3=>⟨up t3,aM.2 ⟨t3,h3,rfl⟩,by rw[upnm,hn3],upu t3,by simp only[up];rw[if_pos hn3]⟩) hib (h.rep t2);have:(st.slots.map (vP nm l)).getD t2 aN=vP nm l (st.slots.getD t2 aN):=by
   by_cases hlt:t2 < st.slots.length
   ·simp[List.getD,hlt]
   ·simp[List.getD,bQ (fC hlt),aN,vP]
  show RepV cx _ ((st.slots.map (vP nm l)).getD t2 aN) _;rw[this];exact hbase
 ·rcases hn' with⟨t2,ht2,rfl⟩ | hn' | hn'
  ·obtain⟨t3,h3,rfl⟩:=aM.1 ht2;rw[upnm];exact h.names _ (.inl ⟨t3,h3,rfl⟩)
  ·exact h.names _ (.inr (.inl hn'))
  ·exact h.names _ (.inr (.inr hn'))
def SatP (P:Program)(cx:Cx)(f:FuncId)(nres:Nat)(F:List (A cx.ty)->Option (Bool×List (A cx.ty))):Prop:=
 ∀ (w:World) (A0:Nat->Prop) (g:Nat) (cur:Array Value) (t:TypeId) (lc:List (L cx.ty)) (l:List (A cx.ty)) (us:List Value) (cs:List (A cx.ty)),(∀ b,A0 b->b < w.heap.size/\b≠g)->w.heap[g]?=some (.cells cur t (0,0))->
  ArgA cx w A0 (.inr lc) (.agg cur)->lc.all aNT=true->ArgAs cx w A0 l us->F (.inr lc::l)=some (true,cs)->
  Calls P f (.pointer (some ⟨g,0,none⟩)::us).toArray w (λe w'=>∃ (rs:List Value) (cur':Array Value),e=.returned (qN rs)/\rs.length=nres/\(∃ t',w'.heap[g]?=some (.cells cur' t' (0,0)))/\Kept (λb=>w.heap.size<=b\/b=g) w w' ∧
   ResV cx w' A0 (λb=>w.heap.size<=b) (.inr (.inl cs)) (.tuple (rs++[Value.agg cur']).toArray))
def SatN (P:Program)(cx:Cx)(f:FuncId)(F:List (A cx.ty)->Option (Bool×List (A cx.ty))):Prop:=
 ∀ (w:World) (A0:Nat->Prop) (l:List (A cx.ty)) (us:List Value) (lc:List (L cx.ty)),(∀ b,A0 b->b < w.heap.size)->ArgAs cx w A0 l us->F l=some (true,[.inr lc])->
  Calls P f us.toArray w (λe w'=>∃ (g:Nat) (cur:Array Value) (t:TypeId),e=.returned (.pointer (some ⟨g,0,none⟩))/\w.heap.size<=g/\w'.heap[g]?=some (.cells cur t (0,0))/\Below w.heap.size w w' ∧
   ArgA cx w' (λb=>A0 b\/(w.heap.size<=b/\b < w'.heap.size/\b≠g)) (.inr lc) (.agg cur))
def SatT (P:Program)(cx:Cx)(f:FuncId)(F:List (A cx.ty)->Option (Bool×List (A cx.ty))):Prop:=
 ∀ (w:World) (A0:Nat->Prop) (l:List (A cx.ty)) (us:List Value) (thr:Bool) (v:Value) (rs:List (A cx.ty)),(∀ b,A0 b->b < w.heap.size)->ArgAs cx w A0 l us->F l=some (true,.inl (some (.inl (.bool thr)))::.inl (some (.inl v))::rs)->
  Calls P f us.toArray w (λe w'=>Below w.heap.size w w'/\bif thr then e=.panicked [{ v:=v,recovered:=false }]else ∃ u,e=.returned u/\ResV cx w' A0 (λb=>w.heap.size<=b) (qM rs) u)
def kP (bx:Option (Nat×TypeId)):Nat:=match bx with
 | some (o,_)=>o
 | none=>0
def SatQ (P:Program)(cx:Cx)(f:FuncId)(nres:Nat)(F:List (A cx.ty)->Option (Bool×List (A cx.ty)))(bx:Option (Nat×TypeId):=none):Prop:=
 ∀ (w:World) (g:Nat) (cur:Array Value) (t:TypeId) (lc:List (L cx.ty)) (l:List (A cx.ty)) (us:List Value) (fps:List (List Nat)) (cs:List (A cx.ty)),w.heap[g]?=some (.cells cur t (0,0))->
  ResAs cx w (λ_=>False) (.inr lc::l) (.agg cur::us) fps->(List.flatten fps).Nodup->(∀ b∈List.flatten fps,b < w.heap.size/\b≠g)->F (.inr lc::l)=some (true,cs)->
  Calls P f (.pointer (some ⟨g,kP bx,none⟩)::us).toArray w (λe w'=>∃ (rs:List Value) (cur':Array Value),e=.returned (qN rs)/\rs.length=nres/\(∃ t',w'.heap[g]?=some (.cells cur' t' (0,0)))/\Kept (λb=>w.heap.size<=b\/b∈List.flatten fps\/b=g) w w' ∧
   ResV cx w' (λ_=>False) (λb=>w.heap.size<=b\/b∈List.flatten fps) (.inr (.inl cs)) (.tuple (rs++[Value.agg cur']).toArray))
def SatI (P:Program)(cx:Cx)(f:FuncId)(nres:Nat)(F:List (A cx.ty)->Option (Bool×List (A cx.ty))):Prop:=
 ∀ (w:World) (l:List (A cx.ty)) (us:List Value) (fps:List (List Nat)) (cs:List (A cx.ty)),
  ResAs cx w (λ_=>False) l us fps->(List.flatten fps).Nodup->(∀ b∈List.flatten fps,b < w.heap.size)->F l=some (true,cs)->
  Calls P f us.toArray w (λe w'=>∃ rs:List Value,e=.returned (qN rs)/\rs.length=nres/\Kept (λb=>w.heap.size<=b\/b∈List.flatten fps) w w' ∧
   ResV cx w' (λ_=>False) (λb=>w.heap.size<=b\/b∈List.flatten fps) (.inr (.inl cs)) (.tuple rs.toArray))
def SatOf (P:Program)(cx:Cx)(f:FuncId)(W:WFn cx):Prop:=
 match W.p with
 | 0=>SatW P cx f W.nres W.n W.F
 | 1=>SatP P cx f W.nres W.F
 | 3=>SatT P cx f W.F
 | 4=>SatW P cx f W.nres W.n W.F
 | 5=>SatW P cx f W.nres W.n W.F
 | 6=>SatQ P cx f W.nres W.F W.bx
 | 7=>SatI P cx f W.nres W.F
 | _=>SatN P cx f W.F
def KwOk (P:Program)(cx:Cx)(Kw:Kwt cx):Prop:=∀ f W,Kw f=some W->SatOf P cx f W
def sK {β:Type}(P:Program)(f:FuncId)(W:WFn cx)(st:St cx.ty)(d:Option Tmp)(args:List Operand)(ts:List TypeId)(k:St cx.ty->Option β):Option β:=none
theorem aAP (ok:cx.Ok){β:Type}{o:Oper}{st:St cx.ty}{d:Option Tmp}{f:FuncId}{args:Array Operand}{ts:Array TypeId}{W:WFn cx}(hK:SatP P cx f W.nres W.F)
  (ho:o.op=.call { callee:=.value (.func f),args:=args,argTypes:=ts }) {c:Ct cx.ty} {a:Act} (h:RS cx c st a) (hsm:iX d=true) (hlo:xP st.lo d=true) {k:St cx.ty->Option β} {r:β}
  (he:sK P f W st d args.toList ts.toList k=some r):Runs P o a.eval c.w (λu w'=>∃ c' st',k st'=some r/\RS cx c' st' (a.put d u)/\c'.w=w'/\c'.S=c.S/\c'.N=c.N/\c'.K=c.K/\Kept c.N c.w w'):=by
 unfold sK at he;cases he
def aCX {β:Type}(P:Program)(f:FuncId)(W:WFn cx)(slots:List (V cx.ty))(args:List Operand)(ts:List TypeId)(nm0:Nat)(k:Eff cx.ty->Option β):Option β:=none
theorem aFa (ok:cx.Ok){β:Type}{o:Oper}{slots:List (V cx.ty)}{nm0:Nat}{f:FuncId}{args:Array Operand}{ts:Array TypeId}{W:WFn cx}(hK:SatN P cx f W.F)
  (ho:o.op=.call { callee:=.value (.func f),args:=args,argTypes:=ts }) {k:Eff cx.ty->Option β} {r:β}
  (h:aCX P f W slots args.toList ts.toList nm0 k=some r):∃ ef,k ef=some r/\EffOK P cx o slots nm0 ef:=by
 unfold aCX at h;cases h
end
section
variable {cx : Cx} {P : Program}
def aBY {ty:Nat->Type}(nm:Nat)(v:V ty):V ty:=
 match v with
 | .inr (.inr p)=>if p.kind == 0&&p.nm == nm then aN else .inr (.inr p)
 | v=>v
theorem aGQ {nm:Nat}{c c':Ct cx.ty}(h:PresX (λn=>n=nm) c c')(hib:∀ tk∈c.T,tk.nm=nm->∃ l,tk.c=.inr l)
  {v:V cx.ty} {u:Value} (hr:RepV cx c v u):RepV cx c' (aBY nm v) u:=by
 have leaf:∀ {l:L cx.ty} {u:Value},RepLS cx c l u->RepLS cx c' l u:=λhl=>kK h hib hl
 have agg:∀ {a:A cx.ty} {u:Value},RepA cx c a u->RepA cx c' a u:=by
  intro a u ha
  match a,ha with
  | .inl l,ha=>exact leaf ha
  | .inr l,⟨us,hu,h1,h2⟩=>exact⟨us,hu,h1,λj a b e1 e2=>leaf (h2 j a b e1 e2)⟩
 have el:∀ {s:SlD cx.ty} {i b o:Nat},RepEl cx c s i b o->RepEl cx c' s i b o:=by
  rintro s i b o ⟨hb,x,hx,n,hr⟩;refine⟨(h.rd b hb).1,x,hx,n,λj l hl=>?_⟩;obtain⟨v,hv,hr⟩:=hr j l hl;exact⟨v,by rw[World.cell?_of_block (h.rd b hb).2];exact hv,RepL_mono cx (λb hb=>(h.rd b hb).2) (λb hb=>(h.rd b hb).1) _ _ _ hr⟩
 match v,hr with
 | .inl a,hr=>exact agg hr
 | .inr (.inl l),⟨us,hu,h1,h2⟩=>exact⟨us,hu,h1,λj a b e1 e2=>agg (h2 j a b e1 e2)⟩
 | .inr (.inr p),hr=>
  have hr:RepP cx c p u:=hr;simp only[aBY];by_cases hkn:(p.kind == 0&&p.nm == nm)=true
  ·rw[if_pos hkn];trivial
  ·rw[if_neg hkn];show RepP cx c' p u;unfold RepP at hr ⊢;split at hr
   ·rename_i hk;obtain⟨tk,k1,k2,k3,g,k4,k5⟩:=hr;have hn:p.nm≠nm:=λe=>hkn (by simp[hk,e])
    obtain⟨tk',m1,m2,m3,m4⟩:=h.box tk k1 (by rw[k2];exact hn) _ k3;exact⟨tk',m1,by rw[m2,k2],m4,g,by rw[m3];exact k4,k5⟩
   ·simp only[h.dead,h.frz]at hr ⊢;split at hr
    ·rename_i hd;rw[if_pos hd];trivial
    ·rename_i hd;rw[if_neg hd];split at hr
     ·rename_i hf;rw[if_pos hf];obtain⟨b,o,hu,hr⟩:=hr;exact⟨b,o,hu,el hr⟩
     ·rename_i hf;rw[if_neg hf];obtain⟨tk,k1,k2,k3,k4⟩:=hr;by_cases hn:tk.nm=nm
      ·obtain⟨l,hl⟩:=hib tk k1 hn;rw[k3]at hl;cases hl
      ·exact⟨tk,h.tok tk k1 hn _ k3,k2,k3,k4⟩
   ·obtain⟨b,o,hu,hr⟩:=hr;exact⟨b,o,hu,el hr⟩
   ·trivial
def aDg (P:Program)(cx:Cx)(slots:List (V cx.ty))(o:Oper):Option (Pt cx.ty×(e:Nat)×List (cx.ty e)):=
 match o.guard,o.op with
 | none,.slice t x none none none=>match dU slots x,tB P t with
  | .inr (.inr p),some (n,e)=>if p.kind == 0&&p.off == 0&&p.i == 0&&n == p.cells.length&&decide (0 < n)&&cx.flat e&&tY P cx e&&cx.size e == 1 then
     match aC5 cx e n p.cells with
     | some xs=>some (p,⟨e,xs⟩)
     | none=>none
    else none
  | _,_=>none
 | _,_=>none
def St.frzB {ty:Nat->Type}(st:St ty)(d:Option Tmp)(nm:Nat)(v:V ty):St ty:=
 {slots:=jD (st.slots.map (aBY nm)) d v,D:=st.D,F:=st.F,ctr:=st.ctr+1,lo:=st.lo }
theorem aHd (ok:cx.Ok){st:St cx.ty}{o:Oper}{p:Pt cx.ty}{e:Nat}{xs:List (cx.ty e)}(hb:aDg P cx st.slots o=some (p,⟨e,xs⟩)){c:Ct cx.ty}{a:Act}(h:RS cx c st a)(hlo:xP st.lo o.dst=true) :
  o.guard=none/\Runs P o a.eval c.w (λu w'=>∃ c',RS cx c' (st.frzB o.dst p.nm (vs (ro e xs))) (a.put o.dst u)/\c'.w=w'/\c'.S=c.S/\c'.N=c.N/\c'.K=c.K/\w'=c.w):=by
 unfold aDg at hb;split at hb
 ·rename_i t x hgd hop;split at hb
  ·rename_i p' n e' hp harr
   ·split at hb
    ·rename_i hc;simp only[aJ,beq_iff_eq,decide_eq_true_eq]at hc;obtain⟨⟨⟨⟨⟨⟨⟨hk0,hoff⟩,hi0⟩,hn⟩,hpos⟩,hflat⟩,hel⟩,hsz⟩:=hc;split at hb
     ·rename_i xs' hxs;simp only[aB,aY]at hb;obtain⟨rfl,hb⟩:=hb;cases hb;refine⟨hgd,?_⟩;obtain⟨⟨d,hd⟩,hcs⟩:=mB hel;have hra:=eP h.rep x;rw[hp]at hra;have hra:RepP cx c p' (a.eval x):=hra;unfold RepP at hra;simp only[hk0,hi0]at hra;obtain⟨tk,ht,hnm,hcc,g,htu,hpa⟩:=hra;rw[hoff]at hpa;have hpa:a.eval x=.pointer (some ⟨g,0,none⟩):=hpa;have htr:=h.wf.rep tk ht;unfold TokRep at htr;rw[hcc]at htr;obtain⟨hfp,g',cur,et,hu',hh,hcells⟩:=htr;rw[htu]at hu';simp only[Value.pointer.injEq,aB,Addr.mk.injEq]at hu';obtain⟨rfl,_⟩:=hu';have hgv:g∈vb tk.u:=by rw[htu];simp[vb]
      have hgb:=h.wf.bound tk ht g (aA.2 (.inl hgv));have hund:P.underlying t=some (.array n e):=by
       unfold tB at harr;split at harr
       ·rename_i n2 e2 hq;simp only[aB,aY]at harr;obtain⟨rfl,rfl⟩:=harr;exact hq
       ·simp at harr
      have hrun:(execOp a.eval o).run P c.w=.ok (.value (.slice (some ⟨g,0,none⟩) n n)) c.w:=by
       unfold execOp;simp[hop,Instr.sliceAt,Instr.sureAddr,hpa,run_underlying hund,Instr.sliceBounds,eD hd,Addr.add_lit]
      unfold Runs;rw[hrun]
      let c':Ct cx.ty:={ c with T:=c.T.filter (λt2=>!(t2.nm == p'.nm)) }
      have hmem:∀ t2,t2∈c'.T↔t2∈c.T/\t2.nm≠p'.nm:=λt2=>by simp[c',eH]
      have hib:∀ t2∈c.T,t2.nm=p'.nm->∃ l,t2.c=.inr l:=λt2 h2 hn2=>by
       have:=iF h.wf h2 ht (hn2.trans hnm.symm);subst this;exact⟨_,hcc⟩
      have hP:PresX (λn=>n=p'.nm) c c':=⟨λb hb=>⟨⟨hb.1,hb.2.1,λt2 h2=>hb.2.2 t2 ((hmem t2).1 h2).1⟩,rfl⟩,rfl,rfl,λt2 h2 hX s hs=>(hmem t2).2 ⟨h2,hX⟩,λt2 h2 hX l hl=>⟨t2,(hmem t2).2 ⟨h2,hX⟩,rfl,rfl,hl⟩⟩
      have hgr:Rd c' g:=⟨hgb.2,.inr hgb.1,λt2 h2 hv=>by
       obtain⟨q1,q2⟩:=(hmem t2).1 h2;exact dD h.wf q1 ht (λe=>q2 (e.trans hnm)) (aA.2 (.inl hv)) (aA.2 (.inl hgv))⟩
      obtain⟨hxl,hxw⟩:=oX ok false n p'.cells xs hxs;have hnew:RepLS cx c' (some (.inr (ro e xs))) (.slice (some ⟨g,0,none⟩) n n):=by
       refine⟨1,some ⟨g,0,none⟩,n,by rw[<-hxl];rfl,by show xs.length<=n;omega,.inr ⟨g,0,rfl,hgr,λi y hy j l hl=>?_⟩⟩;have hl:(cx.enc e false y)[j]?=some l:=hl;have hy:xs[i]?=some y:=hy;have hj:j < 1:=by
        have h8:=(aI.1 hl).1;have h9:(cx.enc e false y).length=cx.size e:=ok.len e false y;omega
       have hfg:=gS (cx.enc e false) 1 (λx=>by rw[ok.len,hsz]) xs i y hy j hj;rw[<-hxw,hl,aX]at hfg;obtain⟨v,hv⟩:=ok.flat e false y hflat l (bC hl);subst hv;cases hl0:p'.cells[i * 1+j]? with
       | none=>rw[hl0]at hfg;simp at hfg
       | some l0=>
        rw[hl0]at hfg;simp only[aD,aB]at hfg;have hl1:l0=some (.inl v):=by
         unfold weak at hfg;split at hfg
         ·simp at hfg
         ·exact hfg
        have hlt:i * 1+j < cur.toList.length:=by
         rw[hcells.1];exact(aI.1 hl0).1
        have hcv:=hcells.2 (i * 1+j) l0 _ hl0 (aC hlt);rw[hl1]at hcv;have hcv:cur.toList[i * 1+j]=v:=hcv;refine⟨v,?_,rfl⟩;show c.w.cell? ⟨g,0+(i * cx.size e+j),none⟩=some v;rw[hsz,cX];simp only[World.cell?,hh];simp only[<-hcv];simp
      refine⟨c',⟨⟨?_,?_,λt2 h2=>h.wf.bound t2 ((hmem t2).1 h2).1,λt2 h2=>?_,h.wf.start,λt2 h2=>h.wf.live t2 ((hmem t2).1 h2).1,h.wf.size⟩,?_,?_,by rw[iL];exact h.defers,h.dead,h.frz,λn hn=>?_,λq u' hq=>⟨(h.kp q u' hq).1,(pE hlo _ (h.kp q u' hq).1).trans (h.kp q u' hq).2⟩,PrOK.nil,PdOK.none⟩,rfl,rfl,rfl,rfl,rfl⟩
      ·exact(iE _ gE).nodup h.wf.names
      ·exact iR _ h.wf.nodup
      ·obtain⟨q1,q2⟩:=(hmem t2).1 h2;have hold:=h.wf.rep t2 q1;unfold TokRep at hold ⊢;split at hold
       ·obtain⟨hv,hold⟩:=hold;refine⟨hv,?_⟩;split at hold
        ·rename_i hso;rw[if_pos hso];exact hold
        ·rename_i hso;rw[if_neg hso];obtain⟨hf,us,m,hrow,hl2,hr⟩:=hold;exact⟨hf,us,m,hrow,hl2,λj l v h1 h2=>RepL_mono cx (λb hb=>(hP.rd b hb).2) (λb hb=>(hP.rd b hb).1) m l v (hr j l v h1 h2)⟩
       ·obtain⟨hf,g2,cur2,e2,hu2,hh2,hr⟩:=hold;exact⟨hf,g2,cur2,e2,hu2,hh2,hr.1,λj a b e1 e2=>kK hP hib (hr.2 j a b e1 e2)⟩
      ·refine lW ?_ o.dst _ _;rw[dK];exact h.size
      ·refine nI (by rw[dK];exact h.size) (λt2=>?_) o.dst hnew;have:(st.slots.map (aBY p'.nm)).getD t2 aN=aBY p'.nm (st.slots.getD t2 aN):=by
        by_cases hlt:t2 < st.slots.length
        ·simp[List.getD,hlt]
        ·simp[List.getD,bQ (fC hlt),aN,aBY]
       rw[this];exact aGQ hP hib (h.rep t2)
      ·have hn':Nm c n:=by
        rcases hn with⟨t2,h2,rfl⟩ | hn | hn
        ·exact .inl ⟨t2,((hmem t2).1 h2).1,rfl⟩
        ·exact .inr (.inl hn)
        ·exact .inr (.inr hn)
       exact cN (h.names n hn') (aQ _ (nA _))
     ·simp at hb
    ·simp at hb
  ·simp at hb
 ·simp at hb
end
end Go.VM
