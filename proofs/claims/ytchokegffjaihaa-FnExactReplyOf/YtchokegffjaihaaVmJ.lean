/- A part of the proof of FnExactReplyOf: VmJ, VmK, VmL, VmM, VmN, VmO, VmP, VmPu, VmTop. -/
import Derived.Test.YtchokegffjaihaaVmB
import Derived.Below
set_option linter.unusedSimpArgs false
set_option linter.unusedVariables false
namespace Go.VM
open Go.IntKind (wrap)
open Go.RowKit
structure LArg (ty:Nat->Type) (X:Type) where
 enc:X->L ty
 dec:L ty->Option X
 inv:∀ a x,dec a=some x->a=enc x
structure Arg (ty:Nat->Type) (X:Type) where
 enc:X->A ty
 dec:A ty->Option X
 inv:∀ a x,dec a=some x->a=enc x
def LArg.int {ty:Nat->Type}(k:IntKind):LArg ty Int:=
 {enc:=λx=>lv (.int k x),dec:=λa=>match a with | some (.inl v)=>aF3 k v | _=>none,
  inv:=λa x h=>by
   split at h
   ·rename_i v;unfold aF3 at h;split at h
    ·split at h
     ·rename_i hk;subst hk;cases h
      rfl
     ·simp at h
    ·simp at h
   ·simp at h }
def LArg.bool {ty:Nat->Type}:LArg ty Bool:=
 {enc:=λx=>lv (.bool x),dec:=λa=>match a with | some (.inl (.bool x))=>some x | _=>none,
  inv:=λa x h=>by
   split at h
   ·cases h;rfl
   ·simp at h }
def LArg.fn {ty:Nat->Type}(f:Nat):LArg ty Unit:=
 {enc:=λ_=>lv (.func (.func f) #[] #[]),
  dec:=λa=>match a with | some (.inl (.func (.func g) p q))=>if g=f/\p.toList.isEmpty/\q.toList.isEmpty then some ()else none | _=>none,
  inv:=λa x h=>by
   split at h
   ·rename_i g p q;split at h
    ·rename_i hc;simp only[nE]at hc;obtain⟨rfl,h1,h2⟩:=hc;have hp:p=#[]:=dM h1;have hq:q=#[]:=dM h2;subst hp;subst hq
     rfl
    ·simp at h
   ·simp at h }
def LArg.row {ty:Nat->Type}(e:Nat):LArg ty (List (ty e)):=
 {enc:=λx=>ls (ro e x),dec:=λa=>match a with | some (.inr s)=>if s.own == 0&&s.nm == 0&&!s.o then xZ e s else none | _=>none,
  inv:=λa x h=>by
   split at h
   ·rename_i s;split at h
    ·rename_i hc;simp only[aE,beq_iff_eq,bL]at hc;unfold xZ at h;split at h
     ·rename_i he;obtain⟨own,nm,e2,o2,xs⟩:=s;simp only at he hc;obtain⟨⟨rfl,rfl⟩,rfl⟩:=hc;subst he;cases h
      rfl
     ·simp at h
    ·simp at h
   ·simp at h }
def Arg.leaf {ty:Nat->Type}{X:Type}(a:LArg ty X):Arg ty X:=
 {enc:=λx=>.inl (a.enc x),dec:=λl=>match l with | .inl l=>a.dec l | _=>none,
  inv:=λl x h=>by
   split at h
   ·rename_i l;rw[a.inv l x h]
   ·simp at h }
abbrev Arg.int {ty:Nat->Type}(k:IntKind):Arg ty Int:=Arg.leaf (LArg.int k)
abbrev Arg.bool {ty:Nat->Type}:Arg ty Bool:=Arg.leaf LArg.bool
def aK3 {ty:Nat->Type}(e:Nat)(s:SlD ty):Option (ty e):=if h:s.e=e then(match h▸s.xs with | [x]=>some x | _=>none)else none
def LArg.ptr {ty:Nat->Type}(e:Nat):LArg ty (ty e):=
 {enc:=λx=>some (.inr { own:=3,nm:=0,e:=e,o:=false,xs:=[x] }),dec:=λa=>match a with | some (.inr s)=>if s.own == 3&&s.nm == 0&&!s.o then aK3 e s else none | _=>none,
  inv:=λa x h=>by
   split at h
   ·rename_i s;split at h
    ·rename_i hc;simp only[aE,beq_iff_eq,bL]at hc;unfold aK3 at h;split at h
     ·rename_i he;obtain⟨own,nm,e2,o2,xs⟩:=s;simp only at he hc;obtain⟨⟨rfl,rfl⟩,rfl⟩:=hc;subst he;simp only at h
      match xs,h with
      | [y],h=>cases h;rfl
      | [],h=>simp at h
      | _::_::_,h=>simp at h
     ·simp at h
    ·simp at h
   ·simp at h }
abbrev Arg.row {ty:Nat->Type}(e:Nat):Arg ty (List (ty e)):=Arg.leaf (LArg.row e)
structure SArg (ty:Nat->Type) (X:Type) where
 enc:X->List (L ty)
 dec:List (L ty)->Option X
 inv:∀ a x,dec a=some x->a=enc x
def SArg.one {ty:Nat->Type}{X:Type}(a:LArg ty X):SArg ty X:=
 {enc:=λx=>[a.enc x],dec:=λl=>match l with | [p]=>a.dec p | _=>none,
  inv:=λl x h=>by
   split at h
   ·rename_i p;rw[a.inv p x h]
   ·simp at h }
def SArg.cons {ty:Nat->Type}{X Y:Type}(a:LArg ty X)(s:SArg ty Y):SArg ty (X×Y):=
 {enc:=λx=>a.enc x.1::s.enc x.2,dec:=λl=>match l with | p::q=>(a.dec p).bind λx=>(s.dec q).map λy=>(x,y) | _=>none,
  inv:=λl x h=>by
   split at h
   ·rename_i p q;cases h1:a.dec p with
    | none=>rw[h1]at h;simp at h
    | some u=>
     cases h2:s.dec q with
     | none=>rw[h1,h2]at h;simp at h
     | some v=>
      rw[h1,h2]at h;simp only[fD,aD,aB]at h;subst h;rw[a.inv p u h1,s.inv q v h2]
   ·simp at h }
def Arg.agg {ty:Nat->Type}{X:Type}(s:SArg ty X):Arg ty X:=
 {enc:=λx=>.inr (s.enc x),dec:=λl=>match l with | .inr l=>s.dec l | _=>none,
  inv:=λl x h=>by
   split at h
   ·rename_i l;rw[s.inv l x h]
   ·simp at h }
structure Args (ty:Nat->Type) (X:Type) where
 enc:X->List (A ty)
 dec:List (A ty)->Option X
 inv:∀ a x,dec a=some x->a=enc x
def Args.nil {ty:Nat->Type}:Args ty Unit:=
 {enc:=λ_=>[],dec:=λl=>match l with | []=>some () | _=>none,
  inv:=λl x h=>by
   split at h
   ·rfl
   ·simp at h }
def Args.one {ty:Nat->Type}{X:Type}(a:Arg ty X):Args ty X:=
 {enc:=λx=>[a.enc x],dec:=λl=>match l with | [p]=>a.dec p | _=>none,
  inv:=λl x h=>by
   split at h
   ·rename_i p;rw[a.inv p x h]
   ·simp at h }
def Args.cons {ty:Nat->Type}{X Y:Type}(a:Arg ty X)(s:Args ty Y):Args ty (X×Y):=
 {enc:=λx=>a.enc x.1::s.enc x.2,dec:=λl=>match l with | p::q=>(a.dec p).bind λx=>(s.dec q).map λy=>(x,y) | _=>none,
  inv:=λl x h=>by
   split at h
   ·rename_i p q;cases h1:a.dec p with
    | none=>rw[h1]at h;simp at h
    | some u=>
     cases h2:s.dec q with
     | none=>rw[h1,h2]at h;simp at h
     | some v=>
      rw[h1,h2]at h;simp only[fD,aD,aB]at h;subst h;rw[a.inv p u h1,s.inv q v h2]
   ·simp at h }
def gD {cx:Cx}{X R:Type}(a:Args cx.ty X)(enc:R->V cx.ty)(d:R)(m:X->Option R):List (A cx.ty)->Option (Bool×V cx.ty):=
 λl=>(a.dec l).map λx=>((m x).isSome,enc ((m x).getD d))
theorem aAc {cx:Cx}{X R:Type}{a:Args cx.ty X}{enc:R->V cx.ty}{d:R}{m:X->Option R}{l:List (A cx.ty)}{r:V cx.ty}(h:gD a enc d m l=some (true,r)):∃ x t,l=a.enc x/\m x=some t/\r=enc t:=by
 unfold gD at h;cases h1:a.dec l with
 | none=>rw[h1]at h;simp at h
 | some x=>
  rw[h1]at h;simp only[aD,aB,aM]at h;cases h2:m x with
  | none=>rw[h2]at h;simp at h
  | some t=>
   rw[h2]at h;exact⟨x,t,a.inv l x h1,h2,h.2.symm⟩
theorem dA {P:Program}{cx:Cx}(ok:cx.Ok)(hZ:cx.POk P)(hm:P.follows .mixedOrders=true){f:FuncId}{fn:Func}(hf:P.funcs[f]?=some fn){X R:Type}(a:Args cx.ty X)(enc:R->V cx.ty)(d:R)(m:X->Option R)
  (ev:Env cx) (hK:KOk P cx ev.Kc) (hKw:KwOk P cx ev.Kw) (g:Nat->X->Option R) (he:∀ L x,dW P ev (bB L) fn (a.enc x)=(g L x).map enc) (hg:∀ x t,m x=some t->∃ L,g L x=some t) (hs:∀ t,cQ (enc t)=true\/bZ (enc t)=true) :
  Sat P cx f (gD a enc d m):=by
 refine aDm ok hZ hm hf λas r h=>?_
 obtain⟨x,t,rfl,hx,rfl⟩:=aAc h;obtain⟨L,hL⟩:=hg x t hx;exact⟨ev,L,hK,hKw,by rw[he,hL];rfl,hs t⟩
def dN {cx:Cx}:List (FuncId×(List (A cx.ty)->Option (Bool×V cx.ty)))->Kt cx
 | [],_=>none
 | (f,F)::r,g=>if g=f then some F else dN r g
theorem bO {P:Program}{cx:Cx}:KOk P cx (dN []):=λ_ _ h=>by simp[dN]at h
theorem bA {P:Program}{cx:Cx}{f:FuncId}{F:List (A cx.ty)->Option (Bool×V cx.ty)}{r:List (FuncId×(List (A cx.ty)->Option (Bool×V cx.ty)))}(h:Sat P cx f F)(hr:KOk P cx (dN r)):KOk P cx (dN ((f,F)::r)):=by
 intro g G hG;unfold dN at hG;split at hG
 ·rename_i he;subst he;cases hG;exact h
 ·exact hr g G hG
theorem aS {α β:Type}(f:α->β)(c:Bool)(a b:Option α):(bif c then a else b).map f=bif c then a.map f else b.map f:=by cases c<;>rfl
end Go.VM
namespace Go.VM
open Go.IntKind (wrap)
open Go.RowKit
def wF:List Nat->Code->Code
 | [],c=>c
 | i::p,c=>match c with
  | .seq x y=>wF p (if i=0 then x else y)
  | .cond _ x y=>wF p (if i=0 then x else y)
  | .block _ c=>wF p c
  | .loop c=>wF p c
  | _=>.skip
def aE1 (fn:Func)(p:List Nat):Code:=match fn.body with | some c=>wF p c | none=>.skip
section
variable {cx : Cx} {β : Type}
def yY (P:Program)(ev:Env cx)(lp:Lp cx β):List Nat->Nat->Code->Kn cx β->Kn cx β
 | [],_,_,k=>k
 | i::p,bid,c,k=>match c with
  | .seq x y=>if i=0 then yY P ev lp p bid x (aFs (evC P ev lp bid y) k)else yY P ev lp p bid y k
  | .cond _ x y=>yY P ev lp p bid (if i=0 then x else y) k
  | .block id c=>yY P ev lp p id c (aE3 id (ev.xv id) k)
  | .loop c=>yY P ev lp p bid c k
  | _=>k
def aG0 (P:Program)(ev:Env cx)(L:Nat)(fn:Func)(id:Nat)(p:List Nat):St cx.ty->Kn cx β->Option β:=evC P ev (bB L) id (aE1 fn p)
def cS (P:Program)(ev:Env cx)(L:Nat)(fn:Func)(id:Nat)(p:List Nat)(K:Kn cx β)(n:Nat)(st:St cx.ty):Option β:=
 uI (aG0 P ev L fn id p) (canon (ev.lv id)) (aE3 id (ev.xv id) K) n st
def eW (P:Program)(ev:Env cx)(L:Nat)(fn:Func)(id:Nat)(p:List Nat)(K:Kn cx β)(g:St cx.ty->Option β)(st:St cx.ty):Option β:=
 aG0 P ev L fn id p st (aFs (λst' _=>g (canon (ev.lv id) st')) (aE3 id (ev.xv id) K))
theorem cU (P:Program)(ev:Env cx)(L:Nat)(fn:Func)(id:Nat)(p:List Nat)(K:Kn cx β)(n:Nat)(st:St cx.ty) :
  cS P ev L fn id p K (n+1) st=eW P ev L fn id p K (cS P ev L fn id p K n) st:=rfl
def cK (P:Program)(ev:Env cx)(L:Nat)(fn:Func)(p:List Nat)(fin:St cx.ty->Option β):Kn cx β:=yY P ev (bB L) p 0 (aE1 fn []) { n:=fin,x:=λ_ _=>none,r:=fin }
def dC (fin:St cx.ty->Option β)(k:St cx.ty->Option β)(x:Nat->St cx.ty->Option β):Kn cx β:={ n:=k,x:=x,r:=fin }
end
end Go.VM
namespace Go.VM
open Go.IntKind (wrap)
open Go.RowKit
section
variable {cx : Cx} {P : Program}
def LArg.own {ty:Nat->Type}(e:Nat):LArg ty (List (ty e)):=
 {enc:=λx=>ls { own:=2,nm:=0,e:=e,o:=true,xs:=x },dec:=λa=>match a with | some (.inr s)=>if s.own == 2&&s.nm == 0&&s.o then xZ e s else none | _=>none,
  inv:=λa x h=>by
   split at h
   ·rename_i s;split at h
    ·rename_i hc;simp only[aE,beq_iff_eq]at hc;unfold xZ at h;split at h
     ·rename_i he;obtain⟨own,nm,e2,o2,xs⟩:=s;simp only at he hc;obtain⟨⟨rfl,rfl⟩,rfl⟩:=hc;subst he;cases h
      rfl
     ·simp at h
    ·simp at h
   ·simp at h }
def dP {cx:Cx}:List (FuncId×WFn cx)->Kwt cx
 | [],_=>none
 | (f,F)::r,g=>if g=f then some F else dP r g
theorem bH {P:Program}{cx:Cx}:KwOk P cx (dP []):=λ_ _ h=>by simp[dP]at h
theorem HalfL.rep (ok:cx.Ok){w:World}{S S':Nat->Prop}{s:SlD cx.ty}{u:Value}{fp:List Nat}(hS:∀ b,S b->S' b)(hf:∀ b∈fp,S' b)(h:HalfL cx w S s u fp):∃ n,RepL cx w S' n (some (.inr (ro s.e s.xs))) u:=by
 obtain⟨hfp,us,n,hrow,hl1,h⟩:=h;refine⟨n+1,?_⟩;rcases hrow.2 with⟨hu,h0⟩ | ⟨g,cap,cur,hu,hg,hh,hn,hm,hc,ht⟩
 ·exact⟨none,0,by rw[hu,show(ro s.e s.xs).xs.length=s.xs.length from rfl,h0],by rw[show(ro s.e s.xs).xs.length=s.xs.length from rfl];omega,.inl (bC h0)⟩
 ·refine⟨some ⟨g,0,none⟩,cap,hu,hn,.inr ⟨g,0,rfl,hf g (by rw[hfp,hu];simp[Value.ownBlock]),λi x hx j l hl=>?_⟩⟩;have hj:j < cx.size s.e:=by rw[<-ok.len s.e false x];exact(aF.1 hl).1
  have hl':(cx.enc s.e false x)[j]?=some l:=hl;rw[<-fV (cx.enc s.e false) (cx.size s.e) (λx=>ok.len s.e false x) s.xs i x hx j hj]at hl';have hlt:i * cx.size s.e+j < us.length:=by rw[hl1];exact(aF.1 hl').1
  have hc1:=aC hlt;refine⟨us[i * cx.size s.e+j],?_,RepL_mono cx (λ_ _=>rfl) hS _ _ _ (h _ _ _ hl' hc1)⟩;have:=hrow.cells (g:=g) (by rw[hu];rfl) _ _ hc1;show w.cell? ⟨g,0+(i * cx.size s.e+j),none⟩=_;simpa[Addr.add_lit]using this
end
end Go.VM
namespace Go.VM
open Go.IntKind (wrap)
open Go.RowKit
section
variable {cx : Cx} {P : Program}
structure OSf (c:Ct cx.ty) (seen seen':List Nat) (fp:List Nat):Prop where
 src:∀ b∈fp,∃ tk∈c.T,tk.nm∈seen'/\tk.nm∉seen/\b∈vb tk.u
 nd:fp.Nodup
 grow:∀ n∈seen,n∈seen'
 row:∀ b∈fp,∀ tk∈c.T,b∈vb tk.u->∃ s,tk.c=.inl s
theorem OSf.nil (c:Ct cx.ty)(seen:List Nat):OSf c seen seen []:=⟨by simp,by simp,λ_ h=>h,by simp⟩
theorem OSf.app {c:Ct cx.ty}(h:Wf cx c){s0 s1 s2 f1 f2:List Nat}(h1:OSf c s0 s1 f1)(h2:OSf c s1 s2 f2):OSf c s0 s2 (f1++f2):=by
 refine⟨λb hb=>?_,?_,λn hn=>h2.grow n (h1.grow n hn),λb hb tk ht hv=>(aA.1 hb).elim (λhb=>h1.row b hb tk ht hv) (λhb=>h2.row b hb tk ht hv)⟩
 ·rcases aA.1 hb with hb | hb
  ·obtain⟨tk,k1,k2,k3,k4⟩:=h1.src b hb;exact⟨tk,k1,h2.grow _ k2,k3,k4⟩
  ·obtain⟨tk,k1,k2,k3,k4⟩:=h2.src b hb;exact⟨tk,k1,k2,λhs=>k3 (h1.grow _ hs),k4⟩
 ·rw[aG];refine⟨h1.nd,h2.nd,λa ha b hb he=>?_⟩;subst he;obtain⟨t1,k1,k2,k3,k4⟩:=h1.src a ha;obtain⟨t2,m1,m2,m3,m4⟩:=h2.src a hb;exact bY h k1 m1 (λe=>m3 (e▸k2)) (aA.2 (.inl k4)) (aA.2 (.inl m4))
def bnd {α β:Type}(x:α)(K:α->Option β):Option β:=K x
theorem aR {α β γ:Type}(x:α)(K:α->Option β)(f:β->γ):(bnd x K).map f=bnd x (λt=>(K t).map f):=rfl
def cV {α β:Type}(o:Option α)(d:α)(K:α->Option β):Option β:=bif o.isSome then K (o.getD d)else none
theorem aQ {α β γ:Type}(o:Option α)(d:α)(K:α->Option β)(f:β->γ):(cV o d K).map f=cV o d (λt=>(K t).map f):=by
 cases o<;>rfl
theorem bX {α β:Type}(v:α)(d:α)(K:α->Option β):cV (some v) d K=K v:=rfl
end
end Go.VM
namespace Go.VM
open Go.IntKind (wrap)
open Go.RowKit
section
variable {cx : Cx} {P : Program}
end
end Go.VM
namespace Go.VM
open Go.IntKind (wrap)
open Go.RowKit
section
variable {cx : Cx} {P : Program}
def aE0 (n lo:Nat)(o:Oper):Option (TypeId×Nat×Nat):=
 match o.op,o.dst,o.guard with
 | .box t (.tmp p),some d,none=>if p < n/\d < lo then some (t,p,d)else none
 | _,_,_=>none
theorem aEZ {n lo:Nat}{o:Oper}{t p d:Nat}(h:aE0 n lo o=some (t,p,d)):o.op=.box t (.tmp p)/\o.dst=some d/\o.guard=none/\p < n/\d < lo:=by
 unfold aE0 at h;split at h
 ·rename_i h1 h2 h3;split at h
  ·rename_i hc;simp only[aB,aM]at h;obtain⟨rfl,rfl,rfl⟩:=h;exact⟨h1,h2,h3,hc.1,hc.2⟩
  ·simp at h
 ·simp at h
def rI {ty:Nat->Type}:A ty->List (L ty)
 | .inl l=>[l]
 | .inr l=>l
def aCS {ty:Nat->Type}:A ty->Bool
 | .inl l=>kW l&&!qL l
 | .inr _=>true
def aEh (cx:Cx)(args:List (A cx.ty))(lo:Nat):List Oper->Nat->St cx.ty->St cx.ty×List Oper
 | [],m,st=>({ st with lo:=m },[])
 | o::r,m,st=>match aE0 args.length lo o with
  | some (t,p,d)=>if m<=d then
    match args[p]? with
    | some a=>if aCS a then
      match cx.dec t (rI a)with
      | some x=>aEh cx args lo r (d+1) { st with slots:=st.slots.set d (psV (.inr (ro t [x]))),ps:=st.ps++[(d,.inr (ro t [x]))],pend:=none }
      | none=>({ st with lo:=m },o::r)
     else({ st with lo:=m },o::r)
    | none=>({ st with lo:=m },o::r)
   else({ st with lo:=m },o::r)
  | none=>({ st with lo:=m },o::r)
def stL (fn:Func)(args:List (A cx.ty)):St cx.ty:={ slots:=args.map oW++List.replicate (fn.ntmps-args.length) aK,D:=[],F:=[],ctr:=1,lo:=2 * args.length,ps:=args.zipIdx.map λp=>(p.2,.inl p.1) }
def aAm (P:Program)(ev:Env cx)(lp:Lp cx (V cx.ty))(fn:Func)(args:List (A cx.ty)):Option (V cx.ty):=
 match fn.body with
 | some (.seq (.region _ ops false) rest)=>
  (λq:St cx.ty×List Oper=>eJ P ev.Kc ev.Kw (λ_ _=>none) ops (λst=>evC P ev lp 0 rest st (aEJ P fn)) q.2 q.1)
   (aEh cx args (2 * args.length) ops.toList args.length (stL fn args))
 | _=>none
def nI (w:World)(S:Nat->Prop)(K:List (Nat×Value)):Ct cx.ty:={ T:=[],D:=[],F:=[],w:=w,S:=S,N:=λb=>w.heap.size<=b,K:=K }
theorem ArgA.cells {w:World}{S:Nat->Prop}{a:A cx.ty}{u:Value}(h:ArgA cx w S a u)(hl:aCS a=true):u.cells.toList.length=(rI a).length/\∀ (j:Nat) l v,(rI a)[j]?=some l->u.cells.toList[j]?=some v->ArgL cx w S l v:=by
 match a,h with
 | .inr l,⟨us,hu,hlen,hv⟩=>
  subst hu;exact⟨hlen,hv⟩
 | .inl l,h=>
  have hl:kW l=true/\qL l=false:=by simpa[aCS]using hl
  obtain⟨hl,hnp⟩:=hl;have h:ArgL cx w S l u:=by
   rwa [ArgA.atLeaf hnp]at h
  have hc:u.cells=#[u]:=by
   match l,h,hl with
   | some (.inl v),h,ho=>
    have h:u=v:=h;subst h;cases u<;>first | rfl | (simp[kW]at ho)
   | some (.inr s),⟨_,n,h⟩,_=>
    cases n with
    | zero=>simp[RepL]at h
    | succ n=>
     obtain⟨a,cap,hu,_⟩:=h;rw[hu];rfl
  rw[hc];refine⟨rfl,λj l' v h1 h2=>?_⟩;cases j with
  | zero=>
   simp[rI]at h1 h2;subst h1;subst h2;exact h
  | succ j=>simp[rI]at h1
theorem aDr (ok:cx.Ok){w:World}{S:Nat->Prop}{K:List (Nat×Value)}{st:St cx.ty}{a:Act}(h:RS cx (nI w S K) st a){t d:Nat}(hlo:d < st.lo)(hK:∀ q u,(q,u)∈K->q < d){A:A cx.ty}(hl:aCS A=true){u:Value}(hA:ArgA cx w S A u)
  {x:cx.ty t} (hx:cx.dec t (rI A)=some x) (hlen:d < st.slots.length) :
  RS cx (nI (w.alloc (.cells u.cells t)) (λb=>S b\/b=w.heap.size) (K++[(d,.pointer (some ⟨w.heap.size,0,none⟩))])) { st with slots:=st.slots.set d (psV (.inr (ro t [x]))),ps:=st.ps++[(d,.inr (ro t [x]))],pend:=none } (a.put (some d) (.pointer (some ⟨w.heap.size,0,none⟩))):=by
 obtain⟨c1,c2⟩:=hA.cells hl;have hsz:(w.alloc (.cells u.cells t)).heap.size=w.heap.size+1:=by simp
 have hold:∀ b,b < w.heap.size->(w.alloc (.cells u.cells t)).heap[b]?=w.heap[b]?:=λb hb=>(gJ w _).block b hb
 have hS:∀ b,S b->b < w.heap.size:=λb hb=>by
  rcases fR b w.heap.size with h1 | h1
  ·exact h1
  ·exact absurd h1 (h.wf.start b hb)
 have hnew:(w.alloc (.cells u.cells t)).heap[w.heap.size]?=some (.cells u.cells t (0,0)):=heap_alloc_new w _;have hpt:PtS cx (w.alloc (.cells u.cells t)) (λb=>S b\/b=w.heap.size) (ro t [x]) (.pointer (some ⟨w.heap.size,0,none⟩)):=
  zS ok (.inr rfl) hnew c1 (λj l v h1 h2=>ArgL.mono (λb hb=>.inl hb) (λb hb=>hold b (hS b hb)) (c2 j l v h1 h2)) hx
 have hput:∀ q,q≠d->(a.put (some d) (.pointer (some ⟨w.heap.size,0,none⟩))).tmps.getD q undef=a.tmps.getD q undef:=λq hq=>by
  simp[Act.put,aW,Ne.symm hq]
 have hputd:(a.put (some d) (.pointer (some ⟨w.heap.size,0,none⟩))).tmps.getD d undef=.pointer (some ⟨w.heap.size,0,none⟩):=by
  have:d < a.tmps.size:=by rw[h.size];exact hlen
  simp[Act.put,aW,this]
 have hpres:Pres cx (nI w S K) (nI (w.alloc (.cells u.cells t)) (λb=>S b\/b=w.heap.size) (K++[(d,.pointer (some ⟨w.heap.size,0,none⟩))])):=by
  refine⟨λb hb=>⟨⟨?_,?_,by simp[nI]⟩,hold b hb.1⟩,λn h=>h,λn h=>h,λtk h=>by simp[nI]at h,λtk h=>by simp[nI]at h,λtk h=>by simp[nI]at h⟩
  ·show b < (w.alloc _).heap.size;rw[hsz];exact Nat.lt_succ_of_lt hb.1
  ·rcases hb.2.1 with k | k
   ·exact .inl (.inl k)
   ·exact absurd hb.1 (Nat.not_lt_of_le k)
 refine⟨⟨by simp[nI],by simp[nI],by simp[nI],by simp[nI],λb hb=>?_,by simp[nI],λb hb=>hb⟩,?_,λq=>?_,by rw[fI];exact h.defers,h.dead,h.frz,λn hn=>?_,λq v hq=>?_,λq v hq=>?_,PdOK.none⟩
 ·show ¬ (w.alloc _).heap.size<=b;rw[hsz];rcases hb with hb | hb
  ·have:=hS b hb;omega
  ·omega
 ·show(a.put _ _).tmps.size=(st.slots.set d _).length;rw[cI,<-h.size];simp[Act.put]
 ·show RepV cx _ ((st.slots.set d _).getD q aK) _;by_cases hq:q=d
  ·subst hq;rw[hputd];have e:(st.slots.set q (psV (.inr (ro t [x])))).getD q aK=psV (.inr (ro t [x])):=by simp[List.getD,hlen]
   rw[e];have hwf:Wf cx (nI (cx:=cx) (w.alloc (.cells u.cells t)) (λb=>S b\/b=w.heap.size) (K++[(q,.pointer (some ⟨w.heap.size,0,none⟩))])):=⟨by simp[nI],by simp[nI],by simp[nI],by simp[nI],λb hb=>by
    show ¬ (w.alloc _).heap.size<=b;rw[hsz];rcases hb with hb | hb
    ·have:=hS b hb;omega
    ·omega,by simp[nI],λb hb=>hb⟩
   exact PsO.repS (a:=.inr (ro t [x])) hwf hpt
  ·rw[hput q hq];have e:(st.slots.set d (psV (.inr (ro t [x])))).getD q aK=st.slots.getD q aK:=by simp[List.getD,eF (Ne.symm hq)]
   rw[e];exact RepV.pres cx hpres (h.rep q)
 ·exact h.names n (by rcases hn with⟨tk,ht,_⟩ | hn | hn<;>simp[nI]at *)
 ·rcases aA.1 hq with hq | hq
  ·have:=hK q v hq;exact⟨(h.kp q v hq).1,(hput q (by omega)).trans (h.kp q v hq).2⟩
  ·simp only[aJ,aM]at hq;obtain⟨rfl,rfl⟩:=hq;exact⟨hlo,hputd⟩
 ·rcases aA.1 hq with hq | hq
  ·obtain⟨v',k1,k2⟩:=h.pr q v hq;exact⟨v',aA.2 (.inl k1),PsO.mono (λb hb=>.inl hb) (λb hb=>hold b (hS b hb)) k2⟩
  ·simp only[aJ,aM]at hq;obtain⟨rfl,rfl⟩:=hq;exact⟨_,aA.2 (.inr (aJ.2 rfl)),hpt⟩
theorem aCI (ok:cx.Ok){β:Type}{ops:Array Oper}{args:List (A cx.ty)}{us:List Value}{lo:Nat}{Q:Exit->Act->World->Prop}{ev:List Oper->St cx.ty->Option β}{r:β}{w0:World}(hlen:us.length=args.length)
  (H:∀ (w:World) (S:Nat->Prop) (K:List (Nat×Value)) (st:St cx.ty) (a:Act) (l:List Oper) (i:Nat),(∀ j,l[j]?=ops[i+j]?)->RS cx (nI w S K) st a->Below w0.heap.size w0 w->ev l st=some r->wpOps P ops Q (List.range' i l.length) a w) :
  ∀ (l:List Oper) (i m:Nat) (w:World) (S:Nat->Prop) (K:List (Nat×Value)) (st:St cx.ty) (a:Act),(∀ j,l[j]?=ops[i+j]?)->RS cx (nI w S K) st a->Below w0.heap.size w0 w->w0.heap.size<=w.heap.size->args.length<=m->(∀ q u,(q,u)∈K->q < m)->ArgAs cx w S args us->(∀ p,p < args.length->a.tmps.getD p undef=us.getD p undef)->
   st.lo=lo->lo<=st.slots.length->ev (aEh cx args lo l m st).2 (aEh cx args lo l m st).1=some r->wpOps P ops Q (List.range' i l.length) a w
 | [],i,m,w,S,K,st,a,hl,h,hb,_,_,hK,_,_,_,_,he=>H w S K { st with lo:=m } a [] i hl ⟨h.wf,h.size,h.rep,h.defers,h.dead,h.frz,h.names,λp u hp=>⟨hK p u hp,(h.kp p u hp).2⟩,h.pr,h.pd⟩ hb he
 | o::rest,i,m,w,S,K,st,a,hl,h,hb,hsz,hm,hK,hA,hT,hlo,hlos,he=>by
  have stop:ev (o::rest) { st with lo:=m }=some r->wpOps P ops Q (List.range' i (o::rest).length) a w:=λhe=>H w S K { st with lo:=m } a (o::rest) i hl ⟨h.wf,h.size,h.rep,h.defers,h.dead,h.frz,h.names,λp u hp=>⟨hK p u hp,(h.kp p u hp).2⟩,h.pr,h.pd⟩ hb he
  unfold aEh at he;split at he
  ·rename_i t p d hbx;obtain⟨e1,e2,e3,e4,e5⟩:=aEZ hbx;split at he
   ·rename_i hmd;split at he
    ·rename_i A0 hA0;split at he
     ·rename_i hlf;split at he
      ·rename_i x hx;have h0:ops[i]?=some o:=by simpa using(hl 0).symm
       have hl':∀ j,rest[j]?=ops[i+1+j]?:=λj=>by have:=hl (j+1);simpa[eY,eA 1 j]using this
       have hpu:us[p]?=some (us.getD p undef):=by
        have:p < us.length:=by omega
        simp[List.getD,this]
       have hAp:ArgA cx w S A0 (us.getD p undef):=hA.2 p _ _ hA0 hpu;have hstep:=aDr (t:=t) ok h (by rw[hlo];exact e5) (λq u hq=>by have:=hK q u hq;omega) hlf hAp hx (by omega);have hS:∀ b,S b->b < w.heap.size:=λb hb=>by
        rcases fR b w.heap.size with h1 | h1
        ·exact h1
        ·exact absurd h1 (h.wf.start b hb)
       simp only[dJ,nC];rw[wpOps_cons];unfold wpOp;simp only[h0];have hwant:Region.wanted o (yielded ops a.tmps)=true:=by simp[Region.wanted,e3]
       rw[if_pos hwant];refine .inl (Oper.wp_of_runs ?_);have hrun:(execOp a.eval o).run P w=.ok (.value (.pointer (some ⟨w.heap.size,0,none⟩))) (w.alloc (.cells (a.eval (.tmp p)).cells t)):=by
        unfold execOp;simp[e1,Instr.box,newVar,newRow]
       unfold Runs;rw[hrun];have hev:a.eval (.tmp p)=us.getD p undef:=hT p e4;rw[e2,hev];refine aCI ok hlen H rest (i+1) (d+1) _ _ _ _ _ hl' hstep (hb.alloc hsz _) (by simp;omega) (by omega) (λq u hq=>?_) ⟨hA.1,λj A' u' k1 k2=>?_⟩ (λq hq=>?_) hlo (by show lo<=(st.slots.set d _).length;rw[cI];exact hlos) he
       ·rcases aA.1 hq with hq | hq
        ·have:=hK q u hq;omega
        ·simp only[aJ,aM]at hq;omega
       ·have:=hA.2 j A' u' k1 k2;exact PsO.mono (a:=.inl A') (λb hb=>.inl hb) (λb hb=>(gJ w _).block b (hS b hb)) this
       ·have hqd:q≠d:=by omega
        rw[<-hT q hq];simp[Act.put,aW,Ne.symm hqd]
      ·exact stop he
     ·exact stop he
    ·exact stop he
   ·exact stop he
  ·exact stop he
theorem aBG (ok:cx.Ok)(hZ:cx.POk P)(hm:P.follows .mixedOrders=true){f:FuncId}{fn:Func}(hf:P.funcs[f]?=some fn){F:List (A cx.ty)->Option (Bool×V cx.ty)}
  (h:∀ as r,F as=some (true,r)->∃ (ev:Env cx) (L:Nat),KOk P cx ev.Kc/\KwOk P cx ev.Kw/\aAm P ev (bB L) fn as=some r/\(cQ r=true\/bZ r=true)/\(∃ v,r=vv v)/\2 * as.length<=fn.ntmps):Sat P cx f F:=by
 intro w A0 l us r hA hargs hF;obtain⟨ev,L,hK,hKw,hev,hmix,⟨vr,hvr⟩,hnt⟩:=h l r hF;unfold aAm at hev;split at hev
 ·rename_i id ops rest hcode
  let K0:List (Nat×Value):=us.zipIdx.map λp=>(p.2,p.1)
  have hwf:Wf cx (nI (cx:=cx) w A0 K0):=⟨by simp[nI],by simp[nI],by simp[nI],by simp[nI],λb hb=>by have:=hA b hb;show ¬ w.heap.size<=b;omega,by simp[nI],λb hb=>hb⟩
  have hrd:∀ b,A0 b->Rd (nI (cx:=cx) w A0 K0) b:=λb hb=>⟨hA b hb,.inl hb,by simp[nI]⟩
  have htmp:∀ t,t < us.length->(us.toArray++Array.replicate (fn.ntmps-us.toArray.size) undef).getD t undef=us.getD t undef:=λt ht=>by
   simp[aW,jI,ht,List.getD]
  have hkm:∀ p u,(p,u)∈K0↔us[p]?=some u:=λp u=>by
   constructor
   ·intro hp;obtain⟨q,hq,he⟩:=aI.1 hp;simp only[aM]at he;have hq2:=gF.1 hq;rw[he.1,he.2]at hq2;exact hq2
   ·intro hp;exact aI.2 ⟨(u,p),gF.2 hp,rfl⟩
  have hargl:us.length=l.length:=hargs.1;refine calls_of_wp hf hcode ?_;refine wp_seq (wp_region ?_);rw[List.range_eq_range'];have hops:ops.toList.length=ops.size:=by simp
  rw[<-hops];refine aCI (args:=l) (us:=us) (w0:=w) (ev:=λq st=>eJ P ev.Kc ev.Kw (λ_ _=>none) ops (λst=>evC P ev (bB L) 0 rest st (aEJ P fn)) q st) (r:=r) (lo:=2 * l.length) ok hargl (λw1 S1 K1 st1 a1 l1 i1 hl1 h1 hb1 he1=>?_) ops.toList 0 l.length w A0 K0 (stL fn l) _ (λj=>by simp) ⟨hwf,?_,λt=>?_,rfl,λn=>by simp[nI,stL],λn=>by simp[nI,stL],λn hn=>?_,λp u hp=>?_,λp a hp=>?_,PdOK.none⟩ (Below.refl _ _) (aU _) (aU _) (λq u hq=>?_) hargs (λp hp=>htmp p (by omega)) rfl ?_ hev
  ·refine vL ok hZ hK hKw (W:=w1) (S:=S1) (N:=λb=>w1.heap.size<=b) (KK:=K1) (r:=r) (λv c st a h1 h2 h3 h4 h5=>by cases h5) (λc st a h2 h3 h4 h5 h6=>?_) l1 i1 hl1 st1 (nI w1 S1 K1) a1 h1 rfl ⟨rfl,rfl⟩ (Kept.refl _ _) he1;refine nY ok hZ ev L hK hKw hm (W:=w1) (S:=S1) (N:=λb=>w1.heap.size<=b) (KK:=K1) rest 0 _ _ (λe c' st' a' g1 g2 g3 g4 g5=>?_) st c a h2 h3 h4 h5 h6;have fin:aZ P fn st'=some r->a'.defers=[]/\∃ v,(results fn a'.tmps).run P c'.w=.ok v c'.w/\(∃ u,Ending.returned v=.returned u/\Below w.heap.size w c'.w/\ResV cx c'.w A0 (λb=>w.heap.size<=b) r u):=by
    intro ho;obtain⟨u,k1,k2⟩:=yH ok g1 ho hmix;refine⟨g1.defers,u,k1,u,rfl,?_,?_⟩
    ·exact hb1.trans (g4.low.mono hb1.size)
    ·subst hvr;obtain⟨fp,_,_,k3⟩:=k2;have k3:u=vr/\fp=[]:=k3;exact⟨[],by simp,by simp,k3.1,rfl⟩
   cases e with
   | normal=>exact fin g5
   | ret=>exact fin g5
   | _=>simp[aEJ,Kn.on]at g5
  ·simp[hargl,stL]
  ·show RepV cx (nI (cx:=cx) w A0 K0) ((l.map oW++List.replicate (fn.ntmps-l.length) (aK:V cx.ty)).getD t aK) _;by_cases ht:t < l.length
   ·have htu:t < us.length:=by omega
    have e1:(l.map oW++List.replicate (fn.ntmps-l.length) (aK:V cx.ty)).getD t aK=oW l[t]:=by
     simp[List.getD,bI,ht]
    have e2:(us.toArray++Array.replicate (fn.ntmps-us.toArray.size) undef).getD t undef=us[t]:=by
     simp[aW,jI,htu]
    rw[e1,e2];exact ArgA.repV hrd (hargs.2 t _ _ (aC ht) (aC htu))
   ·have e1:(l.map oW++List.replicate (fn.ntmps-l.length) (aK:V cx.ty)).getD t aK=aK:=by
     simp only[List.getD];rw[bG (by simp;omega)];simp only[cE,mU];split<;>rfl
    rw[e1]
    trivial
  ·rcases hn with⟨tk,ht,_⟩ | hn | hn
   ·simp[nI]at ht
   ·simp[nI]at hn
   ·simp[nI]at hn
  ·have hp:=(hkm p u).1 hp;have hpl:p < us.length:=(aF.1 hp).1;refine⟨by show p < 2 * l.length;omega,?_⟩;show(us.toArray++Array.replicate (fn.ntmps-us.toArray.size) undef).getD p undef=u;rw[htmp p hpl];simp[List.getD,hp]
  ·obtain⟨q,hq,he⟩:=aI.1 hp;simp only[aM]at he;obtain⟨he1,he2⟩:=he;subst he1;subst he2;have hq2:=gF.1 hq;have hpl:q.2 < us.length:=by rw[hargl];exact(aF.1 hq2).1
   exact⟨us[q.2],(hkm q.2 _).2 (aC hpl),hargs.2 q.2 q.1 _ hq2 (aC hpl)⟩
  ·have:=(aF.1 ((hkm q u).1 hq)).1;omega
  ·show 2 * l.length<=(l.map oW++List.replicate (fn.ntmps-l.length) (aK:V cx.ty)).length;simp;omega
 ·simp at hev
theorem aJK {P:Program}{cx:Cx}(ok:cx.Ok)(hZ:cx.POk P)(hm:P.follows .mixedOrders=true){f:FuncId}{fn:Func}(hf:P.funcs[f]?=some fn){X R:Type}(a:Args cx.ty X)(enc:R->V cx.ty)(d:R)(m:X->Option R)
  (ev:Env cx) (hK:KOk P cx ev.Kc) (hKw:KwOk P cx ev.Kw) (g:Nat->X->Option R) (he:∀ L x,aAm P ev (bB L) fn (a.enc x)=(g L x).map enc) (hg:∀ x t,m x=some t->∃ L,g L x=some t) (hs:∀ t,cQ (enc t)=true\/bZ (enc t)=true)
  (hp:∀ t,∃ v,enc t=vv v:=by exact λ_=>⟨_,rfl⟩) (hn:∀ x,2 * (a.enc x).length<=fn.ntmps:=by intro x;exact of_decide_eq_true rfl) :
  Sat P cx f (gD a enc d m):=by
 refine aBG ok hZ hm hf λas r h=>?_
 obtain⟨x,t,rfl,hx,rfl⟩:=aAc h;obtain⟨L,hL⟩:=hg x t hx;exact⟨ev,L,hK,hKw,by rw[he,hL];rfl,hs t,hp t,hn x⟩
end
end Go.VM
namespace Go.VM
open Go.IntKind (wrap)
open Go.RowKit
section
variable {cx : Cx} {P : Program}
end
end Go.VM
namespace Go.VM
open Go.IntKind (wrap)
open Go.RowKit
section
variable {cx : Cx} {P : Program}
end
end Go.VM
namespace Go.VM
open Go.IntKind (wrap)
open Go
theorem dt {c:Prop}[Decidable c](h:c):decide c=true:=decide_eq_true h
theorem df {c:Prop}[Decidable c](h:¬ c):decide c=false:=decide_eq_false h
theorem xQ {α:Type}[BEq α][LawfulBEq α]{a b:α}(h:¬ a=b):(a != b)=true:=by simpa using h
theorem xR {α:Type}[BEq α][LawfulBEq α]{a b:α}(h:a=b):(a != b)=false:=by simpa using h
theorem wi {x:Int}(h1:-9223372036854775808<=x)(h2:x<=9223372036854775807):wrap .i64 x=x:=by
 unfold wrap;simp[IntKind.bits,IntKind.signed];omega
theorem wu {x:Int}(h1:0<=x)(h2:x<=18446744073709551615):wrap .u64 x=x:=by
 unfold wrap;simp[IntKind.bits,IntKind.signed];omega
theorem lT {α:Type}{a:List α}{i:Nat}(d:α)(h:i < a.length):a.drop i=a.getD i d::a.drop (i+1):=by
 rw[dV h];simp[List.getD,aC h]
end Go.VM
namespace Go.VM
open Go.IntKind (wrap)
open Go Go.RowKit
def Lent (w:World)(b:Nat):Prop:=b < w.heap.size
theorem aDJ {w:World}{x:Addr}{v:Value}(h:w.cell? x=some v):x.spot=none/\x.block < w.heap.size:=by
 unfold World.cell? at h;split at h
 ·rename_i c e f hb;split at h
  ·simp at h
  ·rename_i hs;exact⟨by simpa using hs,(cM.1 hb).1⟩
 ·simp at h
theorem args_nil {cx:Cx}{w:World}{A0:Nat->Prop}:ArgAs cx w A0 [] []:=⟨rfl,λj a u h=>by simp at h⟩
theorem args_cons {cx:Cx}{w:World}{A0:Nat->Prop}{a:A cx.ty}{l:List (A cx.ty)}{u:Value}{us:List Value}(h:ArgA cx w A0 a u)(hs:ArgAs cx w A0 l us):ArgAs cx w A0 (a::l) (u::us):=
 ⟨by simp[hs.1],λj b v h1 h2=>by
  cases j with
  | zero=>
   simp only[aL,aB]at h1 h2;subst h1;subst h2;exact h
  | succ j=>exact hs.2 j b v (by simpa using h1) (by simpa using h2)⟩
theorem calls_true {P:Program}{cx:Cx}{f:FuncId}{X:Type}{a:Args cx.ty X}{d:Bool}{m:X->Option Bool}{enc:Bool->V cx.ty}(henc:enc true=.inl (.inl (lv (.bool true))))(hs:Sat P cx f (gD a enc d m)){w:World}
  {l:List (A cx.ty)} {us:List Value} {x:X} (hdec:a.dec l=some x) (hm:m x=some true) (hargs:ArgAs cx w (Lent w) l us) :
  Calls P f us.toArray w λe w'=>e=.returned (.bool true)/\Below w.heap.size w w':=by
 refine(hs w (Lent w) l us (enc true) (λb h=>h) hargs ?_).mono λe w' ⟨u,he,hb,hres⟩=>⟨?_,hb⟩
 ·unfold gD;rw[hdec];simp[hm]
 ·obtain⟨fp,_,_,hr⟩:=hres;rw[henc]at hr;have hr:u=.bool true/\fp=[]:=hr;rw[he,hr.1]
end Go.VM
