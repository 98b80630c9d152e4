/- A part of the proof of FnExactServeFrom: VmJ, VmK, VmL, VmM, VmN, VmO, VmP, VmPu, VmTop. -/
import Derived.Test.YtnmnomckcjihoaaGreatVmB
import Derived.Below
set_option linter.unusedSimpArgs false
set_option linter.unusedVariables false
namespace Go.VM
open Go.IntKind (wrap)
open Go.RowKit
structure LArg (ty:Nat->Type) (X:Type) where
 enc:X->L ty
 dec:L ty->Option X
 inv:∀ a x,dec a=some x->a=enc x
structure Arg (ty:Nat->Type) (X:Type) where
 enc:X->A ty
 dec:A ty->Option X
 inv:∀ a x,dec a=some x->a=enc x
def LArg.int {ty:Nat->Type}(k:IntKind):LArg ty Int:=
 {enc:=λx=>lv (.int k x),dec:=λa=>match a with | some (.inl v)=>aIk k v | _=>none,
  inv:=λa x h=>by
   split at h
   ·rename_i v;unfold aIk at h;split at h
    ·split at h
     ·rename_i hk;subst hk;cases h
      rfl
     ·simp at h
    ·simp at h
   ·simp at h }
def LArg.bool {ty:Nat->Type}:LArg ty Bool:=
 {enc:=λx=>lv (.bool x),dec:=λa=>match a with | some (.inl (.bool x))=>some x | _=>none,
  inv:=λa x h=>by
   split at h
   ·cases h;rfl
   ·simp at h }
def LArg.fn {ty:Nat->Type}(f:Nat):LArg ty Unit:=
 {enc:=λ_=>lv (.func (.func f) #[] #[]),
  dec:=λa=>match a with | some (.inl (.func (.func g) p q))=>if g=f/\p.toList.isEmpty/\q.toList.isEmpty then some ()else none | _=>none,
  inv:=λa x h=>by
   split at h
   ·rename_i g p q;split at h
    ·rename_i hc;simp only[oI]at hc;obtain⟨rfl,h1,h2⟩:=hc;have hp:p=#[]:=eW h1;have hq:q=#[]:=eW h2;subst hp;subst hq
     rfl
    ·simp at h
   ·simp at h }
def LArg.row {ty:Nat->Type}(e:Nat):LArg ty (List (ty e)):=
 {enc:=λx=>ls (ro e x),dec:=λa=>match a with | some (.inr s)=>if s.own == 0&&s.nm == 0&&!s.o then aAA e s else none | _=>none,
  inv:=λa x h=>by
   split at h
   ·rename_i s;split at h
    ·rename_i hc;simp only[aF,beq_iff_eq,bT]at hc;unfold aAA at h;split at h
     ·rename_i he;obtain⟨own,nm,e2,o2,xs⟩:=s;simp only at he hc;obtain⟨⟨rfl,rfl⟩,rfl⟩:=hc;subst he;cases h
      rfl
     ·simp at h
    ·simp at h
   ·simp at h }
def Arg.leaf {ty:Nat->Type}{X:Type}(a:LArg ty X):Arg ty X:=
 {enc:=λx=>.inl (a.enc x),dec:=λl=>match l with | .inl l=>a.dec l | _=>none,
  inv:=λl x h=>by
   split at h
   ·rename_i l;rw[a.inv l x h]
   ·simp at h }
abbrev Arg.int {ty:Nat->Type}(k:IntKind):Arg ty Int:=Arg.leaf (LArg.int k)
abbrev Arg.bool {ty:Nat->Type}:Arg ty Bool:=Arg.leaf LArg.bool
def aPc {ty:Nat->Type}(e:Nat)(s:SlD ty):Option (ty e):=if h:s.e=e then(match h▸s.xs with | [x]=>some x | _=>none)else none
def LArg.ptr {ty:Nat->Type}(e:Nat):LArg ty (ty e):=
 {enc:=λx=>some (.inr { own:=3,nm:=0,e:=e,o:=false,xs:=[x] }),dec:=λa=>match a with | some (.inr s)=>if s.own == 3&&s.nm == 0&&!s.o then aPc e s else none | _=>none,
  inv:=λa x h=>by
   split at h
   ·rename_i s;split at h
    ·rename_i hc;simp only[aF,beq_iff_eq,bT]at hc;unfold aPc at h;split at h
     ·rename_i he;obtain⟨own,nm,e2,o2,xs⟩:=s;simp only at he hc;obtain⟨⟨rfl,rfl⟩,rfl⟩:=hc;subst he;simp only at h
      match xs,h with
      | [y],h=>cases h;rfl
      | [],h=>simp at h
      | _::_::_,h=>simp at h
     ·simp at h
    ·simp at h
   ·simp at h }
abbrev Arg.row {ty:Nat->Type}(e:Nat):Arg ty (List (ty e)):=Arg.leaf (LArg.row e)
structure SArg (ty:Nat->Type) (X:Type) where
 enc:X->List (L ty)
 dec:List (L ty)->Option X
 inv:∀ a x,dec a=some x->a=enc x
def SArg.one {ty:Nat->Type}{X:Type}(a:LArg ty X):SArg ty X:=
 {enc:=λx=>[a.enc x],dec:=λl=>match l with | [p]=>a.dec p | _=>none,
  inv:=λl x h=>by
   split at h
   ·rename_i p;rw[a.inv p x h]
   ·simp at h }
def SArg.cons {ty:Nat->Type}{X Y:Type}(a:LArg ty X)(s:SArg ty Y):SArg ty (X×Y):=
 {enc:=λx=>a.enc x.1::s.enc x.2,dec:=λl=>match l with | p::q=>(a.dec p).bind λx=>(s.dec q).map λy=>(x,y) | _=>none,
  inv:=λl x h=>by
   split at h
   ·rename_i p q;cases h1:a.dec p with
    | none=>rw[h1]at h;simp at h
    | some u=>
     cases h2:s.dec q with
     | none=>rw[h1,h2]at h;simp at h
     | some v=>
      rw[h1,h2]at h;simp only[fQ,aC,aB]at h;subst h;rw[a.inv p u h1,s.inv q v h2]
   ·simp at h }
def Arg.agg {ty:Nat->Type}{X:Type}(s:SArg ty X):Arg ty X:=
 {enc:=λx=>.inr (s.enc x),dec:=λl=>match l with | .inr l=>s.dec l | _=>none,
  inv:=λl x h=>by
   split at h
   ·rename_i l;rw[s.inv l x h]
   ·simp at h }
structure Args (ty:Nat->Type) (X:Type) where
 enc:X->List (A ty)
 dec:List (A ty)->Option X
 inv:∀ a x,dec a=some x->a=enc x
def Args.nil {ty:Nat->Type}:Args ty Unit:=
 {enc:=λ_=>[],dec:=λl=>match l with | []=>some () | _=>none,
  inv:=λl x h=>by
   split at h
   ·rfl
   ·simp at h }
def Args.one {ty:Nat->Type}{X:Type}(a:Arg ty X):Args ty X:=
 {enc:=λx=>[a.enc x],dec:=λl=>match l with | [p]=>a.dec p | _=>none,
  inv:=λl x h=>by
   split at h
   ·rename_i p;rw[a.inv p x h]
   ·simp at h }
def Args.cons {ty:Nat->Type}{X Y:Type}(a:Arg ty X)(s:Args ty Y):Args ty (X×Y):=
 {enc:=λx=>a.enc x.1::s.enc x.2,dec:=λl=>match l with | p::q=>(a.dec p).bind λx=>(s.dec q).map λy=>(x,y) | _=>none,
  inv:=λl x h=>by
   split at h
   ·rename_i p q;cases h1:a.dec p with
    | none=>rw[h1]at h;simp at h
    | some u=>
     cases h2:s.dec q with
     | none=>rw[h1,h2]at h;simp at h
     | some v=>
      rw[h1,h2]at h;simp only[fQ,aC,aB]at h;subst h;rw[a.inv p u h1,s.inv q v h2]
   ·simp at h }
def fP {cx:Cx}{X R:Type}(a:Args cx.ty X)(enc:R->V cx.ty)(d:R)(m:X->Option R):List (A cx.ty)->Option (Bool×V cx.ty):=
 λl=>(a.dec l).map λx=>((m x).isSome,enc ((m x).getD d))
theorem wK {cx:Cx}{X R:Type}{a:Args cx.ty X}{enc:R->V cx.ty}{d:R}{m:X->Option R}{l:List (A cx.ty)}{r:V cx.ty}(h:fP a enc d m l=some (true,r)):∃ x t,l=a.enc x/\m x=some t/\r=enc t:=by
 unfold fP at h;cases h1:a.dec l with
 | none=>rw[h1]at h;simp at h
 | some x=>
  rw[h1]at h;simp only[aC,aB,aQ]at h;cases h2:m x with
  | none=>rw[h2]at h;simp at h
  | some t=>
   rw[h2]at h;exact⟨x,t,a.inv l x h1,h2,h.2.symm⟩
theorem cT {P:Program}{cx:Cx}(ok:cx.Ok)(hZ:cx.POk P)(hm:P.follows .mixedOrders=true){f:FuncId}{fn:Func}(hf:P.funcs[f]?=some fn){X R:Type}(a:Args cx.ty X)(enc:R->V cx.ty)(d:R)(m:X->Option R)
  (ev:Env cx) (hK:KOk P cx ev.Kc) (hKw:KwOk P cx ev.Kw) (g:Nat->X->Option R) (he:∀ L x,dP P ev (aW L) fn (a.enc x)=(g L x).map enc) (hg:∀ x t,m x=some t->∃ L,g L x=some t) (hs:∀ t,cH (enc t)=true\/bX (enc t)=true) :
  Sat P cx f (fP a enc d m):=by
 refine aAy ok hZ hm hf λas r h=>?_
 obtain⟨x,t,rfl,hx,rfl⟩:=wK h;obtain⟨L,hL⟩:=hg x t hx;exact⟨ev,L,hK,hKw,by rw[he,hL];rfl,hs t⟩
def dL {cx:Cx}:List (FuncId×(List (A cx.ty)->Option (Bool×V cx.ty)))->Kt cx
 | [],_=>none
 | (f,F)::r,g=>if g=f then some F else dL r g
theorem bG {P:Program}{cx:Cx}:KOk P cx (dL []):=λ_ _ h=>by simp[dL]at h
theorem aY {P:Program}{cx:Cx}{f:FuncId}{F:List (A cx.ty)->Option (Bool×V cx.ty)}{r:List (FuncId×(List (A cx.ty)->Option (Bool×V cx.ty)))}(h:Sat P cx f F)(hr:KOk P cx (dL r)):KOk P cx (dL ((f,F)::r)):=by
 intro g G hG;unfold dL at hG;split at hG
 ·rename_i he;subst he;cases hG;exact h
 ·exact hr g G hG
theorem aP {α β:Type}(f:α->β)(c:Bool)(a b:Option α):(bif c then a else b).map f=bif c then a.map f else b.map f:=by cases c<;>rfl
end Go.VM
namespace Go.VM
open Go.IntKind (wrap)
open Go.RowKit
def zI:List Nat->Code->Code
 | [],c=>c
 | i::p,c=>match c with
  | .seq x y=>zI p (if i=0 then x else y)
  | .cond _ x y=>zI p (if i=0 then x else y)
  | .block _ c=>zI p c
  | .loop c=>zI p c
  | _=>.skip
def aG2 (fn:Func)(p:List Nat):Code:=match fn.body with | some c=>zI p c | none=>.skip
section
variable {cx : Cx} {β : Type}
def aA3 (P:Program)(ev:Env cx)(lp:Lp cx β):List Nat->Nat->Code->Kn cx β->Kn cx β
 | [],_,_,k=>k
 | i::p,bid,c,k=>match c with
  | .seq x y=>if i=0 then aA3 P ev lp p bid x (aHy (evC P ev lp bid y) k)else aA3 P ev lp p bid y k
  | .cond _ x y=>aA3 P ev lp p bid (if i=0 then x else y) k
  | .block id c=>aA3 P ev lp p id c (aG5 id (ev.xv id) k)
  | .loop c=>aA3 P ev lp p bid c k
  | _=>k
def aJ6 (P:Program)(ev:Env cx)(L:Nat)(fn:Func)(id:Nat)(p:List Nat):St cx.ty->Kn cx β->Option β:=evC P ev (aW L) id (aG2 fn p)
def bR (P:Program)(ev:Env cx)(L:Nat)(fn:Func)(id:Nat)(p:List Nat)(K:Kn cx β)(n:Nat)(st:St cx.ty):Option β:=
 xN (aJ6 P ev L fn id p) (canon (ev.lv id)) (aG5 id (ev.xv id) K) n st
def dQ (P:Program)(ev:Env cx)(L:Nat)(fn:Func)(id:Nat)(p:List Nat)(K:Kn cx β)(g:St cx.ty->Option β)(st:St cx.ty):Option β:=
 aJ6 P ev L fn id p st (aHy (λst' _=>g (canon (ev.lv id) st')) (aG5 id (ev.xv id) K))
theorem bS (P:Program)(ev:Env cx)(L:Nat)(fn:Func)(id:Nat)(p:List Nat)(K:Kn cx β)(n:Nat)(st:St cx.ty) :
  bR P ev L fn id p K (n+1) st=dQ P ev L fn id p K (bR P ev L fn id p K n) st:=rfl
def bM (P:Program)(ev:Env cx)(L:Nat)(fn:Func)(p:List Nat)(fin:St cx.ty->Option β):Kn cx β:=aA3 P ev (aW L) p 0 (aG2 fn []) { n:=fin,x:=λ_ _=>none,r:=fin }
def cA (fin:St cx.ty->Option β)(k:St cx.ty->Option β)(x:Nat->St cx.ty->Option β):Kn cx β:={ n:=k,x:=x,r:=fin }
end
end Go.VM
namespace Go.VM
open Go.IntKind (wrap)
open Go.RowKit
section
variable {cx : Cx} {P : Program}
def wY {ty:Nat->Type}:Nat->List (V ty)->Option (List (A ty))
 | 0,_=>some []
 | n+1,.inl a::r=>match wY n r with
  | some l=>some (a::l)
  | none=>none
 | _,_=>none
def fH (P:Program)(fn:Func)(n:Nat)(st:St cx.ty):Option (List (A cx.ty)):=
 match uR P st.slots fn.results.toList,wY n st.slots with
 | some rs,some ks=>match tV P st.D st.F (fn.resultTypes.toList++fn.params.toList.take n) [] (rs++ks)with
  | some (as',_)=>some as'
  | none=>none
 | _,_=>none
def nQ (P:Program)(ev:Env cx)(lp:Lp cx (List (A cx.ty)))(fn:Func)(n:Nat)(args:List (A cx.ty)):Option (List (A cx.ty)):=
 match fn.body with
 | some code=>if decide (args.length<=1000)&&args.all (aAZ 16)&&decide (n<=args.length)then
   evC P ev lp 0 code { slots:=(fG 0 args).map .inl++List.replicate (fn.ntmps-args.length) aI,D:=[],F:=[],ctr:=1,lo:=n } { n:=fH P fn n,x:=λ_ _=>none,r:=fH P fn n }
  else none
 | none=>none
theorem oN:∀ (l:List ResultVar) (slots:List (V cx.ty)) (as:List (A cx.ty)),uR P slots l=some as->as.length=l.length
 | [],_,as,h=>by simp only[uR,aB]at h;subst h;rfl
 | .tmp t::r,slots,as,h=>by
  simp only[uR]at h;split at h
  ·rename_i a as' e1 e2;simp only[aB]at h;subst h;simp[oN r slots as' e2]
  ·simp at h
 | .cell t ty::r,slots,as,h=>by
  simp only[uR]at h;split at h
  ·rename_i p as' e1 e2;split at h
   ·split at h
    ·simp only[aB]at h;subst h;simp[oN r slots as' e2]
    ·simp at h
   ·simp at h
  ·simp at h
theorem wX:∀ (n:Nat) (slots:List (V cx.ty)) (ks:List (A cx.ty)),wY n slots=some ks->ks.length=n/\∀ (j:Nat) a,ks[j]?=some a->slots[j]?=some (.inl a)
 | 0,_,ks,h=>by
  simp only[wY,aB]at h;subst h;exact⟨rfl,λj a h=>by simp at h⟩
 | n+1,.inl a::r,ks,h=>by
  simp only[wY]at h;split at h
  ·rename_i l hl;simp only[aB]at h;subst h;have:=wX n r l hl;refine⟨by simp[this.1],λj b hj=>?_⟩;cases j with
   | zero=>
    simp only[aM,aB]at hj;subst hj
    rfl
   | succ j=>simpa using this.2 j b (by simpa using hj)
  ·simp at h
 | n+1,[],ks,h=>by simp[wY]at h
 | n+1,.inr _::r,ks,h=>by simp[wY]at h
theorem aEY {c:Ct cx.ty}{l1 l2:List (A cx.ty)}{u1 u2:List Value}(h1:RepAs cx c l1 u1)(h2:RepAs cx c l2 u2):RepAs cx c (l1++l2) (u1++u2):=by
 refine⟨by simp[h1.1,h2.1],λj a u e1 e2=>?_⟩;by_cases hj:j < l1.length
 ·rw[bI hj]at e1;rw[bI (by rw[h1.1];exact hj)]at e2;exact h1.2 j a u e1 e2
 ·rw[bE (by omega)]at e1;rw[bE (by rw[h1.1];omega),h1.1]at e2;exact h2.2 _ a u e1 e2
theorem aE3 (ok:cx.Ok){fn:Func}{n:Nat}{st:St cx.ty}{c:Ct cx.ty}{a:Act}(h:RS cx c st a){us:List Value}(hn:n<=us.length)(hk:∀ p,p < n->a.tmps.getD p undef=us.getD p undef){cs:List (A cx.ty)}(ho:fH P fn n st=some cs)(hro:cH (.inr (.inl cs):V cx.ty)=true) :
  ∃ rs:List Value,(results fn a.tmps).run P c.w=.ok (sB rs) c.w/\rs.length=fn.results.size/\ResV cx c.w c.S c.N (.inr (.inl cs)) (.tuple (rs++us.take n).toArray):=by
 unfold fH at ho;split at ho
 ·rename_i rs ks e1 e2;split at ho
  ·rename_i as' s1 e3;simp only[aB]at ho;subst ho;obtain⟨ur,h1,h2⟩:=mL (P:=P) ok h.wf h.rep _ _ e1;obtain⟨hkl,hkg⟩:=wX n st.slots ks e2;have h3:RepAs cx c ks (us.take n):=by
    refine⟨by simp[hkl];omega,λj b u g1 g2=>?_⟩;have hj:j < n:=by rw[<-hkl];exact(aG.1 g1).1
    have hs:=hkg j b g1;have hr:=h.rep j;rw[show st.slots.getD j aI=.inl b by simp[List.getD,hs],hk j hj]at hr;have:us.getD j undef=u:=by
     rw[cN,if_pos hj]at g2;simp[List.getD,g2]
    rw[this]at hr;exact hr
   obtain⟨fps,h4,h5⟩:=rF h.wf h.dead h.frz _ _ _ _ _ _ (aEY h2 h3) e3;refine⟨ur,?_,?_,List.flatten fps,h5.nd,λb hb=>?_,ur++us.take n,fps,rfl,rfl,h4.1,h4.2.1,λj a b f g1 g2 g3=>?_⟩
   ·rw[xB];simp only[Sem.run_bind,h1,Result.andThen_ok,Sem.run_pure]
    rfl
   ·rw[h2.1,oN _ _ _ e1];simp
   ·obtain⟨tk,k1,_,_,k4⟩:=h5.src b hb;exact h.wf.bound tk k1 b k4
   ·exact mP (bY.1 hro a (aS g1)) (h4.2.2 j a b f g1 g2 g3)
  ·simp at ho
 ·simp at ho
theorem aC6 (ok:cx.Ok)(hZ:cx.POk P)(hm:P.follows .mixedOrders=true){f:FuncId}{fn:Func}(hf:P.funcs[f]?=some fn){n:Nat}{F:List (A cx.ty)->Option (Bool×List (A cx.ty))}
  (h:∀ as cs,F as=some (true,cs)->∃ (ev:Env cx) (L:Nat),KOk P cx ev.Kc/\KwOk P cx ev.Kw/\nQ P ev (aW L) fn n as=some cs/\cH (.inr (.inl cs):V cx.ty)=true):SatW P cx f fn.results.size n F:=by
 intro w l us fps cs hargs hnd hlt hF;obtain⟨ev,L,hK,hKw,hev,hmix⟩:=h l cs hF;unfold nQ at hev;split at hev
 ·rename_i code hcode;split at hev
  ·rename_i hc;simp only[aF,decide_eq_true_eq]at hc;obtain⟨⟨hl1000,hfit⟩,hnl⟩:=hc;obtain⟨N,hN⟩:=pI l us fps 0 hfit hargs
   let c:Ct cx.ty:={ T:=N,D:=[],F:=[],w:=w,S:=λ_=>False,N:=λb=>w.heap.size<=b\/b∈List.flatten fps,K:=(us.take n).zipIdx.map λp=>(p.2,p.1) }
   have hbn:∀ tk∈N,∀ b∈vb tk.u++tk.fp,b∈List.flatten fps:=λtk ht b hb=>by
    rw[<-hN.fp];exact bB.2 ⟨tk,ht,hb⟩
   have hwf:Wf cx c:=⟨hN.nd,by show(N.flatMap _).Nodup;rw[hN.fp];exact hnd,λtk ht b hb=>⟨.inr (hbn tk ht b hb),hlt b (hbn tk ht b hb)⟩,λtk ht=>by
     exact(hN.tok tk ht).2 c rfl (λb hb=>hb.elim),λb hb=>hb.elim,λtk _=>⟨by simp[c],by simp[c]⟩,λb hb=>.inl hb⟩
   have hrep:=hN.rep c rfl (λtk ht=>⟨ht,by simp[c],by simp[c]⟩) (λb hb=>hb.elim);have hkmem:∀ p u,(p,u)∈c.K->p < n/\us.getD p undef=u:=λp u hp=>by
    obtain⟨q,hq,he⟩:=aJ.1 hp;simp only[aQ]at he;have hq2:=eI.1 hq;rw[he.1,he.2]at hq2;rw[cN]at hq2;split at hq2
    ·rename_i hpn;exact⟨hpn,by simp[List.getD,hq2]⟩
    ·simp at hq2
   refine calls_of_wp hf hcode ?_;refine nR ok hZ ev L hK hKw hm (W:=w) (S:=λ_=>False) (N:=λb=>w.heap.size<=b\/b∈List.flatten fps) (KK:=c.K) code 0 _ _ (λe c' st' a' h1 h2 h3 h4 h5=>?_) _ c _ ⟨hwf,?_,λt=>?_,rfl,λn=>by simp[c],λn=>by simp[c],λm hm=>?_,λp u hp=>?_,PrOK.nil,PdOK.none⟩ rfl ⟨rfl,rfl⟩ (Kept.refl _ _) hev
   ·have fin:fH P fn n st'=some cs->a'.defers=[]/\∃ v,(results fn a'.tmps).run P c'.w=.ok v c'.w/\(∃ rs:List Value,Ending.returned v=.returned (sB rs)/\rs.length=fn.results.size/\Kept (λb=>w.heap.size<=b\/b∈List.flatten fps) w c'.w ∧
      ResV cx c'.w (λ_=>False) (λb=>w.heap.size<=b\/b∈List.flatten fps) (.inr (.inl cs)) (.tuple (rs++us.take n).toArray)):=by
     intro ho;obtain⟨rs,h6,h7,h8⟩:=aE3 ok h1 (us:=us) (by rw[hargs.1];exact hnl) (λp hp=>by
      have hpu:p < us.length:=by rw[hargs.1];omega
      have:(p,us.getD p undef)∈c'.K:=by
       rw[h3.2];refine aJ.2 ⟨(us.getD p undef,p),eI.2 ?_,rfl⟩;simp only;rw[cN,if_pos hp,aD hpu];simp[List.getD,hpu]
      exact(h1.kp _ _ this).2) ho hmix
     rw[h2,h3.1]at h8;exact⟨h1.defers,_,h6,rs,rfl,h7,h4,h8⟩
    cases e with
    | normal=>exact fin h5
    | ret=>exact fin h5
    | exit i=>simp[Kn.on]at h5
    | _=>simp[Kn.on]at h5
   ·simp[hargs.1,jU]
   ·show RepV cx c _ _;by_cases ht:t < l.length
    ·have htu:t < us.length:=by rw[hargs.1];exact ht
     have htb:t < (fG 0 l).length:=by rw[jU];exact ht
     have e1:((fG 0 l).map Sum.inl++List.replicate (fn.ntmps-l.length) (aI:V cx.ty)).getD t aI=.inl (fG 0 l)[t]:=by
      simp[List.getD,bI,htb]
     have e2:(us.toArray++Array.replicate (fn.ntmps-us.toArray.size) undef).getD t undef=us[t]:=by
      simp[aX,gA,htu]
     rw[e1,e2];exact hrep.2 t _ _ (aD htb) (aD htu)
    ·have e1:((fG 0 l).map Sum.inl++List.replicate (fn.ntmps-l.length) (aI:V cx.ty)).getD t aI=aI:=by
      simp only[List.getD];rw[bE (by simp[jU];omega)];simp only[cU,jF];split<;>rfl
     rw[e1]
     trivial
   ·rcases hm with⟨tk,ht,rfl⟩ | hm | hm
    ·have:=(hN.nm tk ht).2;show tk.nm < 1 * 65536;omega
    ·simp[c]at hm
    ·simp[c]at hm
   ·have:=hkmem p u hp;refine⟨this.1,?_⟩;have hpu:p < us.length:=by rw[hargs.1];omega
    show(us.toArray++Array.replicate (fn.ntmps-us.toArray.size) undef).getD p undef=u;have e2:(us.toArray++Array.replicate (fn.ntmps-us.toArray.size) undef).getD p undef=us[p]:=by
     simp[aX,gA,hpu]
    rw[e2,<-this.2];simp[List.getD,hpu]
  ·simp at hev
 ·simp at hev
def LArg.own {ty:Nat->Type}(e:Nat):LArg ty (List (ty e)):=
 {enc:=λx=>ls { own:=2,nm:=0,e:=e,o:=true,xs:=x },dec:=λa=>match a with | some (.inr s)=>if s.own == 2&&s.nm == 0&&s.o then aAA e s else none | _=>none,
  inv:=λa x h=>by
   split at h
   ·rename_i s;split at h
    ·rename_i hc;simp only[aF,beq_iff_eq]at hc;unfold aAA at h;split at h
     ·rename_i he;obtain⟨own,nm,e2,o2,xs⟩:=s;simp only at he hc;obtain⟨⟨rfl,rfl⟩,rfl⟩:=hc;subst he;cases h
      rfl
     ·simp at h
    ·simp at h
   ·simp at h }
def fnW {cx:Cx}{X R:Type}(a:Args cx.ty X)(enc:R->List (A cx.ty))(d:R)(m:X->Option R):List (A cx.ty)->Option (Bool×List (A cx.ty)):=
 λl=>(a.dec l).map λx=>((m x).isSome,enc ((m x).getD d))
theorem aIf {cx:Cx}{X R:Type}{a:Args cx.ty X}{enc:R->List (A cx.ty)}{d:R}{m:X->Option R}{l:List (A cx.ty)}{r:List (A cx.ty)}(h:fnW a enc d m l=some (true,r)):∃ x t,l=a.enc x/\m x=some t/\r=enc t:=by
 unfold fnW at h;cases h1:a.dec l with
 | none=>rw[h1]at h;simp at h
 | some x=>
  rw[h1]at h;simp only[aC,aB,aQ]at h;cases h2:m x with
  | none=>rw[h2]at h;simp at h
  | some t=>
   rw[h2]at h;exact⟨x,t,a.inv l x h1,h2,h.2.symm⟩
theorem tS {P:Program}{cx:Cx}(ok:cx.Ok)(hZ:cx.POk P)(hm:P.follows .mixedOrders=true){f:FuncId}{fn:Func}(hf:P.funcs[f]?=some fn){nres n:Nat}(hnr:fn.results.size=nres){X R:Type}(a:Args cx.ty X)(enc:R->List (A cx.ty))(d:R)(m:X->Option R)
  (ev:Env cx) (hK:KOk P cx ev.Kc) (hKw:KwOk P cx ev.Kw) (g:Nat->X->Option R) (he:∀ L x,nQ P ev (aW L) fn n (a.enc x)=(g L x).map enc) (hg:∀ x t,m x=some t->∃ L,g L x=some t) (hs:∀ t,cH (.inr (.inl (enc t)):V cx.ty)=true) :
  SatW P cx f nres n (fnW a enc d m):=by
 subst hnr;refine aC6 ok hZ hm hf λas r h=>?_
 obtain⟨x,t,rfl,hx,rfl⟩:=aIf h;obtain⟨L,hL⟩:=hg x t hx;exact⟨ev,L,hK,hKw,by rw[he,hL];rfl,hs t⟩
def dK {cx:Cx}:List (FuncId×WFn cx)->Kwt cx
 | [],_=>none
 | (f,F)::r,g=>if g=f then some F else dK r g
theorem aZ {P:Program}{cx:Cx}:KwOk P cx (dK []):=λ_ _ h=>by simp[dK]at h
theorem gF {P:Program}{cx:Cx}{f:FuncId}{F:WFn cx}{r:List (FuncId×WFn cx)}(h:SatOf P cx f F)(hr:KwOk P cx (dK r)):KwOk P cx (dK ((f,F)::r)):=by
 intro g G hG;unfold dK at hG;split at hG
 ·rename_i he;subst he;cases hG;exact h
 ·exact hr g G hG
theorem HalfL.rep (ok:cx.Ok){w:World}{S S':Nat->Prop}{s:SlD cx.ty}{u:Value}{fp:List Nat}(hS:∀ b,S b->S' b)(hf:∀ b∈fp,S' b)(h:HalfL cx w S s u fp):∃ n,RepL cx w S' n (some (.inr (ro s.e s.xs))) u:=by
 obtain⟨hfp,us,n,hrow,hl1,h⟩:=h;refine⟨n+1,?_⟩;rcases hrow.2 with⟨hu,h0⟩ | ⟨g,cap,cur,hu,hg,hh,hn,hm,hc,ht⟩
 ·exact⟨none,0,by rw[hu,show(ro s.e s.xs).xs.length=s.xs.length from rfl,h0],by rw[show(ro s.e s.xs).xs.length=s.xs.length from rfl];omega,.inl (bP h0)⟩
 ·refine⟨some ⟨g,0,none⟩,cap,hu,hn,.inr ⟨g,0,rfl,hf g (by rw[hfp,hu];simp[Value.ownBlock]),λi x hx j l hl=>?_⟩⟩;have hj:j < cx.size s.e:=by rw[<-ok.len s.e false x];exact(aG.1 hl).1
  have hl':(cx.enc s.e false x)[j]?=some l:=hl;rw[<-gR (cx.enc s.e false) (cx.size s.e) (λx=>ok.len s.e false x) s.xs i x hx j hj]at hl';have hlt:i * cx.size s.e+j < us.length:=by rw[hl1];exact(aG.1 hl').1
  have hc1:=aD hlt;refine⟨us[i * cx.size s.e+j],?_,RepL_mono cx (λ_ _=>rfl) hS _ _ _ (h _ _ _ hl' hc1)⟩;have:=hrow.cells (g:=g) (by rw[hu];rfl) _ _ hc1;show w.cell? ⟨g,0+(i * cx.size s.e+j),none⟩=_;simpa[Addr.add_lit]using this
end
end Go.VM
namespace Go.VM
open Go.IntKind (wrap)
open Go.RowKit
section
variable {cx : Cx} {P : Program}
structure OSf (c:Ct cx.ty) (seen seen':List Nat) (fp:List Nat):Prop where
 src:∀ b∈fp,∃ tk∈c.T,tk.nm∈seen'/\tk.nm∉seen/\b∈vb tk.u
 nd:fp.Nodup
 grow:∀ n∈seen,n∈seen'
 row:∀ b∈fp,∀ tk∈c.T,b∈vb tk.u->∃ s,tk.c=.inl s
theorem OSf.nil (c:Ct cx.ty)(seen:List Nat):OSf c seen seen []:=⟨by simp,by simp,λ_ h=>h,by simp⟩
theorem OSf.app {c:Ct cx.ty}(h:Wf cx c){s0 s1 s2 f1 f2:List Nat}(h1:OSf c s0 s1 f1)(h2:OSf c s1 s2 f2):OSf c s0 s2 (f1++f2):=by
 refine⟨λb hb=>?_,?_,λn hn=>h2.grow n (h1.grow n hn),λb hb tk ht hv=>(aA.1 hb).elim (λhb=>h1.row b hb tk ht hv) (λhb=>h2.row b hb tk ht hv)⟩
 ·rcases aA.1 hb with hb | hb
  ·obtain⟨tk,k1,k2,k3,k4⟩:=h1.src b hb;exact⟨tk,k1,h2.grow _ k2,k3,k4⟩
  ·obtain⟨tk,k1,k2,k3,k4⟩:=h2.src b hb;exact⟨tk,k1,k2,λhs=>k3 (h1.grow _ hs),k4⟩
 ·rw[aH];refine⟨h1.nd,h2.nd,λa ha b hb he=>?_⟩;subst he;obtain⟨t1,k1,k2,k3,k4⟩:=h1.src a ha;obtain⟨t2,m1,m2,m3,m4⟩:=h2.src a hb;exact cM h k1 m1 (λe=>m3 (e▸k2)) (aA.2 (.inl k4)) (aA.2 (.inl m4))
def zM {α β:Type}(x:α)(K:α->Option β):Option β:=K x
theorem aO {α β γ:Type}(x:α)(K:α->Option β)(f:β->γ):(zM x K).map f=zM x (λt=>(K t).map f):=rfl
theorem aDR {α β:Type}(x:α)(K:α->Option β):zM x K=K x:=rfl
def cK {α β:Type}(o:Option α)(d:α)(K:α->Option β):Option β:=bif o.isSome then K (o.getD d)else none
theorem aN {α β γ:Type}(o:Option α)(d:α)(K:α->Option β)(f:β->γ):(cK o d K).map f=cK o d (λt=>(K t).map f):=by
 cases o<;>rfl
theorem bJ {α β:Type}(v:α)(d:α)(K:α->Option β):cK (some v) d K=K v:=rfl
end
end Go.VM
namespace Go.VM
open Go.IntKind (wrap)
open Go.RowKit
section
variable {cx : Cx} {P : Program}
end
end Go.VM
namespace Go.VM
open Go.IntKind (wrap)
open Go.RowKit
section
variable {cx : Cx} {P : Program}
def aG1 (n lo:Nat)(o:Oper):Option (TypeId×Nat×Nat):=
 match o.op,o.dst,o.guard with
 | .box t (.tmp p),some d,none=>if p < n/\d < lo then some (t,p,d)else none
 | _,_,_=>none
theorem aG0 {n lo:Nat}{o:Oper}{t p d:Nat}(h:aG1 n lo o=some (t,p,d)):o.op=.box t (.tmp p)/\o.dst=some d/\o.guard=none/\p < n/\d < lo:=by
 unfold aG1 at h;split at h
 ·rename_i h1 h2 h3;split at h
  ·rename_i hc;simp only[aB,aQ]at h;obtain⟨rfl,rfl,rfl⟩:=h;exact⟨h1,h2,h3,hc.1,hc.2⟩
  ·simp at h
 ·simp at h
def tO {ty:Nat->Type}:A ty->List (L ty)
 | .inl l=>[l]
 | .inr l=>l
def aEt {ty:Nat->Type}:A ty->Bool
 | .inl l=>lY l&&!qB l
 | .inr _=>true
def aFY (cx:Cx)(args:List (A cx.ty))(lo:Nat):List Oper->Nat->St cx.ty->St cx.ty×List Oper
 | [],m,st=>({ st with lo:=m },[])
 | o::r,m,st=>match aG1 args.length lo o with
  | some (t,p,d)=>if m<=d then
    match args[p]? with
    | some a=>if aEt a then
      match cx.dec t (tO a)with
      | some x=>aFY cx args lo r (d+1) { st with slots:=st.slots.set d (psV (.inr (ro t [x]))),ps:=st.ps++[(d,.inr (ro t [x]))],pend:=none }
      | none=>({ st with lo:=m },o::r)
     else({ st with lo:=m },o::r)
    | none=>({ st with lo:=m },o::r)
   else({ st with lo:=m },o::r)
  | none=>({ st with lo:=m },o::r)
def stL (fn:Func)(args:List (A cx.ty)):St cx.ty:={ slots:=args.map qD++List.replicate (fn.ntmps-args.length) aI,D:=[],F:=[],ctr:=1,lo:=2 * args.length,ps:=args.zipIdx.map λp=>(p.2,.inl p.1) }
def aDz (P:Program)(ev:Env cx)(lp:Lp cx (V cx.ty))(fn:Func)(args:List (A cx.ty)):Option (V cx.ty):=
 match fn.body with
 | some (.seq (.region _ ops false) rest)=>
  (λq:St cx.ty×List Oper=>eO P ev.Kc ev.Kw (λ_ _=>none) ops (λst=>evC P ev lp 0 rest st (aGE P fn)) q.2 q.1)
   (aFY cx args (2 * args.length) ops.toList args.length (stL fn args))
 | _=>none
def oK (w:World)(S:Nat->Prop)(K:List (Nat×Value)):Ct cx.ty:={ T:=[],D:=[],F:=[],w:=w,S:=S,N:=λb=>w.heap.size<=b,K:=K }
theorem ArgA.cells {w:World}{S:Nat->Prop}{a:A cx.ty}{u:Value}(h:ArgA cx w S a u)(hl:aEt a=true):u.cells.toList.length=(tO a).length/\∀ (j:Nat) l v,(tO a)[j]?=some l->u.cells.toList[j]?=some v->ArgL cx w S l v:=by
 match a,h with
 | .inr l,⟨us,hu,hlen,hv⟩=>
  subst hu;exact⟨hlen,hv⟩
 | .inl l,h=>
  have hl:lY l=true/\qB l=false:=by simpa[aEt]using hl
  obtain⟨hl,hnp⟩:=hl;have h:ArgL cx w S l u:=by
   rwa [ArgA.atLeaf hnp]at h
  have hc:u.cells=#[u]:=by
   match l,h,hl with
   | some (.inl v),h,ho=>
    have h:u=v:=h;subst h;cases u<;>first | rfl | (simp[lY]at ho)
   | some (.inr s),⟨_,n,h⟩,_=>
    cases n with
    | zero=>simp[RepL]at h
    | succ n=>
     obtain⟨a,cap,hu,_⟩:=h;rw[hu];rfl
  rw[hc];refine⟨rfl,λj l' v h1 h2=>?_⟩;cases j with
  | zero=>
   simp[tO]at h1 h2;subst h1;subst h2;exact h
  | succ j=>simp[tO]at h1
theorem aE1 (ok:cx.Ok){w:World}{S:Nat->Prop}{K:List (Nat×Value)}{st:St cx.ty}{a:Act}(h:RS cx (oK w S K) st a){t d:Nat}(hlo:d < st.lo)(hK:∀ q u,(q,u)∈K->q < d){A:A cx.ty}(hl:aEt A=true){u:Value}(hA:ArgA cx w S A u)
  {x:cx.ty t} (hx:cx.dec t (tO A)=some x) (hlen:d < st.slots.length) :
  RS cx (oK (w.alloc (.cells u.cells t)) (λb=>S b\/b=w.heap.size) (K++[(d,.pointer (some ⟨w.heap.size,0,none⟩))])) { st with slots:=st.slots.set d (psV (.inr (ro t [x]))),ps:=st.ps++[(d,.inr (ro t [x]))],pend:=none } (a.put (some d) (.pointer (some ⟨w.heap.size,0,none⟩))):=by
 obtain⟨c1,c2⟩:=hA.cells hl;have hsz:(w.alloc (.cells u.cells t)).heap.size=w.heap.size+1:=by simp
 have hold:∀ b,b < w.heap.size->(w.alloc (.cells u.cells t)).heap[b]?=w.heap[b]?:=λb hb=>(hH w _).block b hb
 have hS:∀ b,S b->b < w.heap.size:=λb hb=>by
  rcases fX b w.heap.size with h1 | h1
  ·exact h1
  ·exact absurd h1 (h.wf.start b hb)
 have hnew:(w.alloc (.cells u.cells t)).heap[w.heap.size]?=some (.cells u.cells t (0,0)):=heap_alloc_new w _;have hpt:PtS cx (w.alloc (.cells u.cells t)) (λb=>S b\/b=w.heap.size) (ro t [x]) (.pointer (some ⟨w.heap.size,0,none⟩)):=
  aBm ok (.inr rfl) hnew c1 (λj l v h1 h2=>ArgL.mono (λb hb=>.inl hb) (λb hb=>hold b (hS b hb)) (c2 j l v h1 h2)) hx
 have hput:∀ q,q≠d->(a.put (some d) (.pointer (some ⟨w.heap.size,0,none⟩))).tmps.getD q undef=a.tmps.getD q undef:=λq hq=>by
  simp[Act.put,aX,Ne.symm hq]
 have hputd:(a.put (some d) (.pointer (some ⟨w.heap.size,0,none⟩))).tmps.getD d undef=.pointer (some ⟨w.heap.size,0,none⟩):=by
  have:d < a.tmps.size:=by rw[h.size];exact hlen
  simp[Act.put,aX,this]
 have hpres:Pres cx (oK w S K) (oK (w.alloc (.cells u.cells t)) (λb=>S b\/b=w.heap.size) (K++[(d,.pointer (some ⟨w.heap.size,0,none⟩))])):=by
  refine⟨λb hb=>⟨⟨?_,?_,by simp[oK]⟩,hold b hb.1⟩,λn h=>h,λn h=>h,λtk h=>by simp[oK]at h,λtk h=>by simp[oK]at h,λtk h=>by simp[oK]at h⟩
  ·show b < (w.alloc _).heap.size;rw[hsz];exact Nat.lt_succ_of_lt hb.1
  ·rcases hb.2.1 with k | k
   ·exact .inl (.inl k)
   ·exact absurd hb.1 (Nat.not_lt_of_le k)
 refine⟨⟨by simp[oK],by simp[oK],by simp[oK],by simp[oK],λb hb=>?_,by simp[oK],λb hb=>hb⟩,?_,λq=>?_,by rw[gB];exact h.defers,h.dead,h.frz,λn hn=>?_,λq v hq=>?_,λq v hq=>?_,PdOK.none⟩
 ·show ¬ (w.alloc _).heap.size<=b;rw[hsz];rcases hb with hb | hb
  ·have:=hS b hb;omega
  ·omega
 ·show(a.put _ _).tmps.size=(st.slots.set d _).length;rw[cD,<-h.size];simp[Act.put]
 ·show RepV cx _ ((st.slots.set d _).getD q aI) _;by_cases hq:q=d
  ·subst hq;rw[hputd];have e:(st.slots.set q (psV (.inr (ro t [x])))).getD q aI=psV (.inr (ro t [x])):=by simp[List.getD,hlen]
   rw[e];have hwf:Wf cx (oK (cx:=cx) (w.alloc (.cells u.cells t)) (λb=>S b\/b=w.heap.size) (K++[(q,.pointer (some ⟨w.heap.size,0,none⟩))])):=⟨by simp[oK],by simp[oK],by simp[oK],by simp[oK],λb hb=>by
    show ¬ (w.alloc _).heap.size<=b;rw[hsz];rcases hb with hb | hb
    ·have:=hS b hb;omega
    ·omega,by simp[oK],λb hb=>hb⟩
   exact PsO.repS (a:=.inr (ro t [x])) hwf hpt
  ·rw[hput q hq];have e:(st.slots.set d (psV (.inr (ro t [x])))).getD q aI=st.slots.getD q aI:=by simp[List.getD,eM (Ne.symm hq)]
   rw[e];exact RepV.pres cx hpres (h.rep q)
 ·exact h.names n (by rcases hn with⟨tk,ht,_⟩ | hn | hn<;>simp[oK]at *)
 ·rcases aA.1 hq with hq | hq
  ·have:=hK q v hq;exact⟨(h.kp q v hq).1,(hput q (by omega)).trans (h.kp q v hq).2⟩
  ·simp only[aL,aQ]at hq;obtain⟨rfl,rfl⟩:=hq;exact⟨hlo,hputd⟩
 ·rcases aA.1 hq with hq | hq
  ·obtain⟨v',k1,k2⟩:=h.pr q v hq;exact⟨v',aA.2 (.inl k1),PsO.mono (λb hb=>.inl hb) (λb hb=>hold b (hS b hb)) k2⟩
  ·simp only[aL,aQ]at hq;obtain⟨rfl,rfl⟩:=hq;exact⟨_,aA.2 (.inr (aL.2 rfl)),hpt⟩
theorem aEf (ok:cx.Ok){β:Type}{ops:Array Oper}{args:List (A cx.ty)}{us:List Value}{lo:Nat}{Q:Exit->Act->World->Prop}{ev:List Oper->St cx.ty->Option β}{r:β}{w0:World}(hlen:us.length=args.length)
  (H:∀ (w:World) (S:Nat->Prop) (K:List (Nat×Value)) (st:St cx.ty) (a:Act) (l:List Oper) (i:Nat),(∀ j,l[j]?=ops[i+j]?)->RS cx (oK w S K) st a->Below w0.heap.size w0 w->ev l st=some r->wpOps P ops Q (List.range' i l.length) a w) :
  ∀ (l:List Oper) (i m:Nat) (w:World) (S:Nat->Prop) (K:List (Nat×Value)) (st:St cx.ty) (a:Act),(∀ j,l[j]?=ops[i+j]?)->RS cx (oK w S K) st a->Below w0.heap.size w0 w->w0.heap.size<=w.heap.size->args.length<=m->(∀ q u,(q,u)∈K->q < m)->ArgAs cx w S args us->(∀ p,p < args.length->a.tmps.getD p undef=us.getD p undef)->
   st.lo=lo->lo<=st.slots.length->ev (aFY cx args lo l m st).2 (aFY cx args lo l m st).1=some r->wpOps P ops Q (List.range' i l.length) a w
 | [],i,m,w,S,K,st,a,hl,h,hb,_,_,hK,_,_,_,_,he=>H w S K { st with lo:=m } a [] i hl ⟨h.wf,h.size,h.rep,h.defers,h.dead,h.frz,h.names,λp u hp=>⟨hK p u hp,(h.kp p u hp).2⟩,h.pr,h.pd⟩ hb he
 | o::rest,i,m,w,S,K,st,a,hl,h,hb,hsz,hm,hK,hA,hT,hlo,hlos,he=>by
  have stop:ev (o::rest) { st with lo:=m }=some r->wpOps P ops Q (List.range' i (o::rest).length) a w:=λhe=>H w S K { st with lo:=m } a (o::rest) i hl ⟨h.wf,h.size,h.rep,h.defers,h.dead,h.frz,h.names,λp u hp=>⟨hK p u hp,(h.kp p u hp).2⟩,h.pr,h.pd⟩ hb he
  unfold aFY at he;split at he
  ·rename_i t p d hbx;obtain⟨e1,e2,e3,e4,e5⟩:=aG0 hbx;split at he
   ·rename_i hmd;split at he
    ·rename_i A0 hA0;split at he
     ·rename_i hlf;split at he
      ·rename_i x hx;have h0:ops[i]?=some o:=by simpa using(hl 0).symm
       have hl':∀ j,rest[j]?=ops[i+1+j]?:=λj=>by have:=hl (j+1);simpa[fJ,eG 1 j]using this
       have hpu:us[p]?=some (us.getD p undef):=by
        have:p < us.length:=by omega
        simp[List.getD,this]
       have hAp:ArgA cx w S A0 (us.getD p undef):=hA.2 p _ _ hA0 hpu;have hstep:=aE1 (t:=t) ok h (by rw[hlo];exact e5) (λq u hq=>by have:=hK q u hq;omega) hlf hAp hx (by omega);have hS:∀ b,S b->b < w.heap.size:=λb hb=>by
        rcases fX b w.heap.size with h1 | h1
        ·exact h1
        ·exact absurd h1 (h.wf.start b hb)
       simp only[dC,oH];rw[wpOps_cons];unfold wpOp;simp only[h0];have hwant:Region.wanted o (yielded ops a.tmps)=true:=by simp[Region.wanted,e3]
       rw[if_pos hwant];refine .inl (Oper.wp_of_runs ?_);have hrun:(execOp a.eval o).run P w=.ok (.value (.pointer (some ⟨w.heap.size,0,none⟩))) (w.alloc (.cells (a.eval (.tmp p)).cells t)):=by
        unfold execOp;simp[e1,Instr.box,newVar,newRow]
       unfold Runs;rw[hrun];have hev:a.eval (.tmp p)=us.getD p undef:=hT p e4;rw[e2,hev];refine aEf ok hlen H rest (i+1) (d+1) _ _ _ _ _ hl' hstep (hb.alloc hsz _) (by simp;omega) (by omega) (λq u hq=>?_) ⟨hA.1,λj A' u' k1 k2=>?_⟩ (λq hq=>?_) hlo (by show lo<=(st.slots.set d _).length;rw[cD];exact hlos) he
       ·rcases aA.1 hq with hq | hq
        ·have:=hK q u hq;omega
        ·simp only[aL,aQ]at hq;omega
       ·have:=hA.2 j A' u' k1 k2;exact PsO.mono (a:=.inl A') (λb hb=>.inl hb) (λb hb=>(hH w _).block b (hS b hb)) this
       ·have hqd:q≠d:=by omega
        rw[<-hT q hq];simp[Act.put,aX,Ne.symm hqd]
      ·exact stop he
     ·exact stop he
    ·exact stop he
   ·exact stop he
  ·exact stop he
theorem aC7 (ok:cx.Ok)(hZ:cx.POk P)(hm:P.follows .mixedOrders=true){f:FuncId}{fn:Func}(hf:P.funcs[f]?=some fn){F:List (A cx.ty)->Option (Bool×V cx.ty)}
  (h:∀ as r,F as=some (true,r)->∃ (ev:Env cx) (L:Nat),KOk P cx ev.Kc/\KwOk P cx ev.Kw/\aDz P ev (aW L) fn as=some r/\(cH r=true\/bX r=true)/\(∃ v,r=vv v)/\2 * as.length<=fn.ntmps):Sat P cx f F:=by
 intro w A0 l us r hA hargs hF;obtain⟨ev,L,hK,hKw,hev,hmix,⟨vr,hvr⟩,hnt⟩:=h l r hF;unfold aDz at hev;split at hev
 ·rename_i id ops rest hcode
  let K0:List (Nat×Value):=us.zipIdx.map λp=>(p.2,p.1)
  have hwf:Wf cx (oK (cx:=cx) w A0 K0):=⟨by simp[oK],by simp[oK],by simp[oK],by simp[oK],λb hb=>by have:=hA b hb;show ¬ w.heap.size<=b;omega,by simp[oK],λb hb=>hb⟩
  have hrd:∀ b,A0 b->Rd (oK (cx:=cx) w A0 K0) b:=λb hb=>⟨hA b hb,.inl hb,by simp[oK]⟩
  have htmp:∀ t,t < us.length->(us.toArray++Array.replicate (fn.ntmps-us.toArray.size) undef).getD t undef=us.getD t undef:=λt ht=>by
   simp[aX,gA,ht,List.getD]
  have hkm:∀ p u,(p,u)∈K0↔us[p]?=some u:=λp u=>by
   constructor
   ·intro hp;obtain⟨q,hq,he⟩:=aJ.1 hp;simp only[aQ]at he;have hq2:=eI.1 hq;rw[he.1,he.2]at hq2;exact hq2
   ·intro hp;exact aJ.2 ⟨(u,p),eI.2 hp,rfl⟩
  have hargl:us.length=l.length:=hargs.1;refine calls_of_wp hf hcode ?_;refine wp_seq (wp_region ?_);rw[List.range_eq_range'];have hops:ops.toList.length=ops.size:=by simp
  rw[<-hops];refine aEf (args:=l) (us:=us) (w0:=w) (ev:=λq st=>eO P ev.Kc ev.Kw (λ_ _=>none) ops (λst=>evC P ev (aW L) 0 rest st (aGE P fn)) q st) (r:=r) (lo:=2 * l.length) ok hargl (λw1 S1 K1 st1 a1 l1 i1 hl1 h1 hb1 he1=>?_) ops.toList 0 l.length w A0 K0 (stL fn l) _ (λj=>by simp) ⟨hwf,?_,λt=>?_,rfl,λn=>by simp[oK,stL],λn=>by simp[oK,stL],λn hn=>?_,λp u hp=>?_,λp a hp=>?_,PdOK.none⟩ (Below.refl _ _) (aK _) (aK _) (λq u hq=>?_) hargs (λp hp=>htmp p (by omega)) rfl ?_ hev
  ·refine yS ok hZ hK hKw (W:=w1) (S:=S1) (N:=λb=>w1.heap.size<=b) (KK:=K1) (r:=r) (λv c st a h1 h2 h3 h4 h5=>by cases h5) (λc st a h2 h3 h4 h5 h6=>?_) l1 i1 hl1 st1 (oK w1 S1 K1) a1 h1 rfl ⟨rfl,rfl⟩ (Kept.refl _ _) he1;refine nR ok hZ ev L hK hKw hm (W:=w1) (S:=S1) (N:=λb=>w1.heap.size<=b) (KK:=K1) rest 0 _ _ (λe c' st' a' g1 g2 g3 g4 g5=>?_) st c a h2 h3 h4 h5 h6;have fin:aT P fn st'=some r->a'.defers=[]/\∃ v,(results fn a'.tmps).run P c'.w=.ok v c'.w/\(∃ u,Ending.returned v=.returned u/\Below w.heap.size w c'.w/\ResV cx c'.w A0 (λb=>w.heap.size<=b) r u):=by
    intro ho;obtain⟨u,k1,k2⟩:=aAI ok g1 ho hmix;refine⟨g1.defers,u,k1,u,rfl,?_,?_⟩
    ·exact hb1.trans (g4.low.mono hb1.size)
    ·subst hvr;obtain⟨fp,_,_,k3⟩:=k2;have k3:u=vr/\fp=[]:=k3;exact⟨[],by simp,by simp,k3.1,rfl⟩
   cases e with
   | normal=>exact fin g5
   | ret=>exact fin g5
   | _=>simp[aGE,Kn.on]at g5
  ·simp[hargl,stL]
  ·show RepV cx (oK (cx:=cx) w A0 K0) ((l.map qD++List.replicate (fn.ntmps-l.length) (aI:V cx.ty)).getD t aI) _;by_cases ht:t < l.length
   ·have htu:t < us.length:=by omega
    have e1:(l.map qD++List.replicate (fn.ntmps-l.length) (aI:V cx.ty)).getD t aI=qD l[t]:=by
     simp[List.getD,bI,ht]
    have e2:(us.toArray++Array.replicate (fn.ntmps-us.toArray.size) undef).getD t undef=us[t]:=by
     simp[aX,gA,htu]
    rw[e1,e2];exact ArgA.repV hrd (hargs.2 t _ _ (aD ht) (aD htu))
   ·have e1:(l.map qD++List.replicate (fn.ntmps-l.length) (aI:V cx.ty)).getD t aI=aI:=by
     simp only[List.getD];rw[bE (by simp;omega)];simp only[cU,jF];split<;>rfl
    rw[e1]
    trivial
  ·rcases hn with⟨tk,ht,_⟩ | hn | hn
   ·simp[oK]at ht
   ·simp[oK]at hn
   ·simp[oK]at hn
  ·have hp:=(hkm p u).1 hp;have hpl:p < us.length:=(aG.1 hp).1;refine⟨by show p < 2 * l.length;omega,?_⟩;show(us.toArray++Array.replicate (fn.ntmps-us.toArray.size) undef).getD p undef=u;rw[htmp p hpl];simp[List.getD,hp]
  ·obtain⟨q,hq,he⟩:=aJ.1 hp;simp only[aQ]at he;obtain⟨he1,he2⟩:=he;subst he1;subst he2;have hq2:=eI.1 hq;have hpl:q.2 < us.length:=by rw[hargl];exact(aG.1 hq2).1
   exact⟨us[q.2],(hkm q.2 _).2 (aD hpl),hargs.2 q.2 q.1 _ hq2 (aD hpl)⟩
  ·have:=(aG.1 ((hkm q u).1 hq)).1;omega
  ·show 2 * l.length<=(l.map qD++List.replicate (fn.ntmps-l.length) (aI:V cx.ty)).length;simp;omega
 ·simp at hev
theorem aIE {P:Program}{cx:Cx}(ok:cx.Ok)(hZ:cx.POk P)(hm:P.follows .mixedOrders=true){f:FuncId}{fn:Func}(hf:P.funcs[f]?=some fn){X R:Type}(a:Args cx.ty X)(enc:R->V cx.ty)(d:R)(m:X->Option R)
  (ev:Env cx) (hK:KOk P cx ev.Kc) (hKw:KwOk P cx ev.Kw) (g:Nat->X->Option R) (he:∀ L x,aDz P ev (aW L) fn (a.enc x)=(g L x).map enc) (hg:∀ x t,m x=some t->∃ L,g L x=some t) (hs:∀ t,cH (enc t)=true\/bX (enc t)=true)
  (hp:∀ t,∃ v,enc t=vv v:=by exact λ_=>⟨_,rfl⟩) (hn:∀ x,2 * (a.enc x).length<=fn.ntmps:=by intro x;exact of_decide_eq_true rfl) :
  Sat P cx f (fP a enc d m):=by
 refine aC7 ok hZ hm hf λas r h=>?_
 obtain⟨x,t,rfl,hx,rfl⟩:=wK h;obtain⟨L,hL⟩:=hg x t hx;exact⟨ev,L,hK,hKw,by rw[he,hL];rfl,hs t,hp t,hn x⟩
end
end Go.VM
namespace Go.VM
open Go.IntKind (wrap)
open Go.RowKit
section
variable {cx : Cx} {P : Program}
end
end Go.VM
namespace Go.VM
open Go.IntKind (wrap)
open Go.RowKit
section
variable {cx : Cx} {P : Program}
end
end Go.VM
namespace Go.VM
open Go.IntKind (wrap)
open Go
theorem dt {c:Prop}[Decidable c](h:c):decide c=true:=decide_eq_true h
theorem df {c:Prop}[Decidable c](h:¬ c):decide c=false:=decide_eq_false h
theorem iR {α:Type}[BEq α][LawfulBEq α]{a b:α}(h:¬ a=b):(a != b)=true:=by simpa using h
theorem iW {α:Type}[BEq α][LawfulBEq α]{a b:α}(h:a=b):(a != b)=false:=by simpa using h
theorem wi {x:Int}(h1:-9223372036854775808<=x)(h2:x<=9223372036854775807):wrap .i64 x=x:=by
 unfold wrap;simp[IntKind.bits,IntKind.signed];omega
theorem wu {x:Int}(h1:0<=x)(h2:x<=18446744073709551615):wrap .u64 x=x:=by
 unfold wrap;simp[IntKind.bits,IntKind.signed];omega
theorem mV {α:Type}{a:List α}{i:Nat}(d:α)(h:i < a.length):a.drop i=a.getD i d::a.drop (i+1):=by
 rw[dX h];simp[List.getD,aD h]
end Go.VM
namespace Go.VM
open Go.IntKind (wrap)
open Go Go.RowKit
def Lent (w:World)(b:Nat):Prop:=b < w.heap.size
theorem aFq {w:World}{x:Addr}{v:Value}(h:w.cell? x=some v):x.spot=none/\x.block < w.heap.size:=by
 unfold World.cell? at h;split at h
 ·rename_i c e f hb;split at h
  ·simp at h
  ·rename_i hs;exact⟨by simpa using hs,(cP.1 hb).1⟩
 ·simp at h
theorem args_nil {cx:Cx}{w:World}{A0:Nat->Prop}:ArgAs cx w A0 [] []:=⟨rfl,λj a u h=>by simp at h⟩
theorem args_cons {cx:Cx}{w:World}{A0:Nat->Prop}{a:A cx.ty}{l:List (A cx.ty)}{u:Value}{us:List Value}(h:ArgA cx w A0 a u)(hs:ArgAs cx w A0 l us):ArgAs cx w A0 (a::l) (u::us):=
 ⟨by simp[hs.1],λj b v h1 h2=>by
  cases j with
  | zero=>
   simp only[aM,aB]at h1 h2;subst h1;subst h2;exact h
  | succ j=>exact hs.2 j b v (by simpa using h1) (by simpa using h2)⟩
theorem calls_true {P:Program}{cx:Cx}{f:FuncId}{X:Type}{a:Args cx.ty X}{d:Bool}{m:X->Option Bool}{enc:Bool->V cx.ty}(henc:enc true=.inl (.inl (lv (.bool true))))(hs:Sat P cx f (fP a enc d m)){w:World}
  {l:List (A cx.ty)} {us:List Value} {x:X} (hdec:a.dec l=some x) (hm:m x=some true) (hargs:ArgAs cx w (Lent w) l us) :
  Calls P f us.toArray w λe w'=>e=.returned (.bool true)/\Below w.heap.size w w':=by
 refine(hs w (Lent w) l us (enc true) (λb h=>h) hargs ?_).mono λe w' ⟨u,he,hb,hres⟩=>⟨?_,hb⟩
 ·unfold fP;rw[hdec];simp[hm]
 ·obtain⟨fp,_,_,hr⟩:=hres;rw[henc]at hr;have hr:u=.bool true/\fp=[]:=hr;rw[he,hr.1]
end Go.VM
