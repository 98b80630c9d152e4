/- A part of the proof of FnExactApplyCmd: VmJ, VmK, VmL, VmM, VmN, VmO, VmP, VmPu, VmTop. -/
import Derived.Test.YtfncedbejffggaaGreatVmB
import Derived.Below
set_option linter.unusedSimpArgs false
set_option linter.unusedVariables false
namespace Go.VM
open Go.IntKind (wrap)
open Go.RowKit
structure LArg (ty:Nat->Type) (X:Type) where
 enc:X->L ty
 dec:L ty->Option X
 inv:∀ a x,dec a=some x->a=enc x
structure Arg (ty:Nat->Type) (X:Type) where
 enc:X->A ty
 dec:A ty->Option X
 inv:∀ a x,dec a=some x->a=enc x
def LArg.int {ty:Nat->Type}(k:IntKind):LArg ty Int:=
 {enc:=λx=>lv (.int k x),dec:=λa=>match a with | some (.inl v)=>aKl k v | _=>none,
  inv:=λa x h=>by
   split at h
   ·rename_i v;unfold aKl at h;split at h
    ·split at h
     ·rename_i hk;subst hk;cases h
      rfl
     ·simp at h
    ·simp at h
   ·simp at h }
def LArg.bool {ty:Nat->Type}:LArg ty Bool:=
 {enc:=λx=>lv (.bool x),dec:=λa=>match a with | some (.inl (.bool x))=>some x | _=>none,
  inv:=λa x h=>by
   split at h
   ·cases h;rfl
   ·simp at h }
def LArg.fn {ty:Nat->Type}(f:Nat):LArg ty Unit:=
 {enc:=λ_=>lv (.func (.func f) #[] #[]),
  dec:=λa=>match a with | some (.inl (.func (.func g) p q))=>if g=f/\p.toList.isEmpty/\q.toList.isEmpty then some ()else none | _=>none,
  inv:=λa x h=>by
   split at h
   ·rename_i g p q;split at h
    ·rename_i hc;simp only[qD]at hc;obtain⟨rfl,h1,h2⟩:=hc;have hp:p=#[]:=gO h1;have hq:q=#[]:=gO h2;subst hp;subst hq
     rfl
    ·simp at h
   ·simp at h }
def LArg.row {ty:Nat->Type}(e:Nat):LArg ty (List (ty e)):=
 {enc:=λx=>ls (ro e x),dec:=λa=>match a with | some (.inr s)=>if s.own == 0&&s.nm == 0&&!s.o then aBC e s else none | _=>none,
  inv:=λa x h=>by
   split at h
   ·rename_i s;split at h
    ·rename_i hc;simp only[aJ,beq_iff_eq,dC]at hc;unfold aBC at h;split at h
     ·rename_i he;obtain⟨own,nm,e2,o2,xs⟩:=s;simp only at he hc;obtain⟨⟨rfl,rfl⟩,rfl⟩:=hc;subst he;cases h
      rfl
     ·simp at h
    ·simp at h
   ·simp at h }
def Arg.leaf {ty:Nat->Type}{X:Type}(a:LArg ty X):Arg ty X:=
 {enc:=λx=>.inl (a.enc x),dec:=λl=>match l with | .inl l=>a.dec l | _=>none,
  inv:=λl x h=>by
   split at h
   ·rename_i l;rw[a.inv l x h]
   ·simp at h }
abbrev Arg.int {ty:Nat->Type}(k:IntKind):Arg ty Int:=Arg.leaf (LArg.int k)
abbrev Arg.bool {ty:Nat->Type}:Arg ty Bool:=Arg.leaf LArg.bool
def aRk {ty:Nat->Type}(e:Nat)(s:SlD ty):Option (ty e):=if h:s.e=e then(match h▸s.xs with | [x]=>some x | _=>none)else none
def LArg.ptr {ty:Nat->Type}(e:Nat):LArg ty (ty e):=
 {enc:=λx=>some (.inr { own:=3,nm:=0,e:=e,o:=false,xs:=[x] }),dec:=λa=>match a with | some (.inr s)=>if s.own == 3&&s.nm == 0&&!s.o then aRk e s else none | _=>none,
  inv:=λa x h=>by
   split at h
   ·rename_i s;split at h
    ·rename_i hc;simp only[aJ,beq_iff_eq,dC]at hc;unfold aRk at h;split at h
     ·rename_i he;obtain⟨own,nm,e2,o2,xs⟩:=s;simp only at he hc;obtain⟨⟨rfl,rfl⟩,rfl⟩:=hc;subst he;simp only at h
      match xs,h with
      | [y],h=>cases h;rfl
      | [],h=>simp at h
      | _::_::_,h=>simp at h
     ·simp at h
    ·simp at h
   ·simp at h }
abbrev Arg.row {ty:Nat->Type}(e:Nat):Arg ty (List (ty e)):=Arg.leaf (LArg.row e)
structure SArg (ty:Nat->Type) (X:Type) where
 enc:X->List (L ty)
 dec:List (L ty)->Option X
 inv:∀ a x,dec a=some x->a=enc x
def SArg.one {ty:Nat->Type}{X:Type}(a:LArg ty X):SArg ty X:=
 {enc:=λx=>[a.enc x],dec:=λl=>match l with | [p]=>a.dec p | _=>none,
  inv:=λl x h=>by
   split at h
   ·rename_i p;rw[a.inv p x h]
   ·simp at h }
def SArg.cons {ty:Nat->Type}{X Y:Type}(a:LArg ty X)(s:SArg ty Y):SArg ty (X×Y):=
 {enc:=λx=>a.enc x.1::s.enc x.2,dec:=λl=>match l with | p::q=>(a.dec p).bind λx=>(s.dec q).map λy=>(x,y) | _=>none,
  inv:=λl x h=>by
   split at h
   ·rename_i p q;cases h1:a.dec p with
    | none=>rw[h1]at h;simp at h
    | some u=>
     cases h2:s.dec q with
     | none=>rw[h1,h2]at h;simp at h
     | some v=>
      rw[h1,h2]at h;simp only[iB,aD,aB]at h;subst h;rw[a.inv p u h1,s.inv q v h2]
   ·simp at h }
def Arg.agg {ty:Nat->Type}{X:Type}(s:SArg ty X):Arg ty X:=
 {enc:=λx=>.inr (s.enc x),dec:=λl=>match l with | .inr l=>s.dec l | _=>none,
  inv:=λl x h=>by
   split at h
   ·rename_i l;rw[s.inv l x h]
   ·simp at h }
structure Args (ty:Nat->Type) (X:Type) where
 enc:X->List (A ty)
 dec:List (A ty)->Option X
 inv:∀ a x,dec a=some x->a=enc x
def Args.nil {ty:Nat->Type}:Args ty Unit:=
 {enc:=λ_=>[],dec:=λl=>match l with | []=>some () | _=>none,
  inv:=λl x h=>by
   split at h
   ·rfl
   ·simp at h }
def Args.one {ty:Nat->Type}{X:Type}(a:Arg ty X):Args ty X:=
 {enc:=λx=>[a.enc x],dec:=λl=>match l with | [p]=>a.dec p | _=>none,
  inv:=λl x h=>by
   split at h
   ·rename_i p;rw[a.inv p x h]
   ·simp at h }
def Args.cons {ty:Nat->Type}{X Y:Type}(a:Arg ty X)(s:Args ty Y):Args ty (X×Y):=
 {enc:=λx=>a.enc x.1::s.enc x.2,dec:=λl=>match l with | p::q=>(a.dec p).bind λx=>(s.dec q).map λy=>(x,y) | _=>none,
  inv:=λl x h=>by
   split at h
   ·rename_i p q;cases h1:a.dec p with
    | none=>rw[h1]at h;simp at h
    | some u=>
     cases h2:s.dec q with
     | none=>rw[h1,h2]at h;simp at h
     | some v=>
      rw[h1,h2]at h;simp only[iB,aD,aB]at h;subst h;rw[a.inv p u h1,s.inv q v h2]
   ·simp at h }
def iT {cx:Cx}{X R:Type}(a:Args cx.ty X)(enc:R->V cx.ty)(d:R)(m:X->Option R):List (A cx.ty)->Option (Bool×V cx.ty):=
 λl=>(a.dec l).map λx=>((m x).isSome,enc ((m x).getD d))
theorem sG {cx:Cx}{X R:Type}{a:Args cx.ty X}{enc:R->V cx.ty}{d:R}{m:X->Option R}{l:List (A cx.ty)}{r:V cx.ty}(h:iT a enc d m l=some (true,r)):∃ x t,l=a.enc x/\m x=some t/\r=enc t:=by
 unfold iT at h;cases h1:a.dec l with
 | none=>rw[h1]at h;simp at h
 | some x=>
  rw[h1]at h;simp only[aD,aB,aY]at h;cases h2:m x with
  | none=>rw[h2]at h;simp at h
  | some t=>
   rw[h2]at h;exact⟨x,t,a.inv l x h1,h2,h.2.symm⟩
theorem dS {P:Program}{cx:Cx}(ok:cx.Ok)(hZ:cx.POk P)(hm:P.follows .mixedOrders=true){f:FuncId}{fn:Func}(hf:P.funcs[f]?=some fn){X R:Type}(a:Args cx.ty X)(enc:R->V cx.ty)(d:R)(m:X->Option R)
  (ev:Env cx) (hK:KOk P cx ev.Kc) (hKw:KwOk P cx ev.Kw) (g:Nat->X->Option R) (he:∀ L x,eT P ev (bH L) fn (a.enc x)=(g L x).map enc) (hg:∀ x t,m x=some t->∃ L,g L x=some t) (hs:∀ t,jE (enc t)=true\/vZ (enc t)=true) :
  Sat P cx f (iT a enc d m):=by
 refine vR ok hZ hm hf λas r h=>?_
 obtain⟨x,t,rfl,hx,rfl⟩:=sG h;obtain⟨L,hL⟩:=hg x t hx;exact⟨ev,L,hK,hKw,by rw[he,hL];rfl,hs t⟩
def eF {cx:Cx}:List (FuncId×(List (A cx.ty)->Option (Bool×V cx.ty)))->Kt cx
 | [],_=>none
 | (f,F)::r,g=>if g=f then some F else eF r g
theorem bU {P:Program}{cx:Cx}:KOk P cx (eF []):=λ_ _ h=>by simp[eF]at h
theorem bN {P:Program}{cx:Cx}{f:FuncId}{F:List (A cx.ty)->Option (Bool×V cx.ty)}{r:List (FuncId×(List (A cx.ty)->Option (Bool×V cx.ty)))}(h:Sat P cx f F)(hr:KOk P cx (eF r)):KOk P cx (eF ((f,F)::r)):=by
 intro g G hG;unfold eF at hG;split at hG
 ·rename_i he;subst he;cases hG;exact h
 ·exact hr g G hG
theorem aU {α β:Type}(f:α->β)(c:Bool)(a b:Option α):(bif c then a else b).map f=bif c then a.map f else b.map f:=by cases c<;>rfl
def aAY:List Nat->Code->Code
 | [],c=>c
 | i::p,c=>match c with
  | .seq x y=>aAY p (if i=0 then x else y)
  | .cond _ x y=>aAY p (if i=0 then x else y)
  | .block _ c=>aAY p c
  | .loop c=>aAY p c
  | _=>.skip
def aI0 (fn:Func)(p:List Nat):Code:=match fn.body with | some c=>aAY p c | none=>.skip
section
variable {cx : Cx} {β : Type}
def aB6 (P:Program)(ev:Env cx)(lp:Lp cx β):List Nat->Nat->Code->Kn cx β->Kn cx β
 | [],_,_,k=>k
 | i::p,bid,c,k=>match c with
  | .seq x y=>if i=0 then aB6 P ev lp p bid x (aJB (evC P ev lp bid y) k)else aB6 P ev lp p bid y k
  | .cond _ x y=>aB6 P ev lp p bid (if i=0 then x else y) k
  | .block id c=>aB6 P ev lp p id c (aI3 id (ev.xv id) k)
  | .loop c=>aB6 P ev lp p bid c k
  | _=>k
def aMc (P:Program)(ev:Env cx)(L:Nat)(fn:Func)(id:Nat)(p:List Nat):St cx.ty->Kn cx β->Option β:=evC P ev (bH L) id (aI0 fn p)
def cE (P:Program)(ev:Env cx)(L:Nat)(fn:Func)(id:Nat)(p:List Nat)(K:Kn cx β)(n:Nat)(st:St cx.ty):Option β:=
 aAi (aMc P ev L fn id p) (canon (ev.lv id)) (aI3 id (ev.xv id) K) n st
def eW (P:Program)(ev:Env cx)(L:Nat)(fn:Func)(id:Nat)(p:List Nat)(K:Kn cx β)(g:St cx.ty->Option β)(st:St cx.ty):Option β:=
 aMc P ev L fn id p st (aJB (λst' _=>g (canon (ev.lv id) st')) (aI3 id (ev.xv id) K))
theorem cK (P:Program)(ev:Env cx)(L:Nat)(fn:Func)(id:Nat)(p:List Nat)(K:Kn cx β)(n:Nat)(st:St cx.ty) :
  cE P ev L fn id p K (n+1) st=eW P ev L fn id p K (cE P ev L fn id p K n) st:=rfl
def cA (P:Program)(ev:Env cx)(L:Nat)(fn:Func)(p:List Nat)(fin:St cx.ty->Option β):Kn cx β:=aB6 P ev (bH L) p 0 (aI0 fn []) { n:=fin,x:=λ_ _=>none,r:=fin }
def cW (fin:St cx.ty->Option β)(k:St cx.ty->Option β)(x:Nat->St cx.ty->Option β):Kn cx β:={ n:=k,x:=x,r:=fin }
end
section
variable {cx : Cx} {P : Program}
def zL {ty:Nat->Type}:Nat->List (V ty)->Option (List (A ty))
 | 0,_=>some []
 | n+1,.inl a::r=>match zL n r with
  | some l=>some (a::l)
  | none=>none
 | _,_=>none
def jZ (P:Program)(fn:Func)(n:Nat)(st:St cx.ty):Option (List (A cx.ty)):=
 match vT P st.slots fn.results.toList,zL n st.slots with
 | some rs,some ks=>match uQ P st.D st.F (fn.resultTypes.toList++fn.params.toList.take n) [] (rs++ks)with
  | some (as',_)=>some as'
  | none=>none
 | _,_=>none
def wG (P:Program)(ev:Env cx)(lp:Lp cx (List (A cx.ty)))(fn:Func)(n:Nat)(args:List (A cx.ty)):Option (List (A cx.ty)):=
 match fn.body with
 | some code=>if decide (args.length<=1000)&&args.all (aAH 16)&&decide (n<=args.length)then
   evC P ev lp 0 code { slots:=(fU 0 args).map .inl++List.replicate (fn.ntmps-args.length) aN,D:=[],F:=[],ctr:=1,lo:=n } { n:=jZ P fn n,x:=λ_ _=>none,r:=jZ P fn n }
  else none
 | none=>none
theorem nH:∀ (l:List ResultVar) (slots:List (V cx.ty)) (as:List (A cx.ty)),vT P slots l=some as->as.length=l.length
 | [],_,as,h=>by simp only[vT,aB]at h;subst h;rfl
 | .tmp t::r,slots,as,h=>by
  simp only[vT]at h;split at h
  ·rename_i a as' e1 e2;simp only[aB]at h;subst h;simp[nH r slots as' e2]
  ·simp at h
 | .cell t ty::r,slots,as,h=>by
  simp only[vT]at h;split at h
  ·rename_i p as' e1 e2;split at h
   ·split at h
    ·simp only[aB]at h;subst h;simp[nH r slots as' e2]
    ·simp at h
   ·simp at h
  ·simp at h
theorem zK:∀ (n:Nat) (slots:List (V cx.ty)) (ks:List (A cx.ty)),zL n slots=some ks->ks.length=n/\∀ (j:Nat) a,ks[j]?=some a->slots[j]?=some (.inl a)
 | 0,_,ks,h=>by
  simp only[zL,aB]at h;subst h;exact⟨rfl,λj a h=>by simp at h⟩
 | n+1,.inl a::r,ks,h=>by
  simp only[zL]at h;split at h
  ·rename_i l hl;simp only[aB]at h;subst h;have:=zK n r l hl;refine⟨by simp[this.1],λj b hj=>?_⟩;cases j with
   | zero=>
    simp only[aP,aB]at hj;subst hj
    rfl
   | succ j=>simpa using this.2 j b (by simpa using hj)
  ·simp at h
 | n+1,[],ks,h=>by simp[zL]at h
 | n+1,.inr _::r,ks,h=>by simp[zL]at h
theorem aBI {c:Ct cx.ty}{l1 l2:List (A cx.ty)}{u1 u2:List Value}(h1:RepAs cx c l1 u1)(h2:RepAs cx c l2 u2):RepAs cx c (l1++l2) (u1++u2):=by
 refine⟨by simp[h1.1,h2.1],λj a u e1 e2=>?_⟩;by_cases hj:j < l1.length
 ·rw[bM hj]at e1;rw[bM (by rw[h1.1];exact hj)]at e2;exact h1.2 j a u e1 e2
 ·rw[bJ (by omega)]at e1;rw[bJ (by rw[h1.1];omega),h1.1]at e2;exact h2.2 _ a u e1 e2
theorem aGE (ok:cx.Ok){fn:Func}{n:Nat}{st:St cx.ty}{c:Ct cx.ty}{a:Act}(h:RS cx c st a){us:List Value}(hn:n<=us.length)(hk:∀ p,p < n->a.tmps.getD p undef=us.getD p undef){cs:List (A cx.ty)}(ho:jZ P fn n st=some cs)(hro:jE (.inr (.inl cs):V cx.ty)=true) :
  ∃ rs:List Value,(results fn a.tmps).run P c.w=.ok (qN rs) c.w/\rs.length=fn.results.size/\ResV cx c.w c.S c.N (.inr (.inl cs)) (.tuple (rs++us.take n).toArray):=by
 unfold jZ at ho;split at ho
 ·rename_i rs ks e1 e2;split at ho
  ·rename_i as' s1 e3;simp only[aB]at ho;subst ho;obtain⟨ur,h1,h2⟩:=mN (P:=P) ok h.wf h.rep _ _ e1;obtain⟨hkl,hkg⟩:=zK n st.slots ks e2;have h3:RepAs cx c ks (us.take n):=by
    refine⟨by simp[hkl];omega,λj b u g1 g2=>?_⟩;have hj:j < n:=by rw[<-hkl];exact(aI.1 g1).1
    have hs:=hkg j b g1;have hr:=h.rep j;rw[show st.slots.getD j aN=.inl b by simp[List.getD,hs],hk j hj]at hr;have:us.getD j undef=u:=by
     rw[bK,if_pos hj]at g2;simp[List.getD,g2]
    rw[this]at hr;exact hr
   obtain⟨fps,h4,h5⟩:=pG h.wf h.dead h.frz _ _ _ _ _ _ (aBI h2 h3) e3;refine⟨ur,?_,?_,List.flatten fps,h5.nd,λb hb=>?_,ur++us.take n,fps,rfl,rfl,h4.1,h4.2.1,λj a b f g1 g2 g3=>?_⟩
   ·rw[tL];simp only[Sem.run_bind,h1,Result.andThen_ok,Sem.run_pure]
    rfl
   ·rw[h2.1,nH _ _ _ e1];simp
   ·obtain⟨tk,k1,_,_,k4⟩:=h5.src b hb;exact h.wf.bound tk k1 b k4
   ·exact mO (cG.1 hro a (bC g1)) (h4.2.2 j a b f g1 g2 g3)
  ·simp at ho
 ·simp at ho
theorem aED (ok:cx.Ok)(hZ:cx.POk P)(hm:P.follows .mixedOrders=true){f:FuncId}{fn:Func}(hf:P.funcs[f]?=some fn){n:Nat}{F:List (A cx.ty)->Option (Bool×List (A cx.ty))}
  (h:∀ as cs,F as=some (true,cs)->∃ (ev:Env cx) (L:Nat),KOk P cx ev.Kc/\KwOk P cx ev.Kw/\wG P ev (bH L) fn n as=some cs/\jE (.inr (.inl cs):V cx.ty)=true):SatW P cx f fn.results.size n F:=by
 intro w l us fps cs hargs hnd hlt hF;obtain⟨ev,L,hK,hKw,hev,hmix⟩:=h l cs hF;unfold wG at hev;split at hev
 ·rename_i code hcode;split at hev
  ·rename_i hc;simp only[aJ,decide_eq_true_eq]at hc;obtain⟨⟨hl1000,hfit⟩,hnl⟩:=hc;obtain⟨N,hN⟩:=nS l us fps 0 hfit hargs
   let c:Ct cx.ty:={ T:=N,D:=[],F:=[],w:=w,S:=λ_=>False,N:=λb=>w.heap.size<=b\/b∈List.flatten fps,K:=(us.take n).zipIdx.map λp=>(p.2,p.1) }
   have hbn:∀ tk∈N,∀ b∈vb tk.u++tk.fp,b∈List.flatten fps:=λtk ht b hb=>by
    rw[<-hN.fp];exact bB.2 ⟨tk,ht,hb⟩
   have hwf:Wf cx c:=⟨hN.nd,by show(N.flatMap _).Nodup;rw[hN.fp];exact hnd,λtk ht b hb=>⟨.inr (hbn tk ht b hb),hlt b (hbn tk ht b hb)⟩,λtk ht=>by
     exact(hN.tok tk ht).2 c rfl (λb hb=>hb.elim),λb hb=>hb.elim,λtk _=>⟨by simp[c],by simp[c]⟩,λb hb=>.inl hb⟩
   have hrep:=hN.rep c rfl (λtk ht=>⟨ht,by simp[c],by simp[c]⟩) (λb hb=>hb.elim);have hkmem:∀ p u,(p,u)∈c.K->p < n/\us.getD p undef=u:=λp u hp=>by
    obtain⟨q,hq,he⟩:=aM.1 hp;simp only[aY]at he;have hq2:=fO.1 hq;rw[he.1,he.2]at hq2;rw[bK]at hq2;split at hq2
    ·rename_i hpn;exact⟨hpn,by simp[List.getD,hq2]⟩
    ·simp at hq2
   refine calls_of_wp hf hcode ?_;refine oC ok hZ ev L hK hKw hm (W:=w) (S:=λ_=>False) (N:=λb=>w.heap.size<=b\/b∈List.flatten fps) (KK:=c.K) code 0 _ _ (λe c' st' a' h1 h2 h3 h4 h5=>?_) _ c _ ⟨hwf,?_,λt=>?_,rfl,λn=>by simp[c],λn=>by simp[c],λm hm=>?_,λp u hp=>?_,PrOK.nil,PdOK.none⟩ rfl ⟨rfl,rfl⟩ (Kept.refl _ _) hev
   ·have fin:jZ P fn n st'=some cs->a'.defers=[]/\∃ v,(results fn a'.tmps).run P c'.w=.ok v c'.w/\(∃ rs:List Value,Ending.returned v=.returned (qN rs)/\rs.length=fn.results.size/\Kept (λb=>w.heap.size<=b\/b∈List.flatten fps) w c'.w ∧
      ResV cx c'.w (λ_=>False) (λb=>w.heap.size<=b\/b∈List.flatten fps) (.inr (.inl cs)) (.tuple (rs++us.take n).toArray)):=by
     intro ho;obtain⟨rs,h6,h7,h8⟩:=aGE ok h1 (us:=us) (by rw[hargs.1];exact hnl) (λp hp=>by
      have hpu:p < us.length:=by rw[hargs.1];omega
      have:(p,us.getD p undef)∈c'.K:=by
       rw[h3.2];refine aM.2 ⟨(us.getD p undef,p),fO.2 ?_,rfl⟩;simp only;rw[bK,if_pos hp,aC hpu];simp[List.getD,hpu]
      exact(h1.kp _ _ this).2) ho hmix
     rw[h2,h3.1]at h8;exact⟨h1.defers,_,h6,rs,rfl,h7,h4,h8⟩
    cases e with
    | normal=>exact fin h5
    | ret=>exact fin h5
    | exit i=>simp[Kn.on]at h5
    | _=>simp[Kn.on]at h5
   ·simp[hargs.1,iM]
   ·show RepV cx c _ _;by_cases ht:t < l.length
    ·have htu:t < us.length:=by rw[hargs.1];exact ht
     have htb:t < (fU 0 l).length:=by rw[iM];exact ht
     have e1:((fU 0 l).map Sum.inl++List.replicate (fn.ntmps-l.length) (aN:V cx.ty)).getD t aN=.inl (fU 0 l)[t]:=by
      simp[List.getD,bM,htb]
     have e2:(us.toArray++Array.replicate (fn.ntmps-us.toArray.size) undef).getD t undef=us[t]:=by
      simp[aZ,fA,htu]
     rw[e1,e2];exact hrep.2 t _ _ (aC htb) (aC htu)
    ·have e1:((fU 0 l).map Sum.inl++List.replicate (fn.ntmps-l.length) (aN:V cx.ty)).getD t aN=aN:=by
      simp only[List.getD];rw[bJ (by simp[iM];omega)];simp only[dK,jA];split<;>rfl
     rw[e1]
     trivial
   ·rcases hm with⟨tk,ht,rfl⟩ | hm | hm
    ·have:=(hN.nm tk ht).2;show tk.nm < 1 * 65536;omega
    ·simp[c]at hm
    ·simp[c]at hm
   ·have:=hkmem p u hp;refine⟨this.1,?_⟩;have hpu:p < us.length:=by rw[hargs.1];omega
    show(us.toArray++Array.replicate (fn.ntmps-us.toArray.size) undef).getD p undef=u;have e2:(us.toArray++Array.replicate (fn.ntmps-us.toArray.size) undef).getD p undef=us[p]:=by
     simp[aZ,fA,hpu]
    rw[e2,<-this.2];simp[List.getD,hpu]
  ·simp at hev
 ·simp at hev
def LArg.own {ty:Nat->Type}(e:Nat):LArg ty (List (ty e)):=
 {enc:=λx=>ls { own:=2,nm:=0,e:=e,o:=true,xs:=x },dec:=λa=>match a with | some (.inr s)=>if s.own == 2&&s.nm == 0&&s.o then aBC e s else none | _=>none,
  inv:=λa x h=>by
   split at h
   ·rename_i s;split at h
    ·rename_i hc;simp only[aJ,beq_iff_eq]at hc;unfold aBC at h;split at h
     ·rename_i he;obtain⟨own,nm,e2,o2,xs⟩:=s;simp only at he hc;obtain⟨⟨rfl,rfl⟩,rfl⟩:=hc;subst he;cases h
      rfl
     ·simp at h
    ·simp at h
   ·simp at h }
def fnW {cx:Cx}{X R:Type}(a:Args cx.ty X)(enc:R->List (A cx.ty))(d:R)(m:X->Option R):List (A cx.ty)->Option (Bool×List (A cx.ty)):=
 λl=>(a.dec l).map λx=>((m x).isSome,enc ((m x).getD d))
theorem sF {cx:Cx}{X R:Type}{a:Args cx.ty X}{enc:R->List (A cx.ty)}{d:R}{m:X->Option R}{l:List (A cx.ty)}{r:List (A cx.ty)}(h:fnW a enc d m l=some (true,r)):∃ x t,l=a.enc x/\m x=some t/\r=enc t:=by
 unfold fnW at h;cases h1:a.dec l with
 | none=>rw[h1]at h;simp at h
 | some x=>
  rw[h1]at h;simp only[aD,aB,aY]at h;cases h2:m x with
  | none=>rw[h2]at h;simp at h
  | some t=>
   rw[h2]at h;exact⟨x,t,a.inv l x h1,h2,h.2.symm⟩
theorem aDA {P:Program}{cx:Cx}(ok:cx.Ok)(hZ:cx.POk P)(hm:P.follows .mixedOrders=true){f:FuncId}{fn:Func}(hf:P.funcs[f]?=some fn){nres n:Nat}(hnr:fn.results.size=nres){X R:Type}(a:Args cx.ty X)(enc:R->List (A cx.ty))(d:R)(m:X->Option R)
  (ev:Env cx) (hK:KOk P cx ev.Kc) (hKw:KwOk P cx ev.Kw) (g:Nat->X->Option R) (he:∀ L x,wG P ev (bH L) fn n (a.enc x)=(g L x).map enc) (hg:∀ x t,m x=some t->∃ L,g L x=some t) (hs:∀ t,jE (.inr (.inl (enc t)):V cx.ty)=true) :
  SatW P cx f nres n (fnW a enc d m):=by
 subst hnr;refine aED ok hZ hm hf λas r h=>?_
 obtain⟨x,t,rfl,hx,rfl⟩:=sF h;obtain⟨L,hL⟩:=hg x t hx;exact⟨ev,L,hK,hKw,by rw[he,hL];rfl,hs t⟩
def eE {cx:Cx}:List (FuncId×WFn cx)->Kwt cx
 | [],_=>none
 | (f,F)::r,g=>if g=f then some F else eE r g
theorem bP {P:Program}{cx:Cx}:KwOk P cx (eE []):=λ_ _ h=>by simp[eE]at h
theorem iP {P:Program}{cx:Cx}{f:FuncId}{F:WFn cx}{r:List (FuncId×WFn cx)}(h:SatOf P cx f F)(hr:KwOk P cx (eE r)):KwOk P cx (eE ((f,F)::r)):=by
 intro g G hG;unfold eE at hG;split at hG
 ·rename_i he;subst he;cases hG;exact h
 ·exact hr g G hG
theorem HalfL.rep (ok:cx.Ok){w:World}{S S':Nat->Prop}{s:SlD cx.ty}{u:Value}{fp:List Nat}(hS:∀ b,S b->S' b)(hf:∀ b∈fp,S' b)(h:HalfL cx w S s u fp):∃ n,RepL cx w S' n (some (.inr (ro s.e s.xs))) u:=by
 obtain⟨hfp,us,n,hrow,hl1,h⟩:=h;refine⟨n+1,?_⟩;rcases hrow.2 with⟨hu,h0⟩ | ⟨g,cap,cur,hu,hg,hh,hn,hm,hc,ht⟩
 ·exact⟨none,0,by rw[hu,show(ro s.e s.xs).xs.length=s.xs.length from rfl,h0],by rw[show(ro s.e s.xs).xs.length=s.xs.length from rfl];omega,.inl (cQ h0)⟩
 ·refine⟨some ⟨g,0,none⟩,cap,hu,hn,.inr ⟨g,0,rfl,hf g (by rw[hfp,hu];simp[Value.ownBlock]),λi x hx j l hl=>?_⟩⟩;have hj:j < cx.size s.e:=by rw[<-ok.len s.e false x];exact(aI.1 hl).1
  have hl':(cx.enc s.e false x)[j]?=some l:=hl;rw[<-gS (cx.enc s.e false) (cx.size s.e) (λx=>ok.len s.e false x) s.xs i x hx j hj]at hl';have hlt:i * cx.size s.e+j < us.length:=by rw[hl1];exact(aI.1 hl').1
  have hc1:=aC hlt;refine⟨us[i * cx.size s.e+j],?_,RepL_mono cx (λ_ _=>rfl) hS _ _ _ (h _ _ _ hl' hc1)⟩;have:=hrow.cells (g:=g) (by rw[hu];rfl) _ _ hc1;show w.cell? ⟨g,0+(i * cx.size s.e+j),none⟩=_;simpa[Addr.add_lit]using this
end
section
variable {cx : Cx} {P : Program}
structure OSf (c:Ct cx.ty) (seen seen':List Nat) (fp:List Nat):Prop where
 src:∀ b∈fp,∃ tk∈c.T,tk.nm∈seen'/\tk.nm∉seen/\b∈vb tk.u
 nd:fp.Nodup
 grow:∀ n∈seen,n∈seen'
 row:∀ b∈fp,∀ tk∈c.T,b∈vb tk.u->∃ s,tk.c=.inl s
theorem OSf.nil (c:Ct cx.ty)(seen:List Nat):OSf c seen seen []:=⟨by simp,by simp,λ_ h=>h,by simp⟩
theorem OSf.app {c:Ct cx.ty}(h:Wf cx c){s0 s1 s2 f1 f2:List Nat}(h1:OSf c s0 s1 f1)(h2:OSf c s1 s2 f2):OSf c s0 s2 (f1++f2):=by
 refine⟨λb hb=>?_,?_,λn hn=>h2.grow n (h1.grow n hn),λb hb tk ht hv=>(aA.1 hb).elim (λhb=>h1.row b hb tk ht hv) (λhb=>h2.row b hb tk ht hv)⟩
 ·rcases aA.1 hb with hb | hb
  ·obtain⟨tk,k1,k2,k3,k4⟩:=h1.src b hb;exact⟨tk,k1,h2.grow _ k2,k3,k4⟩
  ·obtain⟨tk,k1,k2,k3,k4⟩:=h2.src b hb;exact⟨tk,k1,k2,λhs=>k3 (h1.grow _ hs),k4⟩
 ·rw[aH];refine⟨h1.nd,h2.nd,λa ha b hb he=>?_⟩;subst he;obtain⟨t1,k1,k2,k3,k4⟩:=h1.src a ha;obtain⟨t2,m1,m2,m3,m4⟩:=h2.src a hb;exact dD h k1 m1 (λe=>m3 (e▸k2)) (aA.2 (.inl k4)) (aA.2 (.inl m4))
def bnd {α β:Type}(x:α)(K:α->Option β):Option β:=K x
theorem aT {α β γ:Type}(x:α)(K:α->Option β)(f:β->γ):(bnd x K).map f=bnd x (λt=>(K t).map f):=rfl
theorem aDb {α β:Type}(x:α)(K:α->Option β):bnd x K=K x:=rfl
def cZ {α β:Type}(o:Option α)(d:α)(K:α->Option β):Option β:=bif o.isSome then K (o.getD d)else none
theorem aS {α β γ:Type}(o:Option α)(d:α)(K:α->Option β)(f:β->γ):(cZ o d K).map f=cZ o d (λt=>(K t).map f):=by
 cases o<;>rfl
theorem bT {α β:Type}(v:α)(d:α)(K:α->Option β):cZ (some v) d K=K v:=rfl
end
section
variable {cx : Cx} {P : Program}
end
section
variable {cx : Cx} {P : Program}
def aIZ (n lo:Nat)(o:Oper):Option (TypeId×Nat×Nat):=
 match o.op,o.dst,o.guard with
 | .box t (.tmp p),some d,none=>if p < n/\d < lo then some (t,p,d)else none
 | _,_,_=>none
theorem aIY {n lo:Nat}{o:Oper}{t p d:Nat}(h:aIZ n lo o=some (t,p,d)):o.op=.box t (.tmp p)/\o.dst=some d/\o.guard=none/\p < n/\d < lo:=by
 unfold aIZ at h;split at h
 ·rename_i h1 h2 h3;split at h
  ·rename_i hc;simp only[aB,aY]at h;obtain⟨rfl,rfl,rfl⟩:=h;exact⟨h1,h2,h3,hc.1,hc.2⟩
  ·simp at h
 ·simp at h
def wK {ty:Nat->Type}:A ty->List (L ty)
 | .inl l=>[l]
 | .inr l=>l
def aF2 {ty:Nat->Type}:A ty->Bool
 | .inl l=>oB l&&!uY l
 | .inr _=>true
def aH1 (cx:Cx)(args:List (A cx.ty))(lo:Nat):List Oper->Nat->St cx.ty->St cx.ty×List Oper
 | [],m,st=>({ st with lo:=m },[])
 | o::r,m,st=>match aIZ args.length lo o with
  | some (t,p,d)=>if m<=d then
    match args[p]? with
    | some a=>if aF2 a then
      match cx.dec t (wK a)with
      | some x=>aH1 cx args lo r (d+1) { st with slots:=st.slots.set d (psV (.inr (ro t [x]))),ps:=st.ps++[(d,.inr (ro t [x]))],pend:=none }
      | none=>({ st with lo:=m },o::r)
     else({ st with lo:=m },o::r)
    | none=>({ st with lo:=m },o::r)
   else({ st with lo:=m },o::r)
  | none=>({ st with lo:=m },o::r)
def stL (fn:Func)(args:List (A cx.ty)):St cx.ty:={ slots:=args.map sP++List.replicate (fn.ntmps-args.length) aN,D:=[],F:=[],ctr:=1,lo:=2 * args.length,ps:=args.zipIdx.map λp=>(p.2,.inl p.1) }
def aIG (P:Program)(ev:Env cx)(lp:Lp cx (V cx.ty))(fn:Func)(args:List (A cx.ty)):Option (V cx.ty):=
 match fn.body with
 | some (.seq (.region _ ops false) rest)=>
  (λq:St cx.ty×List Oper=>fW P ev.Kc ev.Kw (λ_ _=>none) ops (λst=>evC P ev lp 0 rest st (aIB P fn)) q.2 q.1)
   (aH1 cx args (2 * args.length) ops.toList args.length (stL fn args))
 | _=>none
def qI (w:World)(S:Nat->Prop)(K:List (Nat×Value)):Ct cx.ty:={ T:=[],D:=[],F:=[],w:=w,S:=S,N:=λb=>w.heap.size<=b,K:=K }
theorem ArgA.cells {w:World}{S:Nat->Prop}{a:A cx.ty}{u:Value}(h:ArgA cx w S a u)(hl:aF2 a=true):u.cells.toList.length=(wK a).length/\∀ (j:Nat) l v,(wK a)[j]?=some l->u.cells.toList[j]?=some v->ArgL cx w S l v:=by
 match a,h with
 | .inr l,⟨us,hu,hlen,hv⟩=>
  subst hu;exact⟨hlen,hv⟩
 | .inl l,h=>
  have hl:oB l=true/\uY l=false:=by simpa[aF2]using hl
  obtain⟨hl,hnp⟩:=hl;have h:ArgL cx w S l u:=by
   rwa [ArgA.atLeaf hnp]at h
  have hc:u.cells=#[u]:=by
   match l,h,hl with
   | some (.inl v),h,ho=>
    have h:u=v:=h;subst h;cases u<;>first | rfl | (simp[oB]at ho)
   | some (.inr s),⟨_,n,h⟩,_=>
    cases n with
    | zero=>simp[RepL]at h
    | succ n=>
     obtain⟨a,cap,hu,_⟩:=h;rw[hu];rfl
  rw[hc];refine⟨rfl,λj l' v h1 h2=>?_⟩;cases j with
  | zero=>
   simp[wK]at h1 h2;subst h1;subst h2;exact h
  | succ j=>simp[wK]at h1
theorem aGB (ok:cx.Ok){w:World}{S:Nat->Prop}{K:List (Nat×Value)}{st:St cx.ty}{a:Act}(h:RS cx (qI w S K) st a){t d:Nat}(hlo:d < st.lo)(hK:∀ q u,(q,u)∈K->q < d){A:A cx.ty}(hl:aF2 A=true){u:Value}(hA:ArgA cx w S A u)
  {x:cx.ty t} (hx:cx.dec t (wK A)=some x) (hlen:d < st.slots.length) :
  RS cx (qI (w.alloc (.cells u.cells t)) (λb=>S b\/b=w.heap.size) (K++[(d,.pointer (some ⟨w.heap.size,0,none⟩))])) { st with slots:=st.slots.set d (psV (.inr (ro t [x]))),ps:=st.ps++[(d,.inr (ro t [x]))],pend:=none } (a.put (some d) (.pointer (some ⟨w.heap.size,0,none⟩))):=by
 obtain⟨c1,c2⟩:=hA.cells hl;have hsz:(w.alloc (.cells u.cells t)).heap.size=w.heap.size+1:=by simp
 have hold:∀ b,b < w.heap.size->(w.alloc (.cells u.cells t)).heap[b]?=w.heap[b]?:=λb hb=>(kQ w _).block b hb
 have hS:∀ b,S b->b < w.heap.size:=λb hb=>by
  rcases eR b w.heap.size with h1 | h1
  ·exact h1
  ·exact absurd h1 (h.wf.start b hb)
 have hnew:(w.alloc (.cells u.cells t)).heap[w.heap.size]?=some (.cells u.cells t (0,0)):=heap_alloc_new w _;have hpt:PtS cx (w.alloc (.cells u.cells t)) (λb=>S b\/b=w.heap.size) (ro t [x]) (.pointer (some ⟨w.heap.size,0,none⟩)):=
  aCt ok (.inr rfl) hnew c1 (λj l v h1 h2=>ArgL.mono (λb hb=>.inl hb) (λb hb=>hold b (hS b hb)) (c2 j l v h1 h2)) hx
 have hput:∀ q,q≠d->(a.put (some d) (.pointer (some ⟨w.heap.size,0,none⟩))).tmps.getD q undef=a.tmps.getD q undef:=λq hq=>by
  simp[Act.put,aZ,Ne.symm hq]
 have hputd:(a.put (some d) (.pointer (some ⟨w.heap.size,0,none⟩))).tmps.getD d undef=.pointer (some ⟨w.heap.size,0,none⟩):=by
  have:d < a.tmps.size:=by rw[h.size];exact hlen
  simp[Act.put,aZ,this]
 have hpres:Pres cx (qI w S K) (qI (w.alloc (.cells u.cells t)) (λb=>S b\/b=w.heap.size) (K++[(d,.pointer (some ⟨w.heap.size,0,none⟩))])):=by
  refine⟨λb hb=>⟨⟨?_,?_,by simp[qI]⟩,hold b hb.1⟩,λn h=>h,λn h=>h,λtk h=>by simp[qI]at h,λtk h=>by simp[qI]at h,λtk h=>by simp[qI]at h⟩
  ·show b < (w.alloc _).heap.size;rw[hsz];exact Nat.lt_succ_of_lt hb.1
  ·rcases hb.2.1 with k | k
   ·exact .inl (.inl k)
   ·exact absurd hb.1 (Nat.not_lt_of_le k)
 refine⟨⟨by simp[qI],by simp[qI],by simp[qI],by simp[qI],λb hb=>?_,by simp[qI],λb hb=>hb⟩,?_,λq=>?_,by rw[iL];exact h.defers,h.dead,h.frz,λn hn=>?_,λq v hq=>?_,λq v hq=>?_,PdOK.none⟩
 ·show ¬ (w.alloc _).heap.size<=b;rw[hsz];rcases hb with hb | hb
  ·have:=hS b hb;omega
  ·omega
 ·show(a.put _ _).tmps.size=(st.slots.set d _).length;rw[bW,<-h.size];simp[Act.put]
 ·show RepV cx _ ((st.slots.set d _).getD q aN) _;by_cases hq:q=d
  ·subst hq;rw[hputd];have e:(st.slots.set q (psV (.inr (ro t [x])))).getD q aN=psV (.inr (ro t [x])):=by simp[List.getD,hlen]
   rw[e];have hwf:Wf cx (qI (cx:=cx) (w.alloc (.cells u.cells t)) (λb=>S b\/b=w.heap.size) (K++[(q,.pointer (some ⟨w.heap.size,0,none⟩))])):=⟨by simp[qI],by simp[qI],by simp[qI],by simp[qI],λb hb=>by
    show ¬ (w.alloc _).heap.size<=b;rw[hsz];rcases hb with hb | hb
    ·have:=hS b hb;omega
    ·omega,by simp[qI],λb hb=>hb⟩
   exact PsO.repS (a:=.inr (ro t [x])) hwf hpt
  ·rw[hput q hq];have e:(st.slots.set d (psV (.inr (ro t [x])))).getD q aN=st.slots.getD q aN:=by simp[List.getD,fF (Ne.symm hq)]
   rw[e];exact RepV.pres cx hpres (h.rep q)
 ·exact h.names n (by rcases hn with⟨tk,ht,_⟩ | hn | hn<;>simp[qI]at *)
 ·rcases aA.1 hq with hq | hq
  ·have:=hK q v hq;exact⟨(h.kp q v hq).1,(hput q (by omega)).trans (h.kp q v hq).2⟩
  ·simp only[aO,aY]at hq;obtain⟨rfl,rfl⟩:=hq;exact⟨hlo,hputd⟩
 ·rcases aA.1 hq with hq | hq
  ·obtain⟨v',k1,k2⟩:=h.pr q v hq;exact⟨v',aA.2 (.inl k1),PsO.mono (λb hb=>.inl hb) (λb hb=>hold b (hS b hb)) k2⟩
  ·simp only[aO,aY]at hq;obtain⟨rfl,rfl⟩:=hq;exact⟨_,aA.2 (.inr (aO.2 rfl)),hpt⟩
theorem aFK (ok:cx.Ok){β:Type}{ops:Array Oper}{args:List (A cx.ty)}{us:List Value}{lo:Nat}{Q:Exit->Act->World->Prop}{ev:List Oper->St cx.ty->Option β}{r:β}{w0:World}(hlen:us.length=args.length)
  (H:∀ (w:World) (S:Nat->Prop) (K:List (Nat×Value)) (st:St cx.ty) (a:Act) (l:List Oper) (i:Nat),(∀ j,l[j]?=ops[i+j]?)->RS cx (qI w S K) st a->Below w0.heap.size w0 w->ev l st=some r->wpOps P ops Q (List.range' i l.length) a w) :
  ∀ (l:List Oper) (i m:Nat) (w:World) (S:Nat->Prop) (K:List (Nat×Value)) (st:St cx.ty) (a:Act),(∀ j,l[j]?=ops[i+j]?)->RS cx (qI w S K) st a->Below w0.heap.size w0 w->w0.heap.size<=w.heap.size->args.length<=m->(∀ q u,(q,u)∈K->q < m)->ArgAs cx w S args us->(∀ p,p < args.length->a.tmps.getD p undef=us.getD p undef)->
   st.lo=lo->lo<=st.slots.length->ev (aH1 cx args lo l m st).2 (aH1 cx args lo l m st).1=some r->wpOps P ops Q (List.range' i l.length) a w
 | [],i,m,w,S,K,st,a,hl,h,hb,_,_,hK,_,_,_,_,he=>H w S K { st with lo:=m } a [] i hl ⟨h.wf,h.size,h.rep,h.defers,h.dead,h.frz,h.names,λp u hp=>⟨hK p u hp,(h.kp p u hp).2⟩,h.pr,h.pd⟩ hb he
 | o::rest,i,m,w,S,K,st,a,hl,h,hb,hsz,hm,hK,hA,hT,hlo,hlos,he=>by
  have stop:ev (o::rest) { st with lo:=m }=some r->wpOps P ops Q (List.range' i (o::rest).length) a w:=λhe=>H w S K { st with lo:=m } a (o::rest) i hl ⟨h.wf,h.size,h.rep,h.defers,h.dead,h.frz,h.names,λp u hp=>⟨hK p u hp,(h.kp p u hp).2⟩,h.pr,h.pd⟩ hb he
  unfold aH1 at he;split at he
  ·rename_i t p d hbx;obtain⟨e1,e2,e3,e4,e5⟩:=aIY hbx;split at he
   ·rename_i hmd;split at he
    ·rename_i A0 hA0;split at he
     ·rename_i hlf;split at he
      ·rename_i x hx;have h0:ops[i]?=some o:=by simpa using(hl 0).symm
       have hl':∀ j,rest[j]?=ops[i+1+j]?:=λj=>by have:=hl (j+1);simpa[gT,fX 1 j]using this
       have hpu:us[p]?=some (us.getD p undef):=by
        have:p < us.length:=by omega
        simp[List.getD,this]
       have hAp:ArgA cx w S A0 (us.getD p undef):=hA.2 p _ _ hA0 hpu;have hstep:=aGB (t:=t) ok h (by rw[hlo];exact e5) (λq u hq=>by have:=hK q u hq;omega) hlf hAp hx (by omega);have hS:∀ b,S b->b < w.heap.size:=λb hb=>by
        rcases eR b w.heap.size with h1 | h1
        ·exact h1
        ·exact absurd h1 (h.wf.start b hb)
       simp only[cB,List.range'_succ];rw[wpOps_cons];unfold wpOp;simp only[h0];have hwant:Region.wanted o (yielded ops a.tmps)=true:=by simp[Region.wanted,e3]
       rw[if_pos hwant];refine .inl (Oper.wp_of_runs ?_);have hrun:(execOp a.eval o).run P w=.ok (.value (.pointer (some ⟨w.heap.size,0,none⟩))) (w.alloc (.cells (a.eval (.tmp p)).cells t)):=by
        unfold execOp;simp[e1,Instr.box,newVar,newRow]
       unfold Runs;rw[hrun];have hev:a.eval (.tmp p)=us.getD p undef:=hT p e4;rw[e2,hev];refine aFK ok hlen H rest (i+1) (d+1) _ _ _ _ _ hl' hstep (hb.alloc hsz _) (by simp;omega) (by omega) (λq u hq=>?_) ⟨hA.1,λj A' u' k1 k2=>?_⟩ (λq hq=>?_) hlo (by show lo<=(st.slots.set d _).length;rw[bW];exact hlos) he
       ·rcases aA.1 hq with hq | hq
        ·have:=hK q u hq;omega
        ·simp only[aO,aY]at hq;omega
       ·have:=hA.2 j A' u' k1 k2;exact PsO.mono (a:=.inl A') (λb hb=>.inl hb) (λb hb=>(kQ w _).block b (hS b hb)) this
       ·have hqd:q≠d:=by omega
        rw[<-hT q hq];simp[Act.put,aZ,Ne.symm hqd]
      ·exact stop he
     ·exact stop he
    ·exact stop he
   ·exact stop he
  ·exact stop he
theorem aEF (ok:cx.Ok)(hZ:cx.POk P)(hm:P.follows .mixedOrders=true){f:FuncId}{fn:Func}(hf:P.funcs[f]?=some fn){F:List (A cx.ty)->Option (Bool×V cx.ty)}
  (h:∀ as r,F as=some (true,r)->∃ (ev:Env cx) (L:Nat),KOk P cx ev.Kc/\KwOk P cx ev.Kw/\aIG P ev (bH L) fn as=some r/\(jE r=true\/vZ r=true)/\(∃ v,r=vv v)/\2 * as.length<=fn.ntmps):Sat P cx f F:=by
 intro w A0 l us r hA hargs hF;obtain⟨ev,L,hK,hKw,hev,hmix,⟨vr,hvr⟩,hnt⟩:=h l r hF;unfold aIG at hev;split at hev
 ·rename_i id ops rest hcode
  let K0:List (Nat×Value):=us.zipIdx.map λp=>(p.2,p.1)
  have hwf:Wf cx (qI (cx:=cx) w A0 K0):=⟨by simp[qI],by simp[qI],by simp[qI],by simp[qI],λb hb=>by have:=hA b hb;show ¬ w.heap.size<=b;omega,by simp[qI],λb hb=>hb⟩
  have hrd:∀ b,A0 b->Rd (qI (cx:=cx) w A0 K0) b:=λb hb=>⟨hA b hb,.inl hb,by simp[qI]⟩
  have htmp:∀ t,t < us.length->(us.toArray++Array.replicate (fn.ntmps-us.toArray.size) undef).getD t undef=us.getD t undef:=λt ht=>by
   simp[aZ,fA,ht,List.getD]
  have hkm:∀ p u,(p,u)∈K0↔us[p]?=some u:=λp u=>by
   constructor
   ·intro hp;obtain⟨q,hq,he⟩:=aM.1 hp;simp only[aY]at he;have hq2:=fO.1 hq;rw[he.1,he.2]at hq2;exact hq2
   ·intro hp;exact aM.2 ⟨(u,p),fO.2 hp,rfl⟩
  have hargl:us.length=l.length:=hargs.1;refine calls_of_wp hf hcode ?_;refine wp_seq (wp_region ?_);rw[List.range_eq_range'];have hops:ops.toList.length=ops.size:=by simp
  rw[<-hops];refine aFK (args:=l) (us:=us) (w0:=w) (ev:=λq st=>fW P ev.Kc ev.Kw (λ_ _=>none) ops (λst=>evC P ev (bH L) 0 rest st (aIB P fn)) q st) (r:=r) (lo:=2 * l.length) ok hargl (λw1 S1 K1 st1 a1 l1 i1 hl1 h1 hb1 he1=>?_) ops.toList 0 l.length w A0 K0 (stL fn l) _ (λj=>by simp) ⟨hwf,?_,λt=>?_,rfl,λn=>by simp[qI,stL],λn=>by simp[qI,stL],λn hn=>?_,λp u hp=>?_,λp a hp=>?_,PdOK.none⟩ (Below.refl _ _) (aK _) (aK _) (λq u hq=>?_) hargs (λp hp=>htmp p (by omega)) rfl ?_ hev
  ·refine aAL ok hZ hK hKw (W:=w1) (S:=S1) (N:=λb=>w1.heap.size<=b) (KK:=K1) (r:=r) (λv c st a h1 h2 h3 h4 h5=>by cases h5) (λc st a h2 h3 h4 h5 h6=>?_) l1 i1 hl1 st1 (qI w1 S1 K1) a1 h1 rfl ⟨rfl,rfl⟩ (Kept.refl _ _) he1;refine oC ok hZ ev L hK hKw hm (W:=w1) (S:=S1) (N:=λb=>w1.heap.size<=b) (KK:=K1) rest 0 _ _ (λe c' st' a' g1 g2 g3 g4 g5=>?_) st c a h2 h3 h4 h5 h6;have fin:bI P fn st'=some r->a'.defers=[]/\∃ v,(results fn a'.tmps).run P c'.w=.ok v c'.w/\(∃ u,Ending.returned v=.returned u/\Below w.heap.size w c'.w/\ResV cx c'.w A0 (λb=>w.heap.size<=b) r u):=by
    intro ho;obtain⟨u,k1,k2⟩:=aBO ok g1 ho hmix;refine⟨g1.defers,u,k1,u,rfl,?_,?_⟩
    ·exact hb1.trans (g4.low.mono hb1.size)
    ·subst hvr;obtain⟨fp,_,_,k3⟩:=k2;have k3:u=vr/\fp=[]:=k3;exact⟨[],by simp,by simp,k3.1,rfl⟩
   cases e with
   | normal=>exact fin g5
   | ret=>exact fin g5
   | _=>simp[aIB,Kn.on]at g5
  ·simp[hargl,stL]
  ·show RepV cx (qI (cx:=cx) w A0 K0) ((l.map sP++List.replicate (fn.ntmps-l.length) (aN:V cx.ty)).getD t aN) _;by_cases ht:t < l.length
   ·have htu:t < us.length:=by omega
    have e1:(l.map sP++List.replicate (fn.ntmps-l.length) (aN:V cx.ty)).getD t aN=sP l[t]:=by
     simp[List.getD,bM,ht]
    have e2:(us.toArray++Array.replicate (fn.ntmps-us.toArray.size) undef).getD t undef=us[t]:=by
     simp[aZ,fA,htu]
    rw[e1,e2];exact ArgA.repV hrd (hargs.2 t _ _ (aC ht) (aC htu))
   ·have e1:(l.map sP++List.replicate (fn.ntmps-l.length) (aN:V cx.ty)).getD t aN=aN:=by
     simp only[List.getD];rw[bJ (by simp;omega)];simp only[dK,jA];split<;>rfl
    rw[e1]
    trivial
  ·rcases hn with⟨tk,ht,_⟩ | hn | hn
   ·simp[qI]at ht
   ·simp[qI]at hn
   ·simp[qI]at hn
  ·have hp:=(hkm p u).1 hp;have hpl:p < us.length:=(aI.1 hp).1;refine⟨by show p < 2 * l.length;omega,?_⟩;show(us.toArray++Array.replicate (fn.ntmps-us.toArray.size) undef).getD p undef=u;rw[htmp p hpl];simp[List.getD,hp]
  ·obtain⟨q,hq,he⟩:=aM.1 hp;simp only[aY]at he;obtain⟨he1,he2⟩:=he;subst he1;subst he2;have hq2:=fO.1 hq;have hpl:q.2 < us.length:=by rw[hargl];exact(aI.1 hq2).1
   exact⟨us[q.2],(hkm q.2 _).2 (aC hpl),hargs.2 q.2 q.1 _ hq2 (aC hpl)⟩
  ·have:=(aI.1 ((hkm q u).1 hq)).1;omega
  ·show 2 * l.length<=(l.map sP++List.replicate (fn.ntmps-l.length) (aN:V cx.ty)).length;simp;omega
 ·simp at hev
theorem aPQ {P:Program}{cx:Cx}(ok:cx.Ok)(hZ:cx.POk P)(hm:P.follows .mixedOrders=true){f:FuncId}{fn:Func}(hf:P.funcs[f]?=some fn){X R:Type}(a:Args cx.ty X)(enc:R->V cx.ty)(d:R)(m:X->Option R)
  (ev:Env cx) (hK:KOk P cx ev.Kc) (hKw:KwOk P cx ev.Kw) (g:Nat->X->Option R) (he:∀ L x,aIG P ev (bH L) fn (a.enc x)=(g L x).map enc) (hg:∀ x t,m x=some t->∃ L,g L x=some t) (hs:∀ t,jE (enc t)=true\/vZ (enc t)=true)
  (hp:∀ t,∃ v,enc t=vv v:=by exact λ_=>⟨_,rfl⟩) (hn:∀ x,2 * (a.enc x).length<=fn.ntmps:=by intro x;exact of_decide_eq_true rfl) :
  Sat P cx f (iT a enc d m):=by
 refine aEF ok hZ hm hf λas r h=>?_
 obtain⟨x,t,rfl,hx,rfl⟩:=sG h;obtain⟨L,hL⟩:=hg x t hx;exact⟨ev,L,hK,hKw,by rw[he,hL];rfl,hs t,hp t,hn x⟩
end
section
variable {cx : Cx} {P : Program}
def aEL {ty:Nat->Type}(v:V ty)(o:Nat:=0):Option (List (L ty)):=
 match v with
 | .inr (.inr p)=>if p.kind == 0&&p.off == o&&p.i == 0 then some p.cells else none
 | _=>none
theorem aDJ {c:Ct cx.ty}(hw:Wf cx c){v:V cx.ty}{u:Value}(h:RepV cx c v u){l:List (L cx.ty)}{o:Nat}(hp:aEL v o=some l) :
  ∃ tk∈c.T,∃ g cur t,tk.c=.inr l/\tk.u=.pointer (some ⟨g,0,none⟩)/\u=.pointer (some ⟨g,o,none⟩)/\c.w.heap[g]?=some (.cells cur t (0,0))/\RepLs cx c l cur.toList:=by
 unfold aEL at hp;split at hp
 ·rename_i p;split at hp
  ·rename_i hc;simp only[aJ,beq_iff_eq]at hc;simp only[aB]at hp;subst hp;have h:RepP cx c p u:=h;unfold RepP at h;simp only[hc.1.1,hc.1.2,hc.2]at h;obtain⟨tk,ht,hn,hcc,g,hu,hv⟩:=h;have hv:u=.pointer (some ⟨g,o,none⟩):=hv;have htr:=hw.rep tk ht;unfold TokRep at htr;rw[hcc]at htr;obtain⟨_,g',cur,t,hu',hh,hcells⟩:=htr;rw[hu]at hu';simp only[Value.pointer.injEq,aB,Addr.mk.injEq]at hu';obtain⟨rfl,_⟩:=hu';exact⟨tk,ht,g,cur,t,hcc,hu,hv,hh,hcells⟩
  ·simp at hp
 ·simp at hp
def iS (P:Program)(fn:Func)(st:St cx.ty)(bx:Option (Nat×TypeId):=none):Option (List (A cx.ty)):=
 match vT P st.slots fn.results.toList,aEL (st.slots.getD 0 aN) (kP bx),(fn.params.toList.head?).bind (aTx P bx)with
 | some rs,some l,some e=>match uQ P st.D st.F (fn.resultTypes.toList++[e]) [] (rs++[.inr l])with
  | some (as',_)=>some as'
  | none=>none
 | _,_,_=>none
def wH (P:Program)(ev:Env cx)(lp:Lp cx (List (A cx.ty)))(fn:Func)(args:List (A cx.ty))(bx:Option (Nat×TypeId):=none):Option (List (A cx.ty)):=
 match fn.body,args with
 | some code,.inr lc::rest=>if decide (rest.length<=900)&&args.all (aAH 16)then
   evC P ev lp 0 code { slots:=aCs 60000 (lH 0 lc) (kP bx)::((fU 16 rest).map .inl++List.replicate (fn.ntmps-(rest.length+1)) aN),D:=[],F:=[],ctr:=1,lo:=1 } { n:=λst=>iS P fn st bx,x:=λ_ _=>none,r:=λst=>iS P fn st bx }
  else none
 | _,_=>none
theorem aEE (ok:cx.Ok)(hZ:cx.POk P)(hm:P.follows .mixedOrders=true){f:FuncId}{fn:Func}(hf:P.funcs[f]?=some fn){F:List (A cx.ty)->Option (Bool×List (A cx.ty))}
  {bx:Option (Nat×TypeId)} (h:∀ as cs,F as=some (true,cs)->∃ (ev:Env cx) (L:Nat),KOk P cx ev.Kc/\KwOk P cx ev.Kw/\wH P ev (bH L) fn as bx=some cs/\jE (.inr (.inl cs):V cx.ty)=true):SatQ P cx f fn.results.size F bx:=by
 intro w g cur t lc l us fps cs hg hargs hnd hlt hF;obtain⟨ev,L,hK,hKw,hev,hmix⟩:=h _ cs hF;unfold wH at hev;split at hev
 ·rename_i code lc' rest hcode hl;simp only[rR,Sum.inr.injEq]at hl;obtain⟨rfl,rfl⟩:=hl;split at hev
  ·rename_i hc0;simp only[aJ,decide_eq_true_eq]at hc0;obtain⟨hl900,hfit⟩:=hc0;obtain⟨N,hN⟩:=nS _ _ _ 0 hfit hargs;have hgl:g < w.heap.size:=(aL.1 hg).1
   let tk:Tk cx.ty:={ nm:=60000,u:=.pointer (some ⟨g,0,none⟩),fp:=[],c:=.inr (lH 0 lc) }
   let c:Ct cx.ty:={ T:=tk::N,D:=[],F:=[],w:=w,S:=λ_=>False,N:=λb=>w.heap.size<=b\/b∈List.flatten fps\/b=g,K:=[(0,.pointer (some ⟨g,kP bx,none⟩))] }
   have hvb:vb tk.u++tk.fp=[g]:=by simp[tk,vb]
   have hbn:∀ tk∈N,∀ b∈vb tk.u++tk.fp,b∈List.flatten fps:=λtk ht b hb=>by
    rw[<-hN.fp];exact bB.2 ⟨tk,ht,hb⟩
   have hNlt:∀ t2∈N,t2.nm < 60000:=λt2 h2=>by
    have:=(hN.nm t2 h2).2;simp only[cB]at this;omega
   have hrep:=hN.rep c rfl (λtk ht=>⟨bG _ ht,by simp[c],by simp[c]⟩) (λb hb=>hb.elim);have hrep:RepAs cx c (.inr (lH 0 lc)::fU 16 l) (.agg cur::us):=hrep;have hwf:Wf cx c:=by
    refine⟨?_,?_,λt2 ht b hb=>?_,λt2 ht=>?_,λb hb=>hb.elim,λt2 _=>⟨by simp[c],by simp[c]⟩,λb hb=>.inl hb⟩
    ·show((tk::N).map (·.nm)).Nodup;rw[cU,dM];refine⟨λhx=>?_,hN.nd⟩;obtain⟨t2,h2,h3⟩:=aM.1 hx;have:=hNlt t2 h2;have:t2.nm=60000:=h3;omega
    ·show((tk::N).flatMap λt2=>vb t2.u++t2.fp).Nodup;rw[aR,hvb,List.singleton_append,dM];refine⟨λhx=>?_,by rw[hN.fp];exact hnd⟩;rw[hN.fp]at hx;exact(hlt g hx).2 rfl
    ·rcases bS.1 ht with ht | ht
     ·subst ht;rw[hvb]at hb;simp only[aO]at hb;subst hb;exact⟨.inr (.inr rfl),hgl⟩
     ·exact⟨.inr (.inl (hbn t2 ht b hb)),(hlt b (hbn t2 ht b hb)).1⟩
    ·rcases bS.1 ht with ht | ht
     ·subst ht;obtain⟨us1,k1,k2⟩:=hrep.2 0 _ _ rfl rfl;have:us1=cur.toList:=by
       simp only[Value.agg.injEq]at k1;rw[k1]
      subst this;exact⟨rfl,g,cur,t,rfl,hg,k2⟩
     ·exact(hN.tok t2 ht).2 _ rfl (λb hb=>hb.elim)
   refine calls_of_wp hf hcode ?_;refine oC ok hZ ev L hK hKw hm (W:=w) (S:=λ_=>False) (N:=c.N) (KK:=c.K) code 0 _ _ (λe c' st' a' h1 h2 h3 h4 h5=>?_) _ c _ ⟨hwf,?_,λt=>?_,rfl,λn=>by simp[c],λn=>by simp[c],λn hn=>?_,λp u hp=>?_,PrOK.nil,PdOK.none⟩ rfl ⟨rfl,rfl⟩ (Kept.refl _ _) hev
   ·have fin:iS P fn st' bx=some cs->a'.defers=[]/\∃ v,(results fn a'.tmps).run P c'.w=.ok v c'.w/\(∃ (rs:List Value) (cur':Array Value),Ending.returned v=.returned (qN rs)/\rs.length=fn.results.size/\(∃ t',c'.w.heap[g]?=some (.cells cur' t' (0,0)))/\Kept (λb=>w.heap.size<=b\/b∈List.flatten fps\/b=g) w c'.w ∧
       ResV cx c'.w (λ_=>False) (λb=>w.heap.size<=b\/b∈List.flatten fps) (.inr (.inl cs)) (.tuple (rs++[Value.agg cur']).toArray)):=by
     intro ho;unfold iS at ho;split at ho
     ·rename_i rs l' e0 e1 e2 _;split at ho
      ·rename_i as' s1 e3;simp only[aB]at ho;subst ho;obtain⟨ur,h6,h7⟩:=mN (P:=P) ok h1.wf h1.rep _ _ e1;have hk0:a'.tmps.getD 0 undef=.pointer (some ⟨g,kP bx,none⟩):=(h1.kp 0 (.pointer (some ⟨g,kP bx,none⟩)) (by rw[h3.2];exact aO.2 rfl)).2;obtain⟨t2,ht2,g2,cur',t',hc2,hu2,hv2,hh2,hcells⟩:=aDJ h1.wf (h1.rep 0) e2;rw[hk0]at hv2;simp only[Value.pointer.injEq,aB,Addr.mk.injEq]at hv2;obtain⟨rfl,_⟩:=hv2;have hgv:g∈vb t2.u:=by rw[hu2];simp[vb]
       have h8:RepAs cx c' [.inr l'] [Value.agg cur']:=⟨rfl,λj a u g1 g2=>by
        cases j with
        | zero=>
         simp only[aP,aB]at g1 g2;subst g1;subst g2;exact⟨cur'.toList,by simp,hcells⟩
        | succ j=>simp at g1⟩
       obtain⟨fps',h9,h10⟩:=pG h1.wf h1.dead h1.frz _ _ _ _ _ _ (aBI h7 h8) e3;refine⟨h1.defers,_,?_,ur,cur',rfl,?_,⟨t',hh2⟩,h4,List.flatten fps',h10.nd,λb hb=>?_,ur++[Value.agg cur'],fps',rfl,rfl,h9.1,h9.2.1,λj a b f g1 g2 g3=>?_⟩
       ·rw[tL];simp only[Sem.run_bind,h6,Result.andThen_ok,Sem.run_pure]
        rfl
       ·rw[h7.1,nH _ _ _ e1];simp
       ·obtain⟨t3,k1,⟨s,k2⟩,k3⟩:=h10.row b hb;have hbd:=h1.wf.bound t3 k1 b k3;refine⟨?_,hbd.2⟩;have hN2:=hbd.1;rw[h3.1]at hN2;rcases hN2 with hN2 | hN2 | hN2
        ·exact .inl hN2
        ·exact .inr hN2
        ·exfalso;subst hN2;rcases Classical.em (t3.nm=t2.nm)with he | he
         ·have:=iF h1.wf k1 ht2 he;subst this;rw[hc2]at k2;cases k2
         ·exact dD h1.wf k1 ht2 he k3 (aA.2 (.inl hgv))
       ·exact mO (cG.1 hmix a (bC g1)) (h9.2.2 j a b f g1 g2 g3)
      ·simp at ho
     ·simp at ho
    cases e with
    | normal=>exact fin h5
    | ret=>exact fin h5
    | exit i=>simp[Kn.on]at h5
    | _=>simp[Kn.on]at h5
   ·have:=hargs.1;simp only[cB]at this;simp[iM];omega
   ·show RepV cx c _ _;cases t with
    | zero=>
     have e1:(aCs 60000 (lH 0 lc) (kP bx)::((fU 16 l).map Sum.inl++List.replicate (fn.ntmps-(l.length+1)) (aN:V cx.ty))).getD 0 aN=aCs 60000 (lH 0 lc) (kP bx):=rfl;have e2:((Value.pointer (some ⟨g,kP bx,none⟩)::us).toArray++Array.replicate (fn.ntmps-(Value.pointer (some ⟨g,kP bx,none⟩)::us).toArray.size) undef).getD 0 undef=.pointer (some ⟨g,kP bx,none⟩):=by
      simp[aZ,fA]
     rw[e1,e2];exact⟨tk,bR ..,rfl,rfl,g,rfl,rfl⟩
    | succ t=>
     by_cases ht:t < l.length
     ·have htu:t < us.length:=by have:=hargs.1;simp only[cB]at this;omega
      have htb:t < (fU 16 l).length:=by rw[iM];exact ht
      have e1:(aCs 60000 (lH 0 lc) (kP bx)::((fU 16 l).map Sum.inl++List.replicate (fn.ntmps-(l.length+1)) (aN:V cx.ty))).getD (t+1) aN=.inl (fU 16 l)[t]:=by
       simp[List.getD,bM,htb]
      have e2:((Value.pointer (some ⟨g,kP bx,none⟩)::us).toArray++Array.replicate (fn.ntmps-(Value.pointer (some ⟨g,kP bx,none⟩)::us).toArray.size) undef).getD (t+1) undef=us[t]:=by
       simp[aZ,fA,htu]
      rw[e1,e2];exact hrep.2 (t+1) _ _ (by rw[dP];exact aC htb) (by rw[dP];exact aC htu)
     ·have e1:(aCs 60000 (lH 0 lc) (kP bx)::((fU 16 l).map Sum.inl++List.replicate (fn.ntmps-(l.length+1)) (aN:V cx.ty))).getD (t+1) aN=aN:=by
       simp only[List.getD,dP];rw[bJ (by simp[iM];omega)];simp only[dK,jA];split<;>rfl
      rw[e1]
      trivial
   ·rcases hn with⟨t2,ht,rfl⟩ | hn | hn
    ·show t2.nm < 1 * 65536;rcases bS.1 ht with ht | ht
     ·subst ht;show 60000 < 1 * 65536;omega
     ·have:=hNlt t2 ht;omega
    ·simp[c]at hn
    ·simp[c]at hn
   ·simp only[c,aO,aY]at hp;obtain⟨rfl,rfl⟩:=hp;refine⟨by show 0 < 1;omega,?_⟩;show((Value.pointer (some ⟨g,kP bx,none⟩)::us).toArray++Array.replicate (fn.ntmps-(Value.pointer (some ⟨g,kP bx,none⟩)::us).toArray.size) undef).getD 0 undef=_;simp[aZ,fA]
  ·simp at hev
 ·simp at hev
theorem aDB {P:Program}{cx:Cx}(ok:cx.Ok)(hZ:cx.POk P)(hm:P.follows .mixedOrders=true){f:FuncId}{fn:Func}(hf:P.funcs[f]?=some fn){nres:Nat}(hnr:fn.results.size=nres){X R:Type}(a:Args cx.ty X)(enc:R->List (A cx.ty))(d:R)(m:X->Option R)
  (ev:Env cx) (hK:KOk P cx ev.Kc) (hKw:KwOk P cx ev.Kw) (g:Nat->X->Option R) {bx:Option (Nat×TypeId)} (he:∀ L x,wH P ev (bH L) fn (a.enc x) bx=(g L x).map enc) (hg:∀ x t,m x=some t->∃ L,g L x=some t) (hs:∀ t,jE (.inr (.inl (enc t)):V cx.ty)=true) :
  SatQ P cx f nres (fnW a enc d m) bx:=by
 subst hnr;refine aEE ok hZ hm hf λas r h=>?_
 obtain⟨x,t,rfl,hx,rfl⟩:=sF h;obtain⟨L,hL⟩:=hg x t hx;exact⟨ev,L,hK,hKw,by rw[he,hL];rfl,hs t⟩
end
section
variable {cx : Cx} {P : Program}
end
open Go
theorem dt {c:Prop}[Decidable c](h:c):decide c=true:=decide_eq_true h
theorem df {c:Prop}[Decidable c](h:¬ c):decide c=false:=decide_eq_false h
theorem wL {α:Type}[BEq α][LawfulBEq α]{a b:α}(h:¬ a=b):(a != b)=true:=by simpa using h
theorem aEj {α:Type}[BEq α][LawfulBEq α]{a b:α}(h:a=b):(a != b)=false:=by simpa using h
theorem wi {x:Int}(h1:-9223372036854775808<=x)(h2:x<=9223372036854775807):wrap .i64 x=x:=by
 unfold wrap;simp[IntKind.bits,IntKind.signed];omega
theorem wu {x:Int}(h1:0<=x)(h2:x<=18446744073709551615):wrap .u64 x=x:=by
 unfold wrap;simp[IntKind.bits,IntKind.signed];omega
theorem oW {α:Type}{a:List α}{i:Nat}(d:α)(h:i < a.length):a.drop i=a.getD i d::a.drop (i+1):=by
 rw[dE h];simp[List.getD,aC h]
open Go Go.RowKit
def Lent (w:World)(b:Nat):Prop:=b < w.heap.size
theorem aHa {w:World}{x:Addr}{v:Value}(h:w.cell? x=some v):x.spot=none/\x.block < w.heap.size:=by
 unfold World.cell? at h;split at h
 ·rename_i c e f hb;split at h
  ·simp at h
  ·rename_i hs;exact⟨by simpa using hs,(aL.1 hb).1⟩
 ·simp at h
theorem args_nil {cx:Cx}{w:World}{A0:Nat->Prop}:ArgAs cx w A0 [] []:=⟨rfl,λj a u h=>by simp at h⟩
theorem args_cons {cx:Cx}{w:World}{A0:Nat->Prop}{a:A cx.ty}{l:List (A cx.ty)}{u:Value}{us:List Value}(h:ArgA cx w A0 a u)(hs:ArgAs cx w A0 l us):ArgAs cx w A0 (a::l) (u::us):=
 ⟨by simp[hs.1],λj b v h1 h2=>by
  cases j with
  | zero=>
   simp only[aP,aB]at h1 h2;subst h1;subst h2;exact h
  | succ j=>exact hs.2 j b v (by simpa using h1) (by simpa using h2)⟩
theorem calls_true {P:Program}{cx:Cx}{f:FuncId}{X:Type}{a:Args cx.ty X}{d:Bool}{m:X->Option Bool}{enc:Bool->V cx.ty}(henc:enc true=.inl (.inl (lv (.bool true))))(hs:Sat P cx f (iT a enc d m)){w:World}
  {l:List (A cx.ty)} {us:List Value} {x:X} (hdec:a.dec l=some x) (hm:m x=some true) (hargs:ArgAs cx w (Lent w) l us) :
  Calls P f us.toArray w λe w'=>e=.returned (.bool true)/\Below w.heap.size w w':=by
 refine(hs w (Lent w) l us (enc true) (λb h=>h) hargs ?_).mono λe w' ⟨u,he,hb,hres⟩=>⟨?_,hb⟩
 ·unfold iT;rw[hdec];simp[hm]
 ·obtain⟨fp,_,_,hr⟩:=hres;rw[henc]at hr;have hr:u=.bool true/\fp=[]:=hr;rw[he,hr.1]
end Go.VM
