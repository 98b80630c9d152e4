/- A part of the proof of FnLogs: VmJ, VmK, VmL, VmM, VmN, VmO, VmPu, VmTop. -/
import Derived.Test.YtlnabockdjjpbaaGreatVmB
import Derived.Below
set_option linter.unusedSimpArgs false
set_option linter.unusedVariables false
namespace Go.VM
open Go.IntKind (wrap)
open Go.RowKit
structure LArg (ty:Nat->Type) (X:Type) where
 enc:X->L ty
 dec:L ty->Option X
 inv:∀ a x,dec a=some x->a=enc x
structure Arg (ty:Nat->Type) (X:Type) where
 enc:X->A ty
 dec:A ty->Option X
 inv:∀ a x,dec a=some x->a=enc x
def LArg.int {ty:Nat->Type}(k:IntKind):LArg ty Int:=
 {enc:=λx=>lv (.int k x),dec:=λa=>match a with | some (.inl v)=>aFy k v | _=>none,
  inv:=λa x h=>by
   split at h
   ·rename_i v;unfold aFy at h;split at h
    ·split at h
     ·rename_i hk;subst hk;cases h
      rfl
     ·simp at h
    ·simp at h
   ·simp at h }
def LArg.bool {ty:Nat->Type}:LArg ty Bool:=
 {enc:=λx=>lv (.bool x),dec:=λa=>match a with | some (.inl (.bool x))=>some x | _=>none,
  inv:=λa x h=>by
   split at h
   ·cases h;rfl
   ·simp at h }
def LArg.fn {ty:Nat->Type}(f:Nat):LArg ty Unit:=
 {enc:=λ_=>lv (.func (.func f) #[] #[]),
  dec:=λa=>match a with | some (.inl (.func (.func g) p q))=>if g=f/\p.toList.isEmpty/\q.toList.isEmpty then some ()else none | _=>none,
  inv:=λa x h=>by
   split at h
   ·rename_i g p q;split at h
    ·rename_i hc;simp only[nF]at hc;obtain⟨rfl,h1,h2⟩:=hc;have hp:p=#[]:=dP h1;have hq:q=#[]:=dP h2;subst hp;subst hq
     rfl
    ·simp at h
   ·simp at h }
def LArg.row {ty:Nat->Type}(e:Nat):LArg ty (List (ty e)):=
 {enc:=λx=>ls (ro e x),dec:=λa=>match a with | some (.inr s)=>if s.own == 0&&s.nm == 0&&!s.o then xD e s else none | _=>none,
  inv:=λa x h=>by
   split at h
   ·rename_i s;split at h
    ·rename_i hc;simp only[aD,beq_iff_eq,bF]at hc;unfold xD at h;split at h
     ·rename_i he;obtain⟨own,nm,e2,o2,xs⟩:=s;simp only at he hc;obtain⟨⟨rfl,rfl⟩,rfl⟩:=hc;subst he;cases h
      rfl
     ·simp at h
    ·simp at h
   ·simp at h }
def Arg.leaf {ty:Nat->Type}{X:Type}(a:LArg ty X):Arg ty X:=
 {enc:=λx=>.inl (a.enc x),dec:=λl=>match l with | .inl l=>a.dec l | _=>none,
  inv:=λl x h=>by
   split at h
   ·rename_i l;rw[a.inv l x h]
   ·simp at h }
abbrev Arg.int {ty:Nat->Type}(k:IntKind):Arg ty Int:=Arg.leaf (LArg.int k)
abbrev Arg.bool {ty:Nat->Type}:Arg ty Bool:=Arg.leaf LArg.bool
abbrev Arg.row {ty:Nat->Type}(e:Nat):Arg ty (List (ty e)):=Arg.leaf (LArg.row e)
structure SArg (ty:Nat->Type) (X:Type) where
 enc:X->List (L ty)
 dec:List (L ty)->Option X
 inv:∀ a x,dec a=some x->a=enc x
def SArg.one {ty:Nat->Type}{X:Type}(a:LArg ty X):SArg ty X:=
 {enc:=λx=>[a.enc x],dec:=λl=>match l with | [p]=>a.dec p | _=>none,
  inv:=λl x h=>by
   split at h
   ·rename_i p;rw[a.inv p x h]
   ·simp at h }
def SArg.cons {ty:Nat->Type}{X Y:Type}(a:LArg ty X)(s:SArg ty Y):SArg ty (X×Y):=
 {enc:=λx=>a.enc x.1::s.enc x.2,dec:=λl=>match l with | p::q=>(a.dec p).bind λx=>(s.dec q).map λy=>(x,y) | _=>none,
  inv:=λl x h=>by
   split at h
   ·rename_i p q;cases h1:a.dec p with
    | none=>rw[h1]at h;simp at h
    | some u=>
     cases h2:s.dec q with
     | none=>rw[h1,h2]at h;simp at h
     | some v=>
      rw[h1,h2]at h;simp only[fH,aN,aA]at h;subst h;rw[a.inv p u h1,s.inv q v h2]
   ·simp at h }
def Arg.agg {ty:Nat->Type}{X:Type}(s:SArg ty X):Arg ty X:=
 {enc:=λx=>.inr (s.enc x),dec:=λl=>match l with | .inr l=>s.dec l | _=>none,
  inv:=λl x h=>by
   split at h
   ·rename_i l;rw[s.inv l x h]
   ·simp at h }
structure Args (ty:Nat->Type) (X:Type) where
 enc:X->List (A ty)
 dec:List (A ty)->Option X
 inv:∀ a x,dec a=some x->a=enc x
def Args.nil {ty:Nat->Type}:Args ty Unit:=
 {enc:=λ_=>[],dec:=λl=>match l with | []=>some () | _=>none,
  inv:=λl x h=>by
   split at h
   ·rfl
   ·simp at h }
def Args.one {ty:Nat->Type}{X:Type}(a:Arg ty X):Args ty X:=
 {enc:=λx=>[a.enc x],dec:=λl=>match l with | [p]=>a.dec p | _=>none,
  inv:=λl x h=>by
   split at h
   ·rename_i p;rw[a.inv p x h]
   ·simp at h }
def Args.cons {ty:Nat->Type}{X Y:Type}(a:Arg ty X)(s:Args ty Y):Args ty (X×Y):=
 {enc:=λx=>a.enc x.1::s.enc x.2,dec:=λl=>match l with | p::q=>(a.dec p).bind λx=>(s.dec q).map λy=>(x,y) | _=>none,
  inv:=λl x h=>by
   split at h
   ·rename_i p q;cases h1:a.dec p with
    | none=>rw[h1]at h;simp at h
    | some u=>
     cases h2:s.dec q with
     | none=>rw[h1,h2]at h;simp at h
     | some v=>
      rw[h1,h2]at h;simp only[fH,aN,aA]at h;subst h;rw[a.inv p u h1,s.inv q v h2]
   ·simp at h }
def jB {cx:Cx}{X R:Type}(a:Args cx.ty X)(enc:R->V cx.ty)(d:R)(m:X->Option R):List (A cx.ty)->Option (Bool×V cx.ty):=
 λl=>(a.dec l).map λx=>((m x).isSome,enc ((m x).getD d))
theorem oU {cx:Cx}{X R:Type}{a:Args cx.ty X}{enc:R->V cx.ty}{d:R}{m:X->Option R}{l:List (A cx.ty)}{r:V cx.ty}(h:jB a enc d m l=some (true,r)):∃ x t,l=a.enc x/\m x=some t/\r=enc t:=by
 unfold jB at h;cases h1:a.dec l with
 | none=>rw[h1]at h;simp at h
 | some x=>
  rw[h1]at h;simp only[aN,aA,aJ]at h;cases h2:m x with
  | none=>rw[h2]at h;simp at h
  | some t=>
   rw[h2]at h;exact⟨x,t,a.inv l x h1,h2,h.2.symm⟩
theorem dZ {P:Program}{cx:Cx}(ok:cx.Ok)(hZ:cx.POk P)(hm:P.follows .mixedOrders=true){f:FuncId}{fn:Func}(hf:P.funcs[f]?=some fn){X R:Type}(a:Args cx.ty X)(enc:R->V cx.ty)(d:R)(m:X->Option R)
  (ev:Env cx) (hK:KOk P cx ev.Kc) (hKw:KwOk P cx ev.Kw) (g:Nat->X->Option R) (he:∀ L x,jL P ev (cE L) fn (a.enc x)=(g L x).map enc) (hg:∀ x t,m x=some t->∃ L,g L x=some t) (hs:∀ t,dE (enc t)=true\/cP (enc t)=true) :
  Sat P cx f (jB a enc d m):=by
 refine xB ok hZ hm hf λas r h=>?_
 obtain⟨x,t,rfl,hx,rfl⟩:=oU h;obtain⟨L,hL⟩:=hg x t hx;exact⟨ev,L,hK,hKw,by rw[he,hL];rfl,hs t⟩
def eE {cx:Cx}:List (FuncId×(List (A cx.ty)->Option (Bool×V cx.ty)))->Kt cx
 | [],_=>none
 | (f,F)::r,g=>if g=f then some F else eE r g
theorem bW {P:Program}{cx:Cx}:KOk P cx (eE []):=λ_ _ h=>by simp[eE]at h
theorem bM {P:Program}{cx:Cx}{f:FuncId}{F:List (A cx.ty)->Option (Bool×V cx.ty)}{r:List (FuncId×(List (A cx.ty)->Option (Bool×V cx.ty)))}(h:Sat P cx f F)(hr:KOk P cx (eE r)):KOk P cx (eE ((f,F)::r)):=by
 intro g G hG;unfold eE at hG;split at hG
 ·rename_i he;subst he;cases hG;exact h
 ·exact hr g G hG
end Go.VM
namespace Go.VM
open Go.IntKind (wrap)
open Go.RowKit
def vW:List Nat->Code->Code
 | [],c=>c
 | i::p,c=>match c with
  | .seq x y=>vW p (if i=0 then x else y)
  | .cond _ x y=>vW p (if i=0 then x else y)
  | .block _ c=>vW p c
  | .loop c=>vW p c
  | _=>.skip
def aEC (fn:Func)(p:List Nat):Code:=match fn.body with | some c=>vW p c | none=>.skip
section
variable {cx : Cx} {β : Type}
def yB (P:Program)(ev:Env cx)(lp:Lp cx β):List Nat->Nat->Code->Kn cx β->Kn cx β
 | [],_,_,k=>k
 | i::p,bid,c,k=>match c with
  | .seq x y=>if i=0 then yB P ev lp p bid x (aEW (wH P ev lp bid y) k)else yB P ev lp p bid y k
  | .cond _ x y=>yB P ev lp p bid (if i=0 then x else y) k
  | .block id c=>yB P ev lp p id c (aEE id (ev.xv id) k)
  | .loop c=>yB P ev lp p bid c k
  | _=>k
def aGa (P:Program)(ev:Env cx)(L:Nat)(fn:Func)(id:Nat)(p:List Nat):St cx.ty->Kn cx β->Option β:=wH P ev (cE L) id (aEC fn p)
def fG (P:Program)(ev:Env cx)(L:Nat)(fn:Func)(id:Nat)(p:List Nat)(K:Kn cx β)(n:Nat)(st:St cx.ty):Option β:=
 uO (aGa P ev L fn id p) (canon (ev.lv id)) (aEE id (ev.xv id) K) n st
def aGo (P:Program)(ev:Env cx)(L:Nat)(fn:Func)(id:Nat)(p:List Nat)(K:Kn cx β)(g:St cx.ty->Option β)(st:St cx.ty):Option β:=
 aGa P ev L fn id p st (aEW (λst' _=>g (canon (ev.lv id) st')) (aEE id (ev.xv id) K))
theorem gN (P:Program)(ev:Env cx)(L:Nat)(fn:Func)(id:Nat)(p:List Nat)(K:Kn cx β)(n:Nat)(st:St cx.ty) :
  fG P ev L fn id p K (n+1) st=aGo P ev L fn id p K (fG P ev L fn id p K n) st:=rfl
def iU (P:Program)(ev:Env cx)(L:Nat)(fn:Func)(p:List Nat)(fin:St cx.ty->Option β):Kn cx β:=yB P ev (cE L) p 0 (aEC fn []) { n:=fin,x:=λ_ _=>none,r:=fin }
def iV (fin:St cx.ty->Option β)(k:St cx.ty->Option β)(x:Nat->St cx.ty->Option β):Kn cx β:={ n:=k,x:=x,r:=fin }
end
end Go.VM
namespace Go.VM
open Go.IntKind (wrap)
open Go.RowKit
section
variable {cx : Cx} {P : Program}
theorem nP:∀ (l:List ResultVar) (slots:List (V cx.ty)) (as:List (A cx.ty)),sY P slots l=some as->as.length=l.length
 | [],_,as,h=>by simp only[sY,aA]at h;subst h;rfl
 | .tmp t::r,slots,as,h=>by
  simp only[sY]at h;split at h
  ·rename_i a as' e1 e2;simp only[aA]at h;subst h;simp[nP r slots as' e2]
  ·simp at h
 | .cell t ty::r,slots,as,h=>by
  simp only[sY]at h;split at h
  ·rename_i p as' e1 e2;split at h
   ·split at h
    ·simp only[aA]at h;subst h;simp[nP r slots as' e2]
    ·simp at h
   ·simp at h
  ·simp at h
def LArg.own {ty:Nat->Type}(e:Nat):LArg ty (List (ty e)):=
 {enc:=λx=>ls { own:=2,nm:=0,e:=e,o:=true,xs:=x },dec:=λa=>match a with | some (.inr s)=>if s.own == 2&&s.nm == 0&&s.o then xD e s else none | _=>none,
  inv:=λa x h=>by
   split at h
   ·rename_i s;split at h
    ·rename_i hc;simp only[aD,beq_iff_eq]at hc;unfold xD at h;split at h
     ·rename_i he;obtain⟨own,nm,e2,o2,xs⟩:=s;simp only at he hc;obtain⟨⟨rfl,rfl⟩,rfl⟩:=hc;subst he;cases h
      rfl
     ·simp at h
    ·simp at h
   ·simp at h }
def fnW {cx:Cx}{X R:Type}(a:Args cx.ty X)(enc:R->List (A cx.ty))(d:R)(m:X->Option R):List (A cx.ty)->Option (Bool×List (A cx.ty)):=
 λl=>(a.dec l).map λx=>((m x).isSome,enc ((m x).getD d))
theorem aCF {cx:Cx}{X R:Type}{a:Args cx.ty X}{enc:R->List (A cx.ty)}{d:R}{m:X->Option R}{l:List (A cx.ty)}{r:List (A cx.ty)}(h:fnW a enc d m l=some (true,r)):∃ x t,l=a.enc x/\m x=some t/\r=enc t:=by
 unfold fnW at h;cases h1:a.dec l with
 | none=>rw[h1]at h;simp at h
 | some x=>
  rw[h1]at h;simp only[aN,aA,aJ]at h;cases h2:m x with
  | none=>rw[h2]at h;simp at h
  | some t=>
   rw[h2]at h;exact⟨x,t,a.inv l x h1,h2,h.2.symm⟩
def eD {cx:Cx}:List (FuncId×WFn cx)->Kwt cx
 | [],_=>none
 | (f,F)::r,g=>if g=f then some F else eD r g
theorem bH {P:Program}{cx:Cx}:KwOk P cx (eD []):=λ_ _ h=>by simp[eD]at h
theorem cW {P:Program}{cx:Cx}{f:FuncId}{F:WFn cx}{r:List (FuncId×WFn cx)}(h:SatOf P cx f F)(hr:KwOk P cx (eD r)):KwOk P cx (eD ((f,F)::r)):=by
 intro g G hG;unfold eD at hG;split at hG
 ·rename_i he;subst he;cases hG;exact h
 ·exact hr g G hG
def roL {ty:Nat->Type}:L ty->L ty
 | some (.inr s)=>some (.inr (ro s.e s.xs))
 | l=>l
def roA {ty:Nat->Type}:A ty->A ty
 | .inl l=>.inl (roL l)
 | .inr l=>.inr (l.map roL)
def roV {ty:Nat->Type}:V ty->V ty
 | .inl a=>.inl (roA a)
 | .inr (.inl l)=>.inr (.inl (l.map roA))
 | v=>v
theorem aCg (ok:cx.Ok){w:World}{S S':Nat->Prop}{l:L cx.ty}{u:Value}{fp:List Nat}(hS:∀ b,S b->S' b)(hf:∀ b∈fp,S' b)(h:ResL cx w S l u fp):ResL cx w S' (roL l) u []:=by
 match l,h with
 | some (.inl v),h=>exact⟨h.1,rfl⟩
 | some (.inr s),h=>
  unfold ResL at h;show ResL cx w S' (some (.inr (ro s.e s.xs))) u [];unfold ResL;simp only[ro];rw[if_neg (by decide)];refine⟨trivial,trivial,?_⟩;by_cases h2:s.own=2
  ·simp only[h2,if_true]at h;obtain⟨_,n,h⟩:=h;exact⟨n,lL (OwnL.rep ok n _ _ _ h hf)⟩
  ·simp only[h2,if_false]at h;obtain⟨_,_,n,h⟩:=h;exact⟨n,lL (RepL_mono cx (λ_ _=>rfl) hS n _ u h)⟩
theorem aCh (ok:cx.Ok){w:World}{S S':Nat->Prop}{a:A cx.ty}{u:Value}{fp:List Nat}(hS:∀ b,S b->S' b)(hf:∀ b∈fp,S' b)(h:ResA cx w S a u fp):ResA cx w S' (roA a) u []:=by
 match a,h with
 | .inl l,h=>exact aCg ok hS hf h
 | .inr l,⟨us,fps,hu,hfp,h1,h2,h⟩=>
  refine⟨us,l.map (λ_=>[]),hu,?_,by simp[h1],by simp,λj a v f e1 e2 e3=>?_⟩
  ·exact(flatten_nil λf hf'=>by obtain⟨_,_,rfl⟩:=aG.1 hf';rfl).symm
  ·rw[aL]at e1 e3;cases e0:l[j]? with
   | none=>rw[e0]at e1;simp at e1
   | some a0=>
    rw[e0]at e1 e3;simp only[aN,aA]at e1 e3;subst e1;subst e3;have hj:j < fps.length:=by rw[h2];exact(aE.1 e0).1
    refine aCg ok hS (λb hb=>hf b ?_) (h j a0 v fps[j] e0 e2 (aC hj));rw[hfp];exact bZ.2 ⟨_,dY hj,hb⟩
theorem aCf (ok:cx.Ok){w:World}{A0 NN:Nat->Prop}{r:V cx.ty}{u:Value}(h:ResV cx w A0 NN r u):ResV cx w A0 NN (roV r) u:=by
 obtain⟨fp,h1,h2,h⟩:=h;have hS:∀ b,(A0 b\/(NN b/\b < w.heap.size/\b∉fp))->(A0 b\/(NN b/\b < w.heap.size/\b∉([]:List Nat))):=λb hb=>hb.elim .inl λhb=>.inr ⟨hb.1,hb.2.1,by simp⟩
 have hf:∀ b∈fp,(A0 b\/(NN b/\b < w.heap.size/\b∉([]:List Nat))):=λb hb=>.inr ⟨(h2 b hb).1,(h2 b hb).2,by simp⟩
 refine⟨[],pI,by simp,?_⟩
 match r,h with
 | .inl a,h=>exact aCh ok hS hf h
 | .inr (.inl l),⟨us,fps,hu,hfp,g1,g2,h⟩=>
  refine⟨us,l.map (λ_=>[]),hu,?_,by simp[g1],by simp,λj a v f e1 e2 e3=>?_⟩
  ·exact(flatten_nil λf hf'=>by obtain⟨_,_,rfl⟩:=aG.1 hf';rfl).symm
  ·rw[aL]at e1 e3;cases e0:l[j]? with
   | none=>rw[e0]at e1;simp at e1
   | some a0=>
    rw[e0]at e1 e3;simp only[aN,aA]at e1 e3;subst e1;subst e3;have hj:j < fps.length:=by rw[g2];exact(aE.1 e0).1
    refine aCh ok hS (λb hb=>hf b ?_) (h j a0 v fps[j] e0 e2 (aC hj));rw[hfp];exact bZ.2 ⟨_,dY hj,hb⟩
 | .inr (.inr _),h=>exact h.elim
def aGC {ty:Nat->Type}(st:St ty):List Nat:=((st.slots.flatMap bnW).filter (λm=>!st.D.contains m)).eraseDups
def aE6 (P:Program)(fn:Func)(st:St cx.ty):Option (V cx.ty):=
 match eK P fn st with
 | some r=>if dE r || cP r then some (roV r)else
   if(aGC st).all (λm=>!st.D.contains m&&st.slots.any (λv=>(bnW v).contains m))then
    (match eK P fn (st.frzN (aGC st))with
    | some r=>if cP r then some (roV r)else none
    | none=>none)
   else none
 | none=>none
def aEm (P:Program)(ev:Env cx)(lp:Lp cx (V cx.ty))(fn:Func)(args:List (A cx.ty)):Option (V cx.ty):=
 match fn.body with
 | some code=>wH P ev lp 0 code { slots:=args.map iM++List.replicate (fn.ntmps-args.length) aT,D:=[],F:=[],ctr:=1 } { n:=aE6 P fn,x:=λ_ _=>none,r:=aE6 P fn }
 | none=>none
theorem aBm (ok:cx.Ok)(hZ:cx.POk P)(hm:P.follows .mixedOrders=true){f:FuncId}{fn:Func}(hf:P.funcs[f]?=some fn){F:List (A cx.ty)->Option (Bool×V cx.ty)}
  (h:∀ as r,F as=some (true,r)->∃ (ev:Env cx) (L:Nat),KOk P cx ev.Kc/\KwOk P cx ev.Kw/\aEm P ev (cE L) fn as=some r):Sat P cx f F:=by
 intro w A0 l us r hA hargs hF;obtain⟨ev,L,hK,hKw,hev⟩:=h l r hF;unfold aEm at hev;split at hev
 ·rename_i code hcode
  let c:Ct cx.ty:={ T:=[],D:=[],F:=[],w:=w,S:=A0,N:=λb=>w.heap.size<=b,K:=[] }
  have hwf:Wf cx c:=⟨by simp[c],by simp[c],by simp[c],by simp[c],λb hb=>by have:=hA b hb;show ¬ w.heap.size<=b;omega,by simp[c],λb hb=>hb⟩
  have hrd:∀ b,A0 b->Rd c b:=λb hb=>⟨hA b hb,.inl hb,by simp[c]⟩
  refine calls_of_wp hf hcode ?_;refine kM ok hZ ev L hK hKw hm (W:=w) (S:=A0) (N:=λb=>w.heap.size<=b) (KK:=[]) code 0 _ _ (λe c' st' a' h1 h2 h3 h4 h5=>?_) _ c _ ⟨hwf,?_,λt=>?_,rfl,λn=>by simp[c],λn=>by simp[c],λn hn=>?_,λp u hp=>by simp[c]at hp,PrOK.nil,PdOK.none⟩ rfl ⟨rfl,rfl⟩ (Kept.refl _ _) hev
  ·have fin:aE6 P fn st'=some r->a'.defers=[]/\∃ v,(results fn a'.tmps).run P c'.w=.ok v c'.w/\(∃ u,Ending.returned v=.returned u/\Below w.heap.size w c'.w/\ResV cx c'.w A0 (λb=>w.heap.size<=b) r u):=by
    intro ho;unfold aE6 at ho;split at ho
    ·rename_i r0 hr0;split at ho
     ·rename_i hmix;simp only[aA]at ho;subst ho;obtain⟨u,h6,h7⟩:=oS ok h1 hr0 (by simpa using hmix);rw[h2,h3.1]at h7;exact⟨h1.defers,u,h6,u,rfl,h4.low,aCf ok h7⟩
     ·split at ho
      ·rename_i hc;split at ho
       ·rename_i r1 hr1;split at ho
        ·rename_i hno;simp only[aA]at ho;subst ho;obtain⟨c2,g1,hw,hS2,hN2,hK2⟩:=h1.frzN ok (ns:=aGC st') (λm hm=>by
          have:=aW.1 hc m hm;simp only[aD,bF,dW,decide_eq_false_iff_not,List.any_eq_true,decide_eq_true_eq]at this;exact⟨this.1,this.2⟩)
         obtain⟨u,h6,h7⟩:=oS ok g1 hr1 (.inr hno);rw[hS2,hN2,h2,h3.1,hw]at h7;rw[hw]at h6;exact⟨h1.defers,u,h6,u,rfl,h4.low,aCf ok h7⟩
        ·simp at ho
       ·simp at ho
      ·simp at ho
    ·simp at ho
   cases e with
   | normal=>exact fin h5
   | ret=>exact fin h5
   | _=>simp[Kn.on]at h5
  ·simp[hargs.1]
  ·show RepV cx c _ _;by_cases ht:t < l.length
   ·have htu:t < us.length:=by rw[hargs.1];exact ht
    have e1:(l.map iM++List.replicate (fn.ntmps-l.length) (aT:V cx.ty)).getD t aT=iM l[t]:=by
     simp[List.getD,aU,ht]
    have e2:(us.toArray++Array.replicate (fn.ntmps-us.toArray.size) undef).getD t undef=us[t]:=by
     simp[aP,dS,htu]
    rw[e1,e2];exact ArgA.repV hrd (hargs.2 t _ _ (aC ht) (aC htu))
   ·have e1:(l.map iM++List.replicate (fn.ntmps-l.length) (aT:V cx.ty)).getD t aT=aT:=by
     simp only[List.getD];rw[aS (by simp;omega)];simp only[bV,eZ];split<;>rfl
    rw[e1]
    trivial
  ·rcases hn with⟨tk,ht,_⟩ | hn | hn
   ·simp[c]at ht
   ·simp[c]at hn
   ·simp[c]at hn
 ·simp at hev
theorem aFL {P:Program}{cx:Cx}(ok:cx.Ok)(hZ:cx.POk P)(hm:P.follows .mixedOrders=true){f:FuncId}{fn:Func}(hf:P.funcs[f]?=some fn){X R:Type}(a:Args cx.ty X)(enc:R->V cx.ty)(d:R)(m:X->Option R)
  (ev:Env cx) (hK:KOk P cx ev.Kc) (hKw:KwOk P cx ev.Kw) (g:Nat->X->Option R) (he:∀ L x,aEm P ev (cE L) fn (a.enc x)=(g L x).map enc) (hg:∀ x t,m x=some t->∃ L,g L x=some t) (_hs:∀ t,dE (enc t)=true\/cP (enc t)=true) :
  Sat P cx f (jB a enc d m):=by
 refine aBm ok hZ hm hf λas r h=>?_
 obtain⟨x,t,rfl,hx,rfl⟩:=oU h;obtain⟨L,hL⟩:=hg x t hx;exact⟨ev,L,hK,hKw,by rw[he,hL];rfl⟩
end
end Go.VM
namespace Go.VM
open Go.IntKind (wrap)
open Go.RowKit
section
variable {cx : Cx} {P : Program}
def aCs (cx:Cx)(P:Program)(D F:List Nat)(t:TypeId)(seen:List Nat)(l:L cx.ty):Option (L cx.ty×List Nat):=
  match l with
  | some (.inl (.slice none 0 0))=>match cU P t with
    | some e=>some (ls { own:=2,nm:=0,e:=e,o:=true,xs:=[] },seen)
    | none=>none
  | some (.inl v)=>some (lv v,seen)
  | some (.inr s)=>if s.own == 1 then
      (if D.contains s.nm || seen.contains s.nm then none
       else if F.contains s.nm then some (ls (ro s.e s.xs),seen)
       else if s.o&&cx.flat s.e then some (ls { own:=2,nm:=0,e:=s.e,o:=true,xs:=s.xs },s.nm::seen)else none)
    else some (ls (ro s.e s.xs),seen)
  | none=>none
def pR (cx:Cx)(P:Program)(D F:List Nat):List TypeId->List Nat->List (L cx.ty)->Option (List (L cx.ty)×List Nat)
 | t::ts,seen,l::r=>match aCs cx P D F t seen l with
  | some (l',s1)=>match pR cx P D F ts s1 r with
   | some (r',s2)=>some (l'::r',s2)
   | none=>none
  | none=>none
 | [],seen,[]=>some ([],seen)
 | _,_,_=>none
def aDR (cx:Cx)(P:Program)(D F:List Nat)(t:TypeId)(seen:List Nat)(a:A cx.ty):Option (A cx.ty×List Nat):=
 match a with
 | .inl l=>match aCs cx P D F t seen l with
  | some (l',s1)=>some (.inl l',s1)
  | none=>none
 | .inr l=>match pR cx P D F (gE P 8 t) seen l with
  | some (l',s1)=>some (.inr l',s1)
  | none=>none
def pS (cx:Cx)(P:Program)(D F:List Nat):List TypeId->List Nat->List (A cx.ty)->Option (List (A cx.ty)×List Nat)
 | t::ts,seen,l::r=>match aDR cx P D F t seen l with
  | some (l',s1)=>match pS cx P D F ts s1 r with
   | some (r',s2)=>some (l'::r',s2)
   | none=>none
  | none=>none
 | [],seen,[]=>some ([],seen)
 | _,_,_=>none
structure OSf (c:Ct cx.ty) (seen seen':List Nat) (fp:List Nat):Prop where
 src:∀ b∈fp,∃ tk∈c.T,tk.nm∈seen'/\tk.nm∉seen/\b∈vb tk.u
 nd:fp.Nodup
 grow:∀ n∈seen,n∈seen'
 row:∀ b∈fp,∀ tk∈c.T,b∈vb tk.u->∃ s,tk.c=.inl s
theorem OSf.nil (c:Ct cx.ty)(seen:List Nat):OSf c seen seen []:=⟨by simp,by simp,λ_ h=>h,by simp⟩
theorem OSf.app {c:Ct cx.ty}(h:Wf cx c){s0 s1 s2 f1 f2:List Nat}(h1:OSf c s0 s1 f1)(h2:OSf c s1 s2 f2):OSf c s0 s2 (f1++f2):=by
 refine⟨λb hb=>?_,?_,λn hn=>h2.grow n (h1.grow n hn),λb hb tk ht hv=>(aB.1 hb).elim (λhb=>h1.row b hb tk ht hv) (λhb=>h2.row b hb tk ht hv)⟩
 ·rcases aB.1 hb with hb | hb
  ·obtain⟨tk,k1,k2,k3,k4⟩:=h1.src b hb;exact⟨tk,k1,h2.grow _ k2,k3,k4⟩
  ·obtain⟨tk,k1,k2,k3,k4⟩:=h2.src b hb;exact⟨tk,k1,k2,λhs=>k3 (h1.grow _ hs),k4⟩
 ·rw[aF];refine⟨h1.nd,h2.nd,λa ha b hb he=>?_⟩;subst he;obtain⟨t1,k1,k2,k3,k4⟩:=h1.src a ha;obtain⟨t2,m1,m2,m3,m4⟩:=h2.src a hb;exact bU h k1 m1 (λe=>m3 (e▸k2)) (aB.2 (.inl k4)) (aB.2 (.inl m4))
theorem uI (ok:cx.Ok){c:Ct cx.ty}(h:Wf cx c){D F:List Nat}(hD:∀ n,n∈c.D↔n∈D)(hF:∀ n,n∈c.F↔n∈F){t:TypeId}{seen seen':List Nat}{l l':L cx.ty}{u:Value}(hr:RepLS cx c l u)(ho:aCs cx P D F t seen l=some (l',seen')) :
  ∃ fp,ResL cx c.w (Rd c) l' u fp/\OSf c seen seen' fp:=by
 unfold aCs at ho;split at ho
 ·split at ho
  ·simp only[aA,aJ]at ho;obtain⟨rfl,rfl⟩:=ho;have hr:u=.slice none 0 0:=hr;subst hr;refine⟨[],?_,OSf.nil c seen⟩;unfold ResL;simp only[ls,if_true];exact⟨trivial,1,[],[],World.ownsRow_nil _ _ _ _,rfl,rfl,rfl,λj l c f h=>by simp at h⟩
  ·simp at ho
 ·simp only[aA,aJ]at ho;obtain⟨rfl,rfl⟩:=ho;exact⟨[],⟨hr,rfl⟩,OSf.nil c seen⟩
 ·rename_i s;unfold RepLS at hr;by_cases h1:s.own=1
  ·simp only[h1,if_true,beq_self_eq_true]at hr ho;obtain⟨_,hr⟩:=hr;split at ho
   ·simp at ho
   ·rename_i hds;simp only[eH,not_or,nH]at hds;have h2:s.nm∉c.D:=by rw[hD];simpa using hds.1
    have hsn:s.nm∉seen:=by simpa using hds.2
    simp only[h2,if_false]at hr;split at ho
    ·rename_i hf;have h3:s.nm∈c.F:=by rw[hF];simpa using hf
     simp only[h3,if_true]at hr;simp only[aA,aJ]at ho;obtain⟨rfl,rfl⟩:=ho;obtain⟨n,hr⟩:=hr;refine⟨[],?_,OSf.nil c seen⟩;unfold ResL;simp only[ls,ro];rw[if_neg (by decide)];exact⟨trivial,trivial,n,RepL_ro hr⟩
    ·rename_i hf;have h3:s.nm∉c.F:=by rw[hF];simpa using hf
     simp only[h3,if_false]at hr;obtain⟨tk,ht,hn,hc,hu⟩:=hr;split at ho
     ·rename_i hso;simp only[aD]at hso;obtain⟨hso,hflat⟩:=hso;simp only[aA,aJ]at ho;obtain⟨rfl,rfl⟩:=ho;have htr:=h.rep tk ht;unfold TokRep at htr;rw[hc]at htr;simp only[hso,if_true]at htr;obtain⟨hv,n,htr⟩:=htr;have hfp0:tk.fp=[]:=by
       have:=(kW ok hflat htr).2;rw[<-hv]at this;exact dU (this.trans (dR _).symm)
      refine⟨bO tk,?_,⟨λb hb=>⟨tk,ht,by rw[hn];exact aZ ..,by rw[hn];exact hsn,by simpa[bO,hfp0]using hb⟩,?_,λn hn=>aV _ hn,λb hb t2 ht2 hv2=>?_⟩⟩
      ·unfold ResL;simp only[ls,if_true];refine⟨trivial,n,?_⟩;rw[<-hu];cases n with
       | zero=>simp[OwnL]at htr
       | succ n=>exact htr
      ·have hnd:=h.nodup;obtain⟨l1,l2,hl⟩:=bE ht;rw[hl]at hnd;simp only[aR,aO]at hnd;exact(aF.1 (aF.1 hnd).2.1).1
      ·rcases Classical.em (t2.nm=tk.nm)with he | he
       ·have:=eC h ht2 ht he;subst this;exact⟨s,hc⟩
       ·exact(bU h ht2 ht he (aB.2 (.inl hv2)) hb).elim
     ·simp at ho
  ·have hb1:(s.own == 1)=false:=by simpa using h1
   simp only[h1,if_false,hb1,cI]at hr ho;simp only[aA,aJ]at ho;obtain⟨rfl,rfl⟩:=ho;obtain⟨n,hr⟩:=hr;refine⟨[],?_,OSf.nil c seen⟩;unfold ResL;simp only[ls,ro];rw[if_neg (by decide)];exact⟨trivial,trivial,n,RepL_ro hr⟩
 ·simp at ho
theorem sB (ok:cx.Ok){c:Ct cx.ty}(h:Wf cx c){D F:List Nat}(hD:∀ n,n∈c.D↔n∈D)(hF:∀ n,n∈c.F↔n∈F):∀ (ts:List TypeId) (l l':List (L cx.ty)) (us:List Value) (seen seen':List Nat),RepLs cx c l us->pR cx P D F ts seen l=some (l',seen')->
  ∃ fps,ResLs cx c.w (Rd c) l' us fps/\OSf c seen seen' (List.flatten fps)
 | [],[],l',us,seen,seen',hr,ho=>by
  simp only[pR,aA,aJ]at ho;obtain⟨rfl,rfl⟩:=ho;exact⟨[],⟨hr.1,rfl,λj a u f h=>by simp at h⟩,OSf.nil c seen⟩
 | t::ts,l::r,l',us,seen,seen',hr,ho=>by
  match us,hr with
  | [],hr=>simp[RepLs]at hr
  | u::us,hr=>
   simp only[pR]at ho;split at ho
   ·rename_i l1 s1 e1;split at ho
    ·rename_i r1 s2 e2;simp only[aA,aJ]at ho;obtain⟨rfl,rfl⟩:=ho;obtain⟨f,h1,h2⟩:=uI ok h hD hF (hr.2 0 l u rfl rfl) e1;obtain⟨fps,h3,h4⟩:=sB ok h hD hF ts r r1 us s1 s2 ⟨by simpa using hr.1,λj a b e1 e2=>hr.2 (j+1) a b (by simpa using e1) (by simpa using e2)⟩ e2;refine⟨f::fps,⟨by simp[h3.1],by simp[h3.2.1],λj a b f' e1 e2 e3=>?_⟩,by rw[bI];exact h2.app h h4⟩;cases j with
     | zero=>
      simp only[aK,aA]at e1 e2 e3;subst e1;subst e2;subst e3;exact h1
     | succ j=>exact h3.2.2 j a b f' (by simpa using e1) (by simpa using e2) (by simpa using e3)
    ·simp at ho
   ·simp at ho
 | [],_::_,_,_,_,_,_,ho=>by simp[pR]at ho
 | _::_,[],_,_,_,_,_,ho=>by simp[pR]at ho
theorem aBt (ok:cx.Ok){c:Ct cx.ty}(h:Wf cx c){D F:List Nat}(hD:∀ n,n∈c.D↔n∈D)(hF:∀ n,n∈c.F↔n∈F){t:TypeId}{seen seen':List Nat}{a a':A cx.ty}{u:Value}(hr:RepA cx c a u)(ho:aDR cx P D F t seen a=some (a',seen')) :
  ∃ fp,ResA cx c.w (Rd c) a' u fp/\OSf c seen seen' fp:=by
 unfold aDR at ho;split at ho
 ·split at ho
  ·rename_i l1 s1 e1;simp only[aA,aJ]at ho;obtain⟨rfl,rfl⟩:=ho;exact uI ok h hD hF hr e1
  ·simp at ho
 ·split at ho
  ·rename_i l1 s1 e1;simp only[aA,aJ]at ho;obtain⟨rfl,rfl⟩:=ho;obtain⟨us,hu,hr⟩:=hr;obtain⟨fps,h1,h2⟩:=sB ok h hD hF _ _ _ us _ _ hr e1;exact⟨_,⟨us,fps,hu,rfl,h1⟩,h2⟩
  ·simp at ho
theorem sC (ok:cx.Ok){c:Ct cx.ty}(h:Wf cx c){D F:List Nat}(hD:∀ n,n∈c.D↔n∈D)(hF:∀ n,n∈c.F↔n∈F):∀ (ts:List TypeId) (l l':List (A cx.ty)) (us:List Value) (seen seen':List Nat),RepAs cx c l us->pS cx P D F ts seen l=some (l',seen')->
  ∃ fps,ResAs cx c.w (Rd c) l' us fps/\OSf c seen seen' (List.flatten fps)
 | [],[],l',us,seen,seen',hr,ho=>by
  simp only[pS,aA,aJ]at ho;obtain⟨rfl,rfl⟩:=ho;exact⟨[],⟨hr.1,rfl,λj a u f h=>by simp at h⟩,OSf.nil c seen⟩
 | t::ts,l::r,l',us,seen,seen',hr,ho=>by
  match us,hr with
  | [],hr=>simp[RepAs]at hr
  | u::us,hr=>
   simp only[pS]at ho;split at ho
   ·rename_i l1 s1 e1;split at ho
    ·rename_i r1 s2 e2;simp only[aA,aJ]at ho;obtain⟨rfl,rfl⟩:=ho;obtain⟨f,h1,h2⟩:=aBt ok h hD hF (hr.2 0 l u rfl rfl) e1;obtain⟨fps,h3,h4⟩:=sC ok h hD hF ts r r1 us s1 s2 ⟨by simpa using hr.1,λj a b e1 e2=>hr.2 (j+1) a b (by simpa using e1) (by simpa using e2)⟩ e2;refine⟨f::fps,⟨by simp[h3.1],by simp[h3.2.1],λj a b f' e1 e2 e3=>?_⟩,by rw[bI];exact h2.app h h4⟩;cases j with
     | zero=>
      simp only[aK,aA]at e1 e2 e3;subst e1;subst e2;subst e3;exact h1
     | succ j=>exact h3.2.2 j a b f' (by simpa using e1) (by simpa using e2) (by simpa using e3)
    ·simp at ho
   ·simp at ho
 | [],_::_,_,_,_,_,_,ho=>by simp[pS]at ho
 | _::_,[],_,_,_,_,_,ho=>by simp[pS]at ho
def qR {ty:Nat->Type}(v:V ty):Option (List (L ty)):=
 match v with
 | .inr (.inr p)=>if p.kind == 0&&p.off == 0&&p.i == 0&&p.cells.all mR then some p.cells else none
 | _=>none
theorem pD {c:Ct cx.ty}(hw:Wf cx c){v:V cx.ty}{u:Value}(h:RepV cx c v u){l:List (L cx.ty)}(hp:qR v=some l) :
  ∃ tk∈c.T,∃ g cur t,tk.c=.inr l/\tk.u=.pointer (some ⟨g,0,none⟩)/\u=.pointer (some ⟨g,0,none⟩)/\c.w.heap[g]?=some (.cells cur t (0,0))/\l.all mR=true/\ArgA cx c.w (Rd c) (.inr l) (.agg cur):=by
 unfold qR at hp;split at hp
 ·rename_i p;split at hp
  ·rename_i hc;simp only[aD,beq_iff_eq]at hc;simp only[aA]at hp;subst hp;have h:RepP cx c p u:=h;unfold RepP at h;simp only[hc.1.1.1,hc.1.1.2,hc.1.2]at h;obtain⟨tk,ht,hn,hcc,g,hu,hv⟩:=h;have hv:u=.pointer (some ⟨g,0,none⟩):=hv;have htr:=hw.rep tk ht;unfold TokRep at htr;rw[hcc]at htr;obtain⟨_,g',cur,t,hu',hh,hcells⟩:=htr;rw[hu]at hu';simp only[Value.pointer.injEq,aA,Addr.mk.injEq]at hu';obtain⟨rfl,_⟩:=hu';exact⟨tk,ht,g,cur,t,hcc,hu,hv,hh,hc.2,cur.toList,by simp,hcells.1,λj b w e1 e2=>vZ (aW.1 hc.2 b (aM e1)) (hcells.2 j b w e1 e2)⟩
  ·simp at hp
 ·simp at hp
theorem ArgL.mono1 {w:World}{S S':Nat->Prop}(hS:∀ b,S b->S' b){l:L cx.ty}{u:Value}(h:ArgL cx w S l u):ArgL cx w S' l u:=by
 match l,h with
 | some (.inl v),h=>exact h
 | some (.inr s),⟨h0,n,h⟩=>exact⟨h0,n,RepL_mono cx (λ_ _=>rfl) hS n _ u h⟩
theorem ArgL.res {w:World}{S:Nat->Prop}{l:L cx.ty}{u:Value}(h:ArgL cx w S l u):ResL cx w S l u []:=by
 match l,h with
 | some (.inl v),h=>exact⟨h,rfl⟩
 | some (.inr s),⟨h0,n,h⟩=>
  unfold ResL;have h2:¬ s.own=2:=by omega
  simp only[h2,if_false];exact⟨h0,trivial,n,h⟩
def tA (P:Program)(fn:Func)(st:St cx.ty):Option (List (A cx.ty)):=
 match sY P st.slots fn.results.toList,qR (st.slots.getD 0 aT)with
 | some rs,some l=>match pS cx P st.D st.F fn.resultTypes.toList [] rs with
  | some (as',_)=>some (as'++[.inr l])
  | none=>none
 | _,_=>none
def tG (P:Program)(ev:Env cx)(lp:Lp cx (List (A cx.ty)))(fn:Func)(args:List (A cx.ty)):Option (List (A cx.ty)):=
 match fn.body,args with
 | some code,.inr lc::rest=>
   wH P ev lp 0 code { slots:=rK 0 lc 0::(rest.map iM++List.replicate (fn.ntmps-(rest.length+1)) aT),D:=[],F:=[],ctr:=1,lo:=1 } { n:=tA P fn,x:=λ_ _=>none,r:=tA P fn }
 | _,_=>none
def aE7 (_P:Program)(fn:Func)(st:St cx.ty):Option (List (A cx.ty)):=
 match fn.results.toList with
 | [.tmp t]=>match qR (st.slots.getD t aT)with
  | some l=>some [.inr l]
  | none=>none
 | _=>none
def aFu (P:Program)(ev:Env cx)(lp:Lp cx (List (A cx.ty)))(fn:Func)(args:List (A cx.ty)):Option (List (A cx.ty)):=
 match fn.body with
 | some code=>wH P ev lp 0 code { slots:=args.map iM++List.replicate (fn.ntmps-args.length) aT,D:=[],F:=[],ctr:=1 } { n:=aE7 P fn,x:=λ_ _=>none,r:=aE7 P fn }
 | none=>none
theorem aBn (ok:cx.Ok)(hZ:cx.POk P)(hm:P.follows .mixedOrders=true){f:FuncId}{fn:Func}(hf:P.funcs[f]?=some fn){F:List (A cx.ty)->Option (Bool×List (A cx.ty))}
  (h:∀ as cs,F as=some (true,cs)->∃ (ev:Env cx) (L:Nat),KOk P cx ev.Kc/\KwOk P cx ev.Kw/\tG P ev (cE L) fn as=some cs):SatP P cx f fn.results.size F:=by
 intro w A0 g cur t lc l us cs hA hg hbox hcell hargs hF;obtain⟨ev,L,hK,hKw,hev⟩:=h _ cs hF;unfold tG at hev;split at hev
 ·rename_i code lc' rest hcode hl;simp only[iQ,Sum.inr.injEq]at hl;obtain⟨rfl,rfl⟩:=hl;have hgl:g < w.heap.size:=(bT.1 hg).1
  let tk:Tk cx.ty:={ nm:=0,u:=.pointer (some ⟨g,0,none⟩),fp:=[],c:=.inr lc }
  let c:Ct cx.ty:={ T:=[tk],D:=[],F:=[],w:=w,S:=A0,N:=λb=>w.heap.size<=b\/b=g,K:=[(0,.pointer (some ⟨g,0,none⟩))] }
  have hvb:vb tk.u++tk.fp=[g]:=by simp[tk,vb]
  have hrd:∀ b,A0 b->Rd c b:=λb hb=>⟨(hA b hb).1,.inl hb,λt2 ht=>by
   simp only[c,aH]at ht;subst ht;have:=(hA b hb).2;simpa[tk,vb]using this⟩
  obtain⟨us0,hus0,hlen0,hrep0⟩:=hbox;have hus0:us0=cur.toList:=by
   simp only[Value.agg.injEq]at hus0;rw[hus0]
  subst hus0;have hwf:Wf cx c:=by
   refine⟨by simp[c],by simp[c,hvb],λt2 ht b hb=>?_,λt2 ht=>?_,λb hb=>?_,λt2 _=>⟨by simp[c],by simp[c]⟩,λb hb=>.inl hb⟩
   ·simp only[c,aH]at ht;subst ht;rw[hvb]at hb;simp only[aH]at hb;subst hb;exact⟨.inr rfl,hgl⟩
   ·simp only[c,aH]at ht;subst ht;exact⟨rfl,g,cur,t,rfl,hg,hlen0,λj a u e1 e2=>ArgL.repS hrd (hrep0 j a u e1 e2)⟩
   ·have:=hA b hb;show ¬ (w.heap.size<=b\/b=g);omega
  refine calls_of_wp hf hcode ?_;refine kM ok hZ ev L hK hKw hm (W:=w) (S:=A0) (N:=λb=>w.heap.size<=b\/b=g) (KK:=c.K) code 0 _ _ (λe c' st' a' h1 h2 h3 h4 h5=>?_) _ c _ ⟨hwf,?_,λt=>?_,rfl,λn=>by simp[c],λn=>by simp[c],λn hn=>?_,λp u hp=>?_,PrOK.nil,PdOK.none⟩ rfl ⟨rfl,rfl⟩ (Kept.refl _ _) hev
  ·have fin:tA P fn st'=some cs->a'.defers=[]/\∃ v,(results fn a'.tmps).run P c'.w=.ok v c'.w/\(∃ (rs:List Value) (cur':Array Value),Ending.returned v=.returned (sA rs)/\rs.length=fn.results.size/\(∃ t',c'.w.heap[g]?=some (.cells cur' t' (0,0)))/\Kept (λb=>w.heap.size<=b\/b=g) w c'.w ∧
      ResV cx c'.w A0 (λb=>w.heap.size<=b) (.inr (.inl cs)) (.tuple (rs++[Value.agg cur']).toArray)):=by
    intro ho;unfold tA at ho;split at ho
    ·rename_i rs l' e1 e2;split at ho
     ·rename_i as' s1 e3;simp only[aA]at ho;subst ho;obtain⟨ur,h6,h7⟩:=lK (P:=P) ok h1.wf h1.rep _ _ e1;obtain⟨fps,h8,h9⟩:=sC ok h1.wf h1.dead h1.frz _ _ _ _ _ _ h7 e3;have hk0:a'.tmps.getD 0 undef=.pointer (some ⟨g,0,none⟩):=(h1.kp 0 (.pointer (some ⟨g,0,none⟩)) (by rw[h3.2];exact aH.2 rfl)).2;obtain⟨t2,ht2,g2,cur',t',hc2,hu2,hv2,hh2,_,hcells⟩:=pD h1.wf (h1.rep 0) e2;rw[hk0]at hv2;simp only[Value.pointer.injEq,aA,Addr.mk.injEq]at hv2;obtain⟨rfl,_⟩:=hv2;have hgv:g∈vb t2.u:=by rw[hu2];simp[vb]
      have hfpN:∀ b∈List.flatten fps,w.heap.size<=b/\b < c'.w.heap.size:=λb hb=>by
       obtain⟨t3,k1,k2,k3,k4⟩:=h9.src b hb;have hbd:=h1.wf.bound t3 k1 b (aB.2 (.inl k4));refine⟨?_,hbd.2⟩;have hN:=hbd.1;rw[h3.1]at hN;rcases hN with hN | hN
       ·exact hN
       ·obtain⟨s,hs⟩:=h9.row b hb t2 ht2 (by rw[hN];exact hgv);rw[hc2]at hs;cases hs
      have hS:∀ b,Rd c' b->(A0 b\/(w.heap.size<=b/\b < c'.w.heap.size/\b∉List.flatten fps)):=λb hb=>by
       obtain⟨b1,b2,b3⟩:=hb;rcases b2 with b2 | b2
       ·rw[h2]at b2;exact .inl b2
       ·rw[h3.1]at b2;rcases b2 with b2 | b2
        ·refine .inr ⟨b2,b1,λhb=>?_⟩;obtain⟨t3,k1,_,_,k4⟩:=h9.src b hb;exact b3 t3 k1 k4
        ·exact absurd hgv (b2▸b3 t2 ht2)
      refine⟨h1.defers,_,?_,ur,cur',rfl,?_,⟨t',hh2⟩,h4,List.flatten fps,h9.nd,hfpN,ur++[Value.agg cur'],fps++[[]],rfl,by simp,?_,?_,λj a b f g1 g2 g3=>?_⟩
      ·rw[pO];simp only[Sem.run_bind,h6,Result.andThen_ok,Sem.run_pure]
       rfl
      ·rw[h7.1,nP _ _ _ e1];simp
      ·simp[h8.1]
      ·simp[h8.2.1]
      ·by_cases hj:j < as'.length
       ·rw[aU hj]at g1;rw[aU (by rw[h8.1];exact hj)]at g2;rw[aU (by rw[h8.2.1];exact hj)]at g3;exact ResA_mono hS (h8.2.2 j a b f g1 g2 g3)
       ·rw[aS (by omega)]at g1;rw[aS (by rw[h8.1];omega),h8.1]at g2;rw[aS (by rw[h8.2.1];omega),h8.2.1]at g3;cases hjj:j-as'.length with
        | zero=>
         rw[hjj]at g1 g2 g3;simp only[aK,aA]at g1 g2 g3;subst g1;subst g2;subst g3;obtain⟨us1,k1,k2,k3⟩:=hcells;refine⟨us1,l'.map (λ_=>[]),k1,?_,k2,by simp,λi x y z m1 m2 m3=>?_⟩
         ·exact(flatten_nil λf hf'=>by obtain⟨_,_,rfl⟩:=aG.1 hf';rfl).symm
         ·rw[aL]at m3;rw[m1]at m3;simp only[aN,aA]at m3;subst m3;exact(ArgL.mono1 hS (k3 i x y m1 m2)).res
        | succ k=>rw[hjj]at g1;simp at g1
     ·simp at ho
    ·simp at ho
   cases e with
   | normal=>exact fin h5
   | ret=>exact fin h5
   | exit i=>simp[Kn.on]at h5
   | _=>simp[Kn.on]at h5
  ·simp[hargs.1];omega
  ·show RepV cx c _ _;cases t with
   | zero=>
    have e1:(rK 0 lc 0::(l.map iM++List.replicate (fn.ntmps-(l.length+1)) (aT:V cx.ty))).getD 0 aT=rK 0 lc 0:=rfl;have e2:((Value.pointer (some ⟨g,0,none⟩)::us).toArray++Array.replicate (fn.ntmps-(Value.pointer (some ⟨g,0,none⟩)::us).toArray.size) undef).getD 0 undef=.pointer (some ⟨g,0,none⟩):=by
     simp[aP,dS]
    rw[e1,e2];exact⟨tk,aH.2 rfl,rfl,rfl,g,rfl,rfl⟩
   | succ t=>
    by_cases ht:t < l.length
    ·have htu:t < us.length:=by rw[hargs.1];exact ht
     have e1:(rK 0 lc 0::(l.map iM++List.replicate (fn.ntmps-(l.length+1)) (aT:V cx.ty))).getD (t+1) aT=iM l[t]:=by
      simp[List.getD,aU,ht]
     have e2:((Value.pointer (some ⟨g,0,none⟩)::us).toArray++Array.replicate (fn.ntmps-(Value.pointer (some ⟨g,0,none⟩)::us).toArray.size) undef).getD (t+1) undef=us[t]:=by
      simp[aP,dS,htu]
     rw[e1,e2];exact ArgA.repV hrd (hargs.2 t _ _ (aC ht) (aC htu))
    ·have e1:(rK 0 lc 0::(l.map iM++List.replicate (fn.ntmps-(l.length+1)) (aT:V cx.ty))).getD (t+1) aT=aT:=by
      simp only[List.getD,cX];rw[aS (by simp;omega)];simp only[bV,eZ];split<;>rfl
     rw[e1]
     trivial
  ·rcases hn with⟨t2,ht,rfl⟩ | hn | hn
   ·simp only[c,aH]at ht;subst ht;show 0 < 1 * 65536;omega
   ·simp[c]at hn
   ·simp[c]at hn
  ·simp only[c,aH,aJ]at hp;obtain⟨rfl,rfl⟩:=hp;refine⟨by show 0 < 1;omega,?_⟩;show((Value.pointer (some ⟨g,0,none⟩)::us).toArray++Array.replicate (fn.ntmps-(Value.pointer (some ⟨g,0,none⟩)::us).toArray.size) undef).getD 0 undef=_;simp[aP,dS]
 ·simp at hev
theorem qL {P:Program}{cx:Cx}(ok:cx.Ok)(hZ:cx.POk P)(hm:P.follows .mixedOrders=true){f:FuncId}{fn:Func}(hf:P.funcs[f]?=some fn){nres:Nat}(hnr:fn.results.size=nres){X R:Type}(a:Args cx.ty X)(enc:R->List (A cx.ty))(d:R)(m:X->Option R)
  (ev:Env cx) (hK:KOk P cx ev.Kc) (hKw:KwOk P cx ev.Kw) (g:Nat->X->Option R) (he:∀ L x,tG P ev (cE L) fn (a.enc x)=(g L x).map enc) (hg:∀ x t,m x=some t->∃ L,g L x=some t) :
  SatP P cx f nres (fnW a enc d m):=by
 subst hnr;refine aBn ok hZ hm hf λas r h=>?_
 obtain⟨x,t,rfl,hx,rfl⟩:=aCF h;obtain⟨L,hL⟩:=hg x t hx;exact⟨ev,L,hK,hKw,by rw[he,hL];rfl⟩
theorem aBo (ok:cx.Ok)(hZ:cx.POk P)(hm:P.follows .mixedOrders=true){f:FuncId}{fn:Func}(hf:P.funcs[f]?=some fn){F:List (A cx.ty)->Option (Bool×List (A cx.ty))}
  (h:∀ as cs,F as=some (true,cs)->∃ (ev:Env cx) (L:Nat),KOk P cx ev.Kc/\KwOk P cx ev.Kw/\aFu P ev (cE L) fn as=some cs):SatN P cx f F:=by
 intro w A0 l us lc hA hargs hF;obtain⟨ev,L,hK,hKw,hev⟩:=h _ _ hF;unfold aFu at hev;split at hev
 ·rename_i code hcode
  let c:Ct cx.ty:={ T:=[],D:=[],F:=[],w:=w,S:=A0,N:=λb=>w.heap.size<=b,K:=[] }
  have hwf:Wf cx c:=⟨by simp[c],by simp[c],by simp[c],by simp[c],λb hb=>by have:=hA b hb;show ¬ w.heap.size<=b;omega,by simp[c],λb hb=>hb⟩
  have hrd:∀ b,A0 b->Rd c b:=λb hb=>⟨hA b hb,.inl hb,by simp[c]⟩
  refine calls_of_wp hf hcode ?_;refine kM ok hZ ev L hK hKw hm (W:=w) (S:=A0) (N:=λb=>w.heap.size<=b) (KK:=[]) code 0 _ _ (λe c' st' a' h1 h2 h3 h4 h5=>?_) _ c _ ⟨hwf,?_,λt=>?_,rfl,λn=>by simp[c],λn=>by simp[c],λn hn=>?_,λp u hp=>by simp[c]at hp,PrOK.nil,PdOK.none⟩ rfl ⟨rfl,rfl⟩ (Kept.refl _ _) hev
  ·have fin:aE7 P fn st'=some [.inr lc]->a'.defers=[]/\∃ v,(results fn a'.tmps).run P c'.w=.ok v c'.w/\(∃ (g:Nat) (cur:Array Value) (t:TypeId),Ending.returned v=.returned (.pointer (some ⟨g,0,none⟩))/\w.heap.size<=g/\c'.w.heap[g]?=some (.cells cur t (0,0))/\Below w.heap.size w c'.w ∧
      ArgA cx c'.w (λb=>A0 b\/(w.heap.size<=b/\b < c'.w.heap.size/\b≠g)) (.inr lc) (.agg cur)):=by
    intro ho;unfold aE7 at ho;split at ho
    ·rename_i t0 hr0;split at ho
     ·rename_i l' e2;simp only[aA,iQ,Sum.inr.injEq,and_true]at ho;subst ho;obtain⟨t2,ht2,g,cur,t,hc2,hu2,hv2,hh2,_,us1,k1,k2,k3⟩:=pD h1.wf (h1.rep t0) e2;have hgv:g∈vb t2.u:=by rw[hu2];simp[vb]
      have hgb:=h1.wf.bound t2 ht2 g (aB.2 (.inl hgv));rw[h3.1]at hgb;have hS:∀ b,Rd c' b->(A0 b\/(w.heap.size<=b/\b < c'.w.heap.size/\b≠g)):=λb hb=>by
       obtain⟨b1,b2,b3⟩:=hb;rcases b2 with b2 | b2
       ·rw[h2]at b2;exact .inl b2
       ·rw[h3.1]at b2;exact .inr ⟨b2,b1,λe=>absurd hgv (e▸b3 t2 ht2)⟩
      refine⟨h1.defers,a'.tmps.getD t0 undef,?_,g,cur,t,by rw[hv2],hgb.1,hh2,h4.low,us1,k1,k2,λj a u m1 m2=>ArgL.mono1 hS (k3 j a u m1 m2)⟩;rw[pO,hr0];simp only[lG,List.mapM_nil,aAC,Sem.run_bind,Sem.run_pure,Result.andThen_ok]
      rfl
     ·simp at ho
    ·simp at ho
   cases e with
   | normal=>exact fin h5
   | ret=>exact fin h5
   | _=>simp[Kn.on]at h5
  ·simp[hargs.1]
  ·show RepV cx c _ _;by_cases ht:t < l.length
   ·have htu:t < us.length:=by rw[hargs.1];exact ht
    have e1:(l.map iM++List.replicate (fn.ntmps-l.length) (aT:V cx.ty)).getD t aT=iM l[t]:=by
     simp[List.getD,aU,ht]
    have e2:(us.toArray++Array.replicate (fn.ntmps-us.toArray.size) undef).getD t undef=us[t]:=by
     simp[aP,dS,htu]
    rw[e1,e2];exact ArgA.repV hrd (hargs.2 t _ _ (aC ht) (aC htu))
   ·have e1:(l.map iM++List.replicate (fn.ntmps-l.length) (aT:V cx.ty)).getD t aT=aT:=by
     simp only[List.getD];rw[aS (by simp;omega)];simp only[bV,eZ];split<;>rfl
    rw[e1]
    trivial
  ·rcases hn with⟨tk,ht,_⟩ | hn | hn
   ·simp[c]at ht
   ·simp[c]at hn
   ·simp[c]at hn
 ·simp at hev
theorem aHK {P:Program}{cx:Cx}(ok:cx.Ok)(hZ:cx.POk P)(hm:P.follows .mixedOrders=true){f:FuncId}{fn:Func}(hf:P.funcs[f]?=some fn){X R:Type}(a:Args cx.ty X)(enc:R->List (A cx.ty))(d:R)(m:X->Option R)
  (ev:Env cx) (hK:KOk P cx ev.Kc) (hKw:KwOk P cx ev.Kw) (g:Nat->X->Option R) (he:∀ L x,aFu P ev (cE L) fn (a.enc x)=(g L x).map enc) (hg:∀ x t,m x=some t->∃ L,g L x=some t) :
  SatN P cx f (fnW a enc d m):=by
 refine aBo ok hZ hm hf λas r h=>?_
 obtain⟨x,t,rfl,hx,rfl⟩:=aCF h;obtain⟨L,hL⟩:=hg x t hx;exact⟨ev,L,hK,hKw,by rw[he,hL];rfl⟩
def oJ {α β:Type}(x:α)(K:α->Option β):Option β:=K x
def bS {α β:Type}(o:Option α)(d:α)(K:α->Option β):Option β:=bif o.isSome then K (o.getD d)else none
theorem aFi {α β γ:Type}(o:Option α)(d:α)(K:α->Option β)(f:β->γ):(bS o d K).map f=bS o d (λt=>(K t).map f):=by
 cases o<;>rfl
theorem gW {α β:Type}{f:α->β}{c:Bool}{a b:Option α}{a' b':Option β}(h:a'=a.map f)(h2:b'=b.map f):(bif c then a' else b')=(bif c then a else b).map f:=by cases c<;>assumption
theorem gU {α β γ:Type}{f:β->γ}{x:Option α}{d:α}{K:α->Option β}{K':α->Option γ}(h:∀ q,K' q=(K q).map f):bS x d K'=(bS x d K).map f:=by rw[aFi,funext h]
theorem gV {α β γ:Type}{f:β->γ}{x:α}{K:α->Option β}{K':α->Option γ}(h:∀ q,K' q=(K q).map f):oJ x K'=(oJ x K).map f:=h x
theorem aX {α β:Type}(v:α)(d:α)(K:α->Option β):bS (some v) d K=K v:=rfl
end
end Go.VM
namespace Go.VM
open Go.IntKind (wrap)
open Go.RowKit
section
variable {cx : Cx} {P : Program}
end
end Go.VM
namespace Go.VM
open Go.IntKind (wrap)
open Go.RowKit
section
variable {cx : Cx} {P : Program}
def aEB (n lo:Nat)(o:Oper):Option (TypeId×Nat×Nat):=
 match o.op,o.dst,o.guard with
 | .box t (.tmp p),some d,none=>if p < n/\d < lo then some (t,p,d)else none
 | _,_,_=>none
theorem aEA {n lo:Nat}{o:Oper}{t p d:Nat}(h:aEB n lo o=some (t,p,d)):o.op=.box t (.tmp p)/\o.dst=some d/\o.guard=none/\p < n/\d < lo:=by
 unfold aEB at h;split at h
 ·rename_i h1 h2 h3;split at h
  ·rename_i hc;simp only[aA,aJ]at h;obtain⟨rfl,rfl,rfl⟩:=h;exact⟨h1,h2,h3,hc.1,hc.2⟩
  ·simp at h
 ·simp at h
def rU {ty:Nat->Type}:A ty->List (L ty)
 | .inl l=>[l]
 | .inr l=>l
def aCz {ty:Nat->Type}:A ty->Bool
 | .inl l=>lA l&&!qX l
 | .inr _=>true
def aDP (cx:Cx)(args:List (A cx.ty))(lo:Nat):List Oper->Nat->St cx.ty->St cx.ty×List Oper
 | [],m,st=>({ st with lo:=m },[])
 | o::r,m,st=>match aEB args.length lo o with
  | some (t,p,d)=>if m<=d then
    match args[p]? with
    | some a=>if aCz a then
      match cx.dec t (rU a)with
      | some x=>aDP cx args lo r (d+1) { st with slots:=st.slots.set d (psV (.inr (ro t [x]))),ps:=st.ps++[(d,.inr (ro t [x]))],pend:=none }
      | none=>({ st with lo:=m },o::r)
     else({ st with lo:=m },o::r)
    | none=>({ st with lo:=m },o::r)
   else({ st with lo:=m },o::r)
  | none=>({ st with lo:=m },o::r)
def stL (fn:Func)(args:List (A cx.ty)):St cx.ty:={ slots:=args.map iM++List.replicate (fn.ntmps-args.length) aT,D:=[],F:=[],ctr:=1,lo:=2 * args.length,ps:=args.zipIdx.map λp=>(p.2,.inl p.1) }
def aFv (P:Program)(ev:Env cx)(lp:Lp cx (V cx.ty))(fn:Func)(args:List (A cx.ty)):Option (V cx.ty):=
 match fn.body with
 | some (.seq (.region _ ops false) rest)=>
  (λq:St cx.ty×List Oper=>eL P ev.Kc ev.Kw (λ_ _=>none) ops (λst=>wH P ev lp 0 rest st (aEh P fn)) q.2 q.1)
   (aDP cx args (2 * args.length) ops.toList args.length (stL fn args))
 | _=>none
def nL (w:World)(S:Nat->Prop)(K:List (Nat×Value)):Ct cx.ty:={ T:=[],D:=[],F:=[],w:=w,S:=S,N:=λb=>w.heap.size<=b,K:=K }
theorem ArgA.cells {w:World}{S:Nat->Prop}{a:A cx.ty}{u:Value}(h:ArgA cx w S a u)(hl:aCz a=true):u.cells.toList.length=(rU a).length/\∀ (j:Nat) l v,(rU a)[j]?=some l->u.cells.toList[j]?=some v->ArgL cx w S l v:=by
 match a,h with
 | .inr l,⟨us,hu,hlen,hv⟩=>
  subst hu;exact⟨hlen,hv⟩
 | .inl l,h=>
  have hl:lA l=true/\qX l=false:=by simpa[aCz]using hl
  obtain⟨hl,hnp⟩:=hl;have h:ArgL cx w S l u:=by
   rwa [ArgA.atLeaf hnp]at h
  have hc:u.cells=#[u]:=by
   match l,h,hl with
   | some (.inl v),h,ho=>
    have h:u=v:=h;subst h;cases u<;>first | rfl | (simp[lA]at ho)
   | some (.inr s),⟨_,n,h⟩,_=>
    cases n with
    | zero=>simp[RepL]at h
    | succ n=>
     obtain⟨a,cap,hu,_⟩:=h;rw[hu];rfl
  rw[hc];refine⟨rfl,λj l' v h1 h2=>?_⟩;cases j with
  | zero=>
   simp[rU]at h1 h2;subst h1;subst h2;exact h
  | succ j=>simp[rU]at h1
theorem aC2 (ok:cx.Ok){w:World}{S:Nat->Prop}{K:List (Nat×Value)}{st:St cx.ty}{a:Act}(h:RS cx (nL w S K) st a){t d:Nat}(hlo:d < st.lo)(hK:∀ q u,(q,u)∈K->q < d){A:A cx.ty}(hl:aCz A=true){u:Value}(hA:ArgA cx w S A u)
  {x:cx.ty t} (hx:cx.dec t (rU A)=some x) (hlen:d < st.slots.length) :
  RS cx (nL (w.alloc (.cells u.cells t)) (λb=>S b\/b=w.heap.size) (K++[(d,.pointer (some ⟨w.heap.size,0,none⟩))])) { st with slots:=st.slots.set d (psV (.inr (ro t [x]))),ps:=st.ps++[(d,.inr (ro t [x]))],pend:=none } (a.put (some d) (.pointer (some ⟨w.heap.size,0,none⟩))):=by
 obtain⟨c1,c2⟩:=hA.cells hl;have hsz:(w.alloc (.cells u.cells t)).heap.size=w.heap.size+1:=by simp
 have hold:∀ b,b < w.heap.size->(w.alloc (.cells u.cells t)).heap[b]?=w.heap[b]?:=λb hb=>(gO w _).block b hb
 have hS:∀ b,S b->b < w.heap.size:=λb hb=>by
  rcases fW b w.heap.size with h1 | h1
  ·exact h1
  ·exact absurd h1 (h.wf.start b hb)
 have hnew:(w.alloc (.cells u.cells t)).heap[w.heap.size]?=some (.cells u.cells t (0,0)):=heap_alloc_new w _;have hpt:PtS cx (w.alloc (.cells u.cells t)) (λb=>S b\/b=w.heap.size) (ro t [x]) (.pointer (some ⟨w.heap.size,0,none⟩)):=
  yU ok (.inr rfl) hnew c1 (λj l v h1 h2=>ArgL.mono (λb hb=>.inl hb) (λb hb=>hold b (hS b hb)) (c2 j l v h1 h2)) hx
 have hput:∀ q,q≠d->(a.put (some d) (.pointer (some ⟨w.heap.size,0,none⟩))).tmps.getD q undef=a.tmps.getD q undef:=λq hq=>by
  simp[Act.put,aP,Ne.symm hq]
 have hputd:(a.put (some d) (.pointer (some ⟨w.heap.size,0,none⟩))).tmps.getD d undef=.pointer (some ⟨w.heap.size,0,none⟩):=by
  have:d < a.tmps.size:=by rw[h.size];exact hlen
  simp[Act.put,aP,this]
 have hpres:Pres cx (nL w S K) (nL (w.alloc (.cells u.cells t)) (λb=>S b\/b=w.heap.size) (K++[(d,.pointer (some ⟨w.heap.size,0,none⟩))])):=by
  refine⟨λb hb=>⟨⟨?_,?_,by simp[nL]⟩,hold b hb.1⟩,λn h=>h,λn h=>h,λtk h=>by simp[nL]at h,λtk h=>by simp[nL]at h,λtk h=>by simp[nL]at h⟩
  ·show b < (w.alloc _).heap.size;rw[hsz];exact Nat.lt_succ_of_lt hb.1
  ·rcases hb.2.1 with k | k
   ·exact .inl (.inl k)
   ·exact absurd hb.1 (Nat.not_lt_of_le k)
 refine⟨⟨by simp[nL],by simp[nL],by simp[nL],by simp[nL],λb hb=>?_,by simp[nL],λb hb=>hb⟩,?_,λq=>?_,by rw[fO];exact h.defers,h.dead,h.frz,λn hn=>?_,λq v hq=>?_,λq v hq=>?_,PdOK.none⟩
 ·show ¬ (w.alloc _).heap.size<=b;rw[hsz];rcases hb with hb | hb
  ·have:=hS b hb;omega
  ·omega
 ·show(a.put _ _).tmps.size=(st.slots.set d _).length;rw[cG,<-h.size];simp[Act.put]
 ·show RepV cx _ ((st.slots.set d _).getD q aT) _;by_cases hq:q=d
  ·subst hq;rw[hputd];have e:(st.slots.set q (psV (.inr (ro t [x])))).getD q aT=psV (.inr (ro t [x])):=by simp[List.getD,hlen]
   rw[e];have hwf:Wf cx (nL (cx:=cx) (w.alloc (.cells u.cells t)) (λb=>S b\/b=w.heap.size) (K++[(q,.pointer (some ⟨w.heap.size,0,none⟩))])):=⟨by simp[nL],by simp[nL],by simp[nL],by simp[nL],λb hb=>by
    show ¬ (w.alloc _).heap.size<=b;rw[hsz];rcases hb with hb | hb
    ·have:=hS b hb;omega
    ·omega,by simp[nL],λb hb=>hb⟩
   exact PsO.repS (a:=.inr (ro t [x])) hwf hpt
  ·rw[hput q hq];have e:(st.slots.set d (psV (.inr (ro t [x])))).getD q aT=st.slots.getD q aT:=by simp[List.getD,eI (Ne.symm hq)]
   rw[e];exact RepV.pres cx hpres (h.rep q)
 ·exact h.names n (by rcases hn with⟨tk,ht,_⟩ | hn | hn<;>simp[nL]at *)
 ·rcases aB.1 hq with hq | hq
  ·have:=hK q v hq;exact⟨(h.kp q v hq).1,(hput q (by omega)).trans (h.kp q v hq).2⟩
  ·simp only[aH,aJ]at hq;obtain⟨rfl,rfl⟩:=hq;exact⟨hlo,hputd⟩
 ·rcases aB.1 hq with hq | hq
  ·obtain⟨v',k1,k2⟩:=h.pr q v hq;exact⟨v',aB.2 (.inl k1),PsO.mono (λb hb=>.inl hb) (λb hb=>hold b (hS b hb)) k2⟩
  ·simp only[aH,aJ]at hq;obtain⟨rfl,rfl⟩:=hq;exact⟨_,aB.2 (.inr (aH.2 rfl)),hpt⟩
theorem aCo (ok:cx.Ok){β:Type}{ops:Array Oper}{args:List (A cx.ty)}{us:List Value}{lo:Nat}{Q:Exit->Act->World->Prop}{ev:List Oper->St cx.ty->Option β}{r:β}{w0:World}(hlen:us.length=args.length)
  (H:∀ (w:World) (S:Nat->Prop) (K:List (Nat×Value)) (st:St cx.ty) (a:Act) (l:List Oper) (i:Nat),(∀ j,l[j]?=ops[i+j]?)->RS cx (nL w S K) st a->Below w0.heap.size w0 w->ev l st=some r->wpOps P ops Q (List.range' i l.length) a w) :
  ∀ (l:List Oper) (i m:Nat) (w:World) (S:Nat->Prop) (K:List (Nat×Value)) (st:St cx.ty) (a:Act),(∀ j,l[j]?=ops[i+j]?)->RS cx (nL w S K) st a->Below w0.heap.size w0 w->w0.heap.size<=w.heap.size->args.length<=m->(∀ q u,(q,u)∈K->q < m)->ArgAs cx w S args us->(∀ p,p < args.length->a.tmps.getD p undef=us.getD p undef)->
   st.lo=lo->lo<=st.slots.length->ev (aDP cx args lo l m st).2 (aDP cx args lo l m st).1=some r->wpOps P ops Q (List.range' i l.length) a w
 | [],i,m,w,S,K,st,a,hl,h,hb,_,_,hK,_,_,_,_,he=>H w S K { st with lo:=m } a [] i hl ⟨h.wf,h.size,h.rep,h.defers,h.dead,h.frz,h.names,λp u hp=>⟨hK p u hp,(h.kp p u hp).2⟩,h.pr,h.pd⟩ hb he
 | o::rest,i,m,w,S,K,st,a,hl,h,hb,hsz,hm,hK,hA,hT,hlo,hlos,he=>by
  have stop:ev (o::rest) { st with lo:=m }=some r->wpOps P ops Q (List.range' i (o::rest).length) a w:=λhe=>H w S K { st with lo:=m } a (o::rest) i hl ⟨h.wf,h.size,h.rep,h.defers,h.dead,h.frz,h.names,λp u hp=>⟨hK p u hp,(h.kp p u hp).2⟩,h.pr,h.pd⟩ hb he
  unfold aDP at he;split at he
  ·rename_i t p d hbx;obtain⟨e1,e2,e3,e4,e5⟩:=aEA hbx;split at he
   ·rename_i hmd;split at he
    ·rename_i A0 hA0;split at he
     ·rename_i hlf;split at he
      ·rename_i x hx;have h0:ops[i]?=some o:=by simpa using(hl 0).symm
       have hl':∀ j,rest[j]?=ops[i+1+j]?:=λj=>by have:=hl (j+1);simpa[fZ,fA 1 j]using this
       have hpu:us[p]?=some (us.getD p undef):=by
        have:p < us.length:=by omega
        simp[List.getD,this]
       have hAp:ArgA cx w S A0 (us.getD p undef):=hA.2 p _ _ hA0 hpu;have hstep:=aC2 (t:=t) ok h (by rw[hlo];exact e5) (λq u hq=>by have:=hK q u hq;omega) hlf hAp hx (by omega);have hS:∀ b,S b->b < w.heap.size:=λb hb=>by
        rcases fW b w.heap.size with h1 | h1
        ·exact h1
        ·exact absurd h1 (h.wf.start b hb)
       simp only[dI,nE];rw[wpOps_cons];unfold wpOp;simp only[h0];have hwant:Region.wanted o (yielded ops a.tmps)=true:=by simp[Region.wanted,e3]
       rw[if_pos hwant];refine .inl (Oper.wp_of_runs ?_);have hrun:(execOp a.eval o).run P w=.ok (.value (.pointer (some ⟨w.heap.size,0,none⟩))) (w.alloc (.cells (a.eval (.tmp p)).cells t)):=by
        unfold execOp;simp[e1,Instr.box,newVar,newRow]
       unfold Runs;rw[hrun];have hev:a.eval (.tmp p)=us.getD p undef:=hT p e4;rw[e2,hev];refine aCo ok hlen H rest (i+1) (d+1) _ _ _ _ _ hl' hstep (hb.alloc hsz _) (by simp;omega) (by omega) (λq u hq=>?_) ⟨hA.1,λj A' u' k1 k2=>?_⟩ (λq hq=>?_) hlo (by show lo<=(st.slots.set d _).length;rw[cG];exact hlos) he
       ·rcases aB.1 hq with hq | hq
        ·have:=hK q u hq;omega
        ·simp only[aH,aJ]at hq;omega
       ·have:=hA.2 j A' u' k1 k2;exact PsO.mono (a:=.inl A') (λb hb=>.inl hb) (λb hb=>(gO w _).block b (hS b hb)) this
       ·have hqd:q≠d:=by omega
        rw[<-hT q hq];simp[Act.put,aP,Ne.symm hqd]
      ·exact stop he
     ·exact stop he
    ·exact stop he
   ·exact stop he
  ·exact stop he
theorem aBp (ok:cx.Ok)(hZ:cx.POk P)(hm:P.follows .mixedOrders=true){f:FuncId}{fn:Func}(hf:P.funcs[f]?=some fn){F:List (A cx.ty)->Option (Bool×V cx.ty)}
  (h:∀ as r,F as=some (true,r)->∃ (ev:Env cx) (L:Nat),KOk P cx ev.Kc/\KwOk P cx ev.Kw/\aFv P ev (cE L) fn as=some r/\(dE r=true\/cP r=true)/\(∃ v,r=vv v)/\2 * as.length<=fn.ntmps):Sat P cx f F:=by
 intro w A0 l us r hA hargs hF;obtain⟨ev,L,hK,hKw,hev,hmix,⟨vr,hvr⟩,hnt⟩:=h l r hF;unfold aFv at hev;split at hev
 ·rename_i id ops rest hcode
  let K0:List (Nat×Value):=us.zipIdx.map λp=>(p.2,p.1)
  have hwf:Wf cx (nL (cx:=cx) w A0 K0):=⟨by simp[nL],by simp[nL],by simp[nL],by simp[nL],λb hb=>by have:=hA b hb;show ¬ w.heap.size<=b;omega,by simp[nL],λb hb=>hb⟩
  have hrd:∀ b,A0 b->Rd (nL (cx:=cx) w A0 K0) b:=λb hb=>⟨hA b hb,.inl hb,by simp[nL]⟩
  have htmp:∀ t,t < us.length->(us.toArray++Array.replicate (fn.ntmps-us.toArray.size) undef).getD t undef=us.getD t undef:=λt ht=>by
   simp[aP,dS,ht,List.getD]
  have hkm:∀ p u,(p,u)∈K0↔us[p]?=some u:=λp u=>by
   constructor
   ·intro hp;obtain⟨q,hq,he⟩:=aG.1 hp;simp only[aJ]at he;have hq2:=gJ.1 hq;rw[he.1,he.2]at hq2;exact hq2
   ·intro hp;exact aG.2 ⟨(u,p),gJ.2 hp,rfl⟩
  have hargl:us.length=l.length:=hargs.1;refine calls_of_wp hf hcode ?_;refine wp_seq (wp_region ?_);rw[List.range_eq_range'];have hops:ops.toList.length=ops.size:=by simp
  rw[<-hops];refine aCo (args:=l) (us:=us) (w0:=w) (ev:=λq st=>eL P ev.Kc ev.Kw (λ_ _=>none) ops (λst=>wH P ev (cE L) 0 rest st (aEh P fn)) q st) (r:=r) (lo:=2 * l.length) ok hargl (λw1 S1 K1 st1 a1 l1 i1 hl1 h1 hb1 he1=>?_) ops.toList 0 l.length w A0 K0 (stL fn l) _ (λj=>by simp) ⟨hwf,?_,λt=>?_,rfl,λn=>by simp[nL,stL],λn=>by simp[nL,stL],λn hn=>?_,λp u hp=>?_,λp a hp=>?_,PdOK.none⟩ (Below.refl _ _) (aI _) (aI _) (λq u hq=>?_) hargs (λp hp=>htmp p (by omega)) rfl ?_ hev
  ·refine vG ok hZ hK hKw (W:=w1) (S:=S1) (N:=λb=>w1.heap.size<=b) (KK:=K1) (r:=r) (λv c st a h1 h2 h3 h4 h5=>by cases h5) (λc st a h2 h3 h4 h5 h6=>?_) l1 i1 hl1 st1 (nL w1 S1 K1) a1 h1 rfl ⟨rfl,rfl⟩ (Kept.refl _ _) he1;refine kM ok hZ ev L hK hKw hm (W:=w1) (S:=S1) (N:=λb=>w1.heap.size<=b) (KK:=K1) rest 0 _ _ (λe c' st' a' g1 g2 g3 g4 g5=>?_) st c a h2 h3 h4 h5 h6;have fin:eK P fn st'=some r->a'.defers=[]/\∃ v,(results fn a'.tmps).run P c'.w=.ok v c'.w/\(∃ u,Ending.returned v=.returned u/\Below w.heap.size w c'.w/\ResV cx c'.w A0 (λb=>w.heap.size<=b) r u):=by
    intro ho;obtain⟨u,k1,k2⟩:=oS ok g1 ho hmix;refine⟨g1.defers,u,k1,u,rfl,?_,?_⟩
    ·exact hb1.trans (g4.low.mono hb1.size)
    ·subst hvr;obtain⟨fp,_,_,k3⟩:=k2;have k3:u=vr/\fp=[]:=k3;exact⟨[],by simp,by simp,k3.1,rfl⟩
   cases e with
   | normal=>exact fin g5
   | ret=>exact fin g5
   | _=>simp[aEh,Kn.on]at g5
  ·simp[hargl,stL]
  ·show RepV cx (nL (cx:=cx) w A0 K0) ((l.map iM++List.replicate (fn.ntmps-l.length) (aT:V cx.ty)).getD t aT) _;by_cases ht:t < l.length
   ·have htu:t < us.length:=by omega
    have e1:(l.map iM++List.replicate (fn.ntmps-l.length) (aT:V cx.ty)).getD t aT=iM l[t]:=by
     simp[List.getD,aU,ht]
    have e2:(us.toArray++Array.replicate (fn.ntmps-us.toArray.size) undef).getD t undef=us[t]:=by
     simp[aP,dS,htu]
    rw[e1,e2];exact ArgA.repV hrd (hargs.2 t _ _ (aC ht) (aC htu))
   ·have e1:(l.map iM++List.replicate (fn.ntmps-l.length) (aT:V cx.ty)).getD t aT=aT:=by
     simp only[List.getD];rw[aS (by simp;omega)];simp only[bV,eZ];split<;>rfl
    rw[e1]
    trivial
  ·rcases hn with⟨tk,ht,_⟩ | hn | hn
   ·simp[nL]at ht
   ·simp[nL]at hn
   ·simp[nL]at hn
  ·have hp:=(hkm p u).1 hp;have hpl:p < us.length:=(aE.1 hp).1;refine⟨by show p < 2 * l.length;omega,?_⟩;show(us.toArray++Array.replicate (fn.ntmps-us.toArray.size) undef).getD p undef=u;rw[htmp p hpl];simp[List.getD,hp]
  ·obtain⟨q,hq,he⟩:=aG.1 hp;simp only[aJ]at he;obtain⟨he1,he2⟩:=he;subst he1;subst he2;have hq2:=gJ.1 hq;have hpl:q.2 < us.length:=by rw[hargl];exact(aE.1 hq2).1
   exact⟨us[q.2],(hkm q.2 _).2 (aC hpl),hargs.2 q.2 q.1 _ hq2 (aC hpl)⟩
  ·have:=(aE.1 ((hkm q u).1 hq)).1;omega
  ·show 2 * l.length<=(l.map iM++List.replicate (fn.ntmps-l.length) (aT:V cx.ty)).length;simp;omega
 ·simp at hev
theorem aHL {P:Program}{cx:Cx}(ok:cx.Ok)(hZ:cx.POk P)(hm:P.follows .mixedOrders=true){f:FuncId}{fn:Func}(hf:P.funcs[f]?=some fn){X R:Type}(a:Args cx.ty X)(enc:R->V cx.ty)(d:R)(m:X->Option R)
  (ev:Env cx) (hK:KOk P cx ev.Kc) (hKw:KwOk P cx ev.Kw) (g:Nat->X->Option R) (he:∀ L x,aFv P ev (cE L) fn (a.enc x)=(g L x).map enc) (hg:∀ x t,m x=some t->∃ L,g L x=some t) (hs:∀ t,dE (enc t)=true\/cP (enc t)=true)
  (hp:∀ t,∃ v,enc t=vv v:=by exact λ_=>⟨_,rfl⟩) (hn:∀ x,2 * (a.enc x).length<=fn.ntmps:=by intro x;exact of_decide_eq_true rfl) :
  Sat P cx f (jB a enc d m):=by
 refine aBp ok hZ hm hf λas r h=>?_
 obtain⟨x,t,rfl,hx,rfl⟩:=oU h;obtain⟨L,hL⟩:=hg x t hx;exact⟨ev,L,hK,hKw,by rw[he,hL];rfl,hs t,hp t,hn x⟩
end
end Go.VM
namespace Go.VM
open Go.IntKind (wrap)
open Go.RowKit
section
variable {cx : Cx} {P : Program}
end
end Go.VM
namespace Go.VM
open Go.IntKind (wrap)
open Go
theorem dt {c:Prop}[Decidable c](h:c):decide c=true:=decide_eq_true h
theorem df {c:Prop}[Decidable c](h:¬ c):decide c=false:=decide_eq_false h
theorem oI {α:Type}[BEq α][LawfulBEq α]{a b:α}(h:¬ a=b):(a != b)=true:=by simpa using h
theorem tI {α:Type}[BEq α][LawfulBEq α]{a b:α}(h:a=b):(a != b)=false:=by simpa using h
theorem wi {x:Int}(h1:-9223372036854775808<=x)(h2:x<=9223372036854775807):wrap .i64 x=x:=by
 unfold wrap;simp[IntKind.bits,IntKind.signed];omega
def okB (a:List Int):Bool:=a.all λx=>decide (0<=x)&&decide (x<=255)
theorem aFd {a:List Int}(h:okB a=true){x:Int}(hx:x∈a):0<=x/\x<=255:=by
 unfold okB at h;rw[aW]at h;simpa using h x hx
theorem aCu {a:List Int}(h:okB a=true){i:Nat}(hi:i < a.length):0<=a.getD i 0/\a.getD i 0<=255:=by
 simp only[List.getD,aC hi,iA];exact aFd h (dY hi)
theorem rS {α:Type}{a:List α}{i:Nat}(d:α)(h:i < a.length):a.drop i=a.getD i d::a.drop (i+1):=by
 rw[eT h];simp[List.getD,aC h]
end Go.VM
namespace Go.VM
open Go.IntKind (wrap)
open Go Go.RowKit
def Lent (w:World)(b:Nat):Prop:=b < w.heap.size
theorem aDh {w:World}{x:Addr}{v:Value}(h:w.cell? x=some v):x.spot=none/\x.block < w.heap.size:=by
 unfold World.cell? at h;split at h
 ·rename_i c e f hb;split at h
  ·simp at h
  ·rename_i hs;exact⟨by simpa using hs,(bT.1 hb).1⟩
 ·simp at h
theorem aDZ {cx:Cx}{e:Nat}{k:IntKind}{w:World}{x:Addr}{len cap:Nat}{zs:List Int}(xs:List (cx.ty e))(hsz:cx.size e=1)(hlen:xs.length=len)(hle:len<=cap)(hz:len<=zs.length)
  (henc:∀ i y,xs[i]?=some y->cx.enc e false y=[lv (.int k (zs.getD i 0))]) (hcell:∀ i,i < zs.length->w.cell? (x.add i)=some (.int k (zs.getD i 0))) :
  ∃ n,RepL cx w (Lent w) n (some (.inr (ro e xs))) (.slice (some x) len cap):=by
 refine⟨1,some x,cap,by rw[<-hlen];rfl,by show xs.length<=cap;omega,?_⟩;by_cases h0:xs=[]
 ·exact .inl h0
 ·have hpos:0 < xs.length:=List.length_pos_iff.2 h0;have h1:=aDh (hcell 0 (by omega));obtain⟨b,off,spot⟩:=x;simp only[Addr.add]at h1;obtain⟨rfl,hb⟩:=h1;refine .inr ⟨b,off,rfl,hb,λi y hy j l hl=>?_⟩;have hy:xs[i]?=some y:=hy;have hi:i < xs.length:=(aE.1 hy).1;have hl:(cx.enc e false y)[j]?=some l:=hl;rw[henc i y hy]at hl;cases j with
  | zero=>
   simp only[aK,aA]at hl;subst hl;refine⟨_,?_,rfl⟩;have:=hcell i (by omega);show w.cell? ⟨b,off+(i * cx.size e+0),none⟩=_;rw[hsz,mU,fL];simpa[Addr.add_lit]using this
  | succ j=>simp at hl
theorem aD0 {cx:Cx}{e:Nat}{w:World}:∃ n,RepL cx w (Lent w) n (some (.inr (ro e ([]:List (cx.ty e))))) (.slice none 0 0):=
 ⟨1,none,0,rfl,aI _,.inl rfl⟩
theorem args_nil {cx:Cx}{w:World}{A0:Nat->Prop}:ArgAs cx w A0 [] []:=⟨rfl,λj a u h=>by simp at h⟩
theorem args_cons {cx:Cx}{w:World}{A0:Nat->Prop}{a:A cx.ty}{l:List (A cx.ty)}{u:Value}{us:List Value}(h:ArgA cx w A0 a u)(hs:ArgAs cx w A0 l us):ArgAs cx w A0 (a::l) (u::us):=
 ⟨by simp[hs.1],λj b v h1 h2=>by
  cases j with
  | zero=>
   simp only[aK,aA]at h1 h2;subst h1;subst h2;exact h
  | succ j=>exact hs.2 j b v (by simpa using h1) (by simpa using h2)⟩
theorem calls_true {P:Program}{cx:Cx}{f:FuncId}{X:Type}{a:Args cx.ty X}{d:Bool}{m:X->Option Bool}{enc:Bool->V cx.ty}(henc:enc true=.inl (.inl (lv (.bool true))))(hs:Sat P cx f (jB a enc d m)){w:World}
  {l:List (A cx.ty)} {us:List Value} {x:X} (hdec:a.dec l=some x) (hm:m x=some true) (hargs:ArgAs cx w (Lent w) l us) :
  Calls P f us.toArray w λe w'=>e=.returned (.bool true)/\Below w.heap.size w w':=by
 refine(hs w (Lent w) l us (enc true) (λb h=>h) hargs ?_).mono λe w' ⟨u,he,hb,hres⟩=>⟨?_,hb⟩
 ·unfold jB;rw[hdec];simp[hm]
 ·obtain⟨fp,_,_,hr⟩:=hres;rw[henc]at hr;have hr:u=.bool true/\fp=[]:=hr;rw[he,hr.1]
theorem aGr {zs:List Int}(h:∀ n∈zs,(Lit.int .u8 n).wf=true)(k:Nat):okB (zs.take k)=true:=by
 unfold okB;rw[aW];intro x hx;have:=h x (jZ hx);simp[Lit.wf,IntKind.min,IntKind.max,IntKind.signed,IntKind.bits]at this;simp;omega
end Go.VM
