/- A part of the proof of FnWraps: VmJ, VmK, VmL, VmM, VmN, VmO, VmPu, VmTop. -/
import Derived.Test.YtaegcoihgnobiaaVmB
import Derived.Below
set_option linter.unusedSimpArgs false
set_option linter.unusedVariables false
namespace Go.VM
open Go.IntKind (wrap)
open Go.RowKit
structure LArg (ty:Nat->Type) (X:Type) where
 enc:X->L ty
 dec:L ty->Option X
 inv:∀ a x,dec a=some x->a=enc x
structure Arg (ty:Nat->Type) (X:Type) where
 enc:X->A ty
 dec:A ty->Option X
 inv:∀ a x,dec a=some x->a=enc x
def LArg.int {ty:Nat->Type}(k:IntKind):LArg ty Int:=
 {enc:=λx=>lv (.int k x),dec:=λa=>match a with | some (.inl v)=>aFZ k v | _=>none,
  inv:=λa x h=>by
   split at h
   ·rename_i v;unfold aFZ at h;split at h
    ·split at h
     ·rename_i hk;subst hk;cases h
      rfl
     ·simp at h
    ·simp at h
   ·simp at h }
def LArg.bool {ty:Nat->Type}:LArg ty Bool:=
 {enc:=λx=>lv (.bool x),dec:=λa=>match a with | some (.inl (.bool x))=>some x | _=>none,
  inv:=λa x h=>by
   split at h
   ·cases h;rfl
   ·simp at h }
def LArg.row {ty:Nat->Type}(e:Nat):LArg ty (List (ty e)):=
 {enc:=λx=>ls (ro e x),dec:=λa=>match a with | some (.inr s)=>if s.own == 0&&s.nm == 0&&!s.o then yB e s else none | _=>none,
  inv:=λa x h=>by
   split at h
   ·rename_i s;split at h
    ·rename_i hc;simp only[aD,beq_iff_eq,bK]at hc;unfold yB at h;split at h
     ·rename_i he;obtain⟨own,nm,e2,o2,xs⟩:=s;simp only at he hc;obtain⟨⟨rfl,rfl⟩,rfl⟩:=hc;subst he;cases h
      rfl
     ·simp at h
    ·simp at h
   ·simp at h }
def Arg.leaf {ty:Nat->Type}{X:Type}(a:LArg ty X):Arg ty X:=
 {enc:=λx=>.inl (a.enc x),dec:=λl=>match l with | .inl l=>a.dec l | _=>none,
  inv:=λl x h=>by
   split at h
   ·rename_i l;rw[a.inv l x h]
   ·simp at h }
abbrev Arg.int {ty:Nat->Type}(k:IntKind):Arg ty Int:=Arg.leaf (LArg.int k)
abbrev Arg.bool {ty:Nat->Type}:Arg ty Bool:=Arg.leaf LArg.bool
abbrev Arg.row {ty:Nat->Type}(e:Nat):Arg ty (List (ty e)):=Arg.leaf (LArg.row e)
structure SArg (ty:Nat->Type) (X:Type) where
 enc:X->List (L ty)
 dec:List (L ty)->Option X
 inv:∀ a x,dec a=some x->a=enc x
def SArg.one {ty:Nat->Type}{X:Type}(a:LArg ty X):SArg ty X:=
 {enc:=λx=>[a.enc x],dec:=λl=>match l with | [p]=>a.dec p | _=>none,
  inv:=λl x h=>by
   split at h
   ·rename_i p;rw[a.inv p x h]
   ·simp at h }
def SArg.cons {ty:Nat->Type}{X Y:Type}(a:LArg ty X)(s:SArg ty Y):SArg ty (X×Y):=
 {enc:=λx=>a.enc x.1::s.enc x.2,dec:=λl=>match l with | p::q=>(a.dec p).bind λx=>(s.dec q).map λy=>(x,y) | _=>none,
  inv:=λl x h=>by
   split at h
   ·rename_i p q;cases h1:a.dec p with
    | none=>rw[h1]at h;simp at h
    | some u=>
     cases h2:s.dec q with
     | none=>rw[h1,h2]at h;simp at h
     | some v=>
      rw[h1,h2]at h;simp only[fL,aF,aA]at h;subst h;rw[a.inv p u h1,s.inv q v h2]
   ·simp at h }
def Arg.agg {ty:Nat->Type}{X:Type}(s:SArg ty X):Arg ty X:=
 {enc:=λx=>.inr (s.enc x),dec:=λl=>match l with | .inr l=>s.dec l | _=>none,
  inv:=λl x h=>by
   split at h
   ·rename_i l;rw[s.inv l x h]
   ·simp at h }
structure Args (ty:Nat->Type) (X:Type) where
 enc:X->List (A ty)
 dec:List (A ty)->Option X
 inv:∀ a x,dec a=some x->a=enc x
def Args.nil {ty:Nat->Type}:Args ty Unit:=
 {enc:=λ_=>[],dec:=λl=>match l with | []=>some () | _=>none,
  inv:=λl x h=>by
   split at h
   ·rfl
   ·simp at h }
def Args.one {ty:Nat->Type}{X:Type}(a:Arg ty X):Args ty X:=
 {enc:=λx=>[a.enc x],dec:=λl=>match l with | [p]=>a.dec p | _=>none,
  inv:=λl x h=>by
   split at h
   ·rename_i p;rw[a.inv p x h]
   ·simp at h }
def Args.cons {ty:Nat->Type}{X Y:Type}(a:Arg ty X)(s:Args ty Y):Args ty (X×Y):=
 {enc:=λx=>a.enc x.1::s.enc x.2,dec:=λl=>match l with | p::q=>(a.dec p).bind λx=>(s.dec q).map λy=>(x,y) | _=>none,
  inv:=λl x h=>by
   split at h
   ·rename_i p q;cases h1:a.dec p with
    | none=>rw[h1]at h;simp at h
    | some u=>
     cases h2:s.dec q with
     | none=>rw[h1,h2]at h;simp at h
     | some v=>
      rw[h1,h2]at h;simp only[fL,aF,aA]at h;subst h;rw[a.inv p u h1,s.inv q v h2]
   ·simp at h }
def kQ {cx:Cx}{X R:Type}(a:Args cx.ty X)(enc:R->V cx.ty)(d:R)(m:X->Option R):List (A cx.ty)->Option (Bool×V cx.ty):=
 λl=>(a.dec l).map λx=>((m x).isSome,enc ((m x).getD d))
theorem aAd {cx:Cx}{X R:Type}{a:Args cx.ty X}{enc:R->V cx.ty}{d:R}{m:X->Option R}{l:List (A cx.ty)}{r:V cx.ty}(h:kQ a enc d m l=some (true,r)):∃ x t,l=a.enc x/\m x=some t/\r=enc t:=by
 unfold kQ at h;cases h1:a.dec l with
 | none=>rw[h1]at h;simp at h
 | some x=>
  rw[h1]at h;simp only[aF,aA,aK]at h;cases h2:m x with
  | none=>rw[h2]at h;simp at h
  | some t=>
   rw[h2]at h;exact⟨x,t,a.inv l x h1,h2,h.2.symm⟩
theorem fN {P:Program}{cx:Cx}(ok:cx.Ok)(hZ:cx.POk P)(hm:P.follows .mixedOrders=true){f:FuncId}{fn:Func}(hf:P.funcs[f]?=some fn){X R:Type}(a:Args cx.ty X)(enc:R->V cx.ty)(d:R)(m:X->Option R)
  (ev:Env cx) (hK:KOk P cx ev.Kc) (hKw:KwOk P cx ev.Kw) (g:Nat->X->Option R) (he:∀ L x,iK P ev (bU L) fn (a.enc x)=(g L x).map enc) (hg:∀ x t,m x=some t->∃ L,g L x=some t) (hs:∀ t,eH (enc t)=true\/dO (enc t)=true) :
  Sat P cx f (kQ a enc d m):=by
 refine aDq ok hZ hm hf λas r h=>?_
 obtain⟨x,t,rfl,hx,rfl⟩:=aAd h;obtain⟨L,hL⟩:=hg x t hx;exact⟨ev,L,hK,hKw,by rw[he,hL];rfl,hs t⟩
def fJ {cx:Cx}:List (FuncId×(List (A cx.ty)->Option (Bool×V cx.ty)))->Kt cx
 | [],_=>none
 | (f,F)::r,g=>if g=f then some F else fJ r g
theorem cR {P:Program}{cx:Cx}:KOk P cx (fJ []):=λ_ _ h=>by simp[fJ]at h
theorem bL {P:Program}{cx:Cx}{f:FuncId}{F:List (A cx.ty)->Option (Bool×V cx.ty)}{r:List (FuncId×(List (A cx.ty)->Option (Bool×V cx.ty)))}(h:Sat P cx f F)(hr:KOk P cx (fJ r)):KOk P cx (fJ ((f,F)::r)):=by
 intro g G hG;unfold fJ at hG;split at hG
 ·rename_i he;subst he;cases hG;exact h
 ·exact hr g G hG
theorem bQ {α β:Type}(f:α->β)(c:Bool)(a b:Option α):(bif c then a else b).map f=bif c then a.map f else b.map f:=by cases c<;>rfl
end Go.VM
namespace Go.VM
open Go.IntKind (wrap)
open Go.RowKit
def wV:List Nat->Code->Code
 | [],c=>c
 | i::p,c=>match c with
  | .seq x y=>wV p (if i=0 then x else y)
  | .cond _ x y=>wV p (if i=0 then x else y)
  | .block _ c=>wV p c
  | .loop c=>wV p c
  | _=>.skip
def aCo (fn:Func)(p:List Nat):Code:=match fn.body with | some c=>wV p c | none=>.skip
section
variable {cx : Cx} {β : Type}
def wU (P:Program)(ev:Env cx)(lp:Lp cx β):List Nat->Nat->Code->Kn cx β->Kn cx β
 | [],_,_,k=>k
 | i::p,bid,c,k=>match c with
  | .seq x y=>if i=0 then wU P ev lp p bid x (aEd (zA P ev lp bid y) k)else wU P ev lp p bid y k
  | .cond _ x y=>wU P ev lp p bid (if i=0 then x else y) k
  | .block id c=>wU P ev lp p id c (aDR id (ev.xv id) k)
  | .loop c=>wU P ev lp p bid c k
  | _=>k
def aGN (P:Program)(ev:Env cx)(L:Nat)(fn:Func)(id:Nat)(p:List Nat):St cx.ty->Kn cx β->Option β:=zA P ev (bU L) id (aCo fn p)
def eL (P:Program)(ev:Env cx)(L:Nat)(fn:Func)(id:Nat)(p:List Nat)(K:Kn cx β)(n:Nat)(st:St cx.ty):Option β:=
 vN (aGN P ev L fn id p) (canon (ev.lv id)) (aDR id (ev.xv id) K) n st
def lA (P:Program)(ev:Env cx)(L:Nat)(fn:Func)(id:Nat)(p:List Nat)(K:Kn cx β)(g:St cx.ty->Option β)(st:St cx.ty):Option β:=
 aGN P ev L fn id p st (aEd (λst' _=>g (canon (ev.lv id) st')) (aDR id (ev.xv id) K))
theorem fE (P:Program)(ev:Env cx)(L:Nat)(fn:Func)(id:Nat)(p:List Nat)(K:Kn cx β)(n:Nat)(st:St cx.ty) :
  eL P ev L fn id p K (n+1) st=lA P ev L fn id p K (eL P ev L fn id p K n) st:=rfl
def gC (P:Program)(ev:Env cx)(L:Nat)(fn:Func)(p:List Nat)(fin:St cx.ty->Option β):Kn cx β:=wU P ev (bU L) p 0 (aCo fn []) { n:=fin,x:=λ_ _=>none,r:=fin }
def inK (P:Program)(ev:Env cx)(L:Nat)(fn:Func)(id:Nat)(q p:List Nat)(K:Kn cx β)(g:St cx.ty->Option β):Kn cx β:=
 wU P ev (bU L) p id (aCo fn q) (aEd (λst' _=>g (canon (ev.lv id) st')) (aDR id (ev.xv id) K))
def eK (fin:St cx.ty->Option β)(k:St cx.ty->Option β)(x:Nat->St cx.ty->Option β):Kn cx β:={ n:=k,x:=x,r:=fin }
end
end Go.VM
namespace Go.VM
open Go.IntKind (wrap)
open Go.RowKit
section
variable {cx : Cx} {P : Program}
theorem oD:∀ (l:List ResultVar) (slots:List (V cx.ty)) (as:List (A cx.ty)),tN P slots l=some as->as.length=l.length
 | [],_,as,h=>by simp only[tN,aA]at h;subst h;rfl
 | .tmp t::r,slots,as,h=>by
  simp only[tN]at h;split at h
  ·rename_i a as' e1 e2;simp only[aA]at h;subst h;simp[oD r slots as' e2]
  ·simp at h
 | .cell t ty::r,slots,as,h=>by
  simp only[tN]at h;split at h
  ·rename_i p as' e1 e2;split at h
   ·split at h
    ·simp only[aA]at h;subst h;simp[oD r slots as' e2]
    ·simp at h
   ·simp at h
  ·simp at h
def LArg.own {ty:Nat->Type}(e:Nat):LArg ty (List (ty e)):=
 {enc:=λx=>ls { own:=2,nm:=0,e:=e,o:=true,xs:=x },dec:=λa=>match a with | some (.inr s)=>if s.own == 2&&s.nm == 0&&s.o then yB e s else none | _=>none,
  inv:=λa x h=>by
   split at h
   ·rename_i s;split at h
    ·rename_i hc;simp only[aD,beq_iff_eq]at hc;unfold yB at h;split at h
     ·rename_i he;obtain⟨own,nm,e2,o2,xs⟩:=s;simp only at he hc;obtain⟨⟨rfl,rfl⟩,rfl⟩:=hc;subst he;cases h
      rfl
     ·simp at h
    ·simp at h
   ·simp at h }
def fnW {cx:Cx}{X R:Type}(a:Args cx.ty X)(enc:R->List (A cx.ty))(d:R)(m:X->Option R):List (A cx.ty)->Option (Bool×List (A cx.ty)):=
 λl=>(a.dec l).map λx=>((m x).isSome,enc ((m x).getD d))
theorem rG {cx:Cx}{X R:Type}{a:Args cx.ty X}{enc:R->List (A cx.ty)}{d:R}{m:X->Option R}{l:List (A cx.ty)}{r:List (A cx.ty)}(h:fnW a enc d m l=some (true,r)):∃ x t,l=a.enc x/\m x=some t/\r=enc t:=by
 unfold fnW at h;cases h1:a.dec l with
 | none=>rw[h1]at h;simp at h
 | some x=>
  rw[h1]at h;simp only[aF,aA,aK]at h;cases h2:m x with
  | none=>rw[h2]at h;simp at h
  | some t=>
   rw[h2]at h;exact⟨x,t,a.inv l x h1,h2,h.2.symm⟩
def fI {cx:Cx}:List (FuncId×WFn cx)->Kwt cx
 | [],_=>none
 | (f,F)::r,g=>if g=f then some F else fI r g
theorem cH {P:Program}{cx:Cx}:KwOk P cx (fI []):=λ_ _ h=>by simp[fI]at h
theorem dC {P:Program}{cx:Cx}{f:FuncId}{F:WFn cx}{r:List (FuncId×WFn cx)}(h:SatOf P cx f F)(hr:KwOk P cx (fI r)):KwOk P cx (fI ((f,F)::r)):=by
 intro g G hG;unfold fI at hG;split at hG
 ·rename_i he;subst he;cases hG;exact h
 ·exact hr g G hG
def roL {ty:Nat->Type}:L ty->L ty
 | some (.inr s)=>some (.inr (ro s.e s.xs))
 | l=>l
theorem aCD (ok:cx.Ok){w:World}{S S':Nat->Prop}{l:L cx.ty}{u:Value}{fp:List Nat}(hS:∀ b,S b->S' b)(hf:∀ b∈fp,S' b)(h:ResL cx w S l u fp):ResL cx w S' (roL l) u []:=by
 match l,h with
 | some (.inl v),h=>exact⟨h.1,rfl⟩
 | some (.inr s),h=>
  unfold ResL at h;show ResL cx w S' (some (.inr (ro s.e s.xs))) u [];unfold ResL;simp only[ro];rw[if_neg (by decide)];refine⟨trivial,trivial,?_⟩;by_cases h2:s.own=2
  ·simp only[h2,if_true]at h;obtain⟨_,n,h⟩:=h;exact⟨n,mD (OwnL.rep ok n _ _ _ h hf)⟩
  ·simp only[h2,if_false]at h;obtain⟨_,_,n,h⟩:=h;exact⟨n,mD (RepL_mono cx (λ_ _=>rfl) hS n _ u h)⟩
end
end Go.VM
namespace Go.VM
open Go.IntKind (wrap)
open Go.RowKit
section
variable {cx : Cx} {P : Program}
def aCK (cx:Cx)(P:Program)(D F:List Nat)(t:TypeId)(seen:List Nat)(l:L cx.ty):Option (L cx.ty×List Nat):=
  match l with
  | some (.inl (.slice none 0 0))=>match cQ P t with
    | some e=>some (ls { own:=2,nm:=0,e:=e,o:=true,xs:=[] },seen)
    | none=>none
  | some (.inl v)=>some (lv v,seen)
  | some (.inr s)=>if s.own == 1 then
      (if D.contains s.nm || seen.contains s.nm then none
       else if F.contains s.nm then some (ls (ro s.e s.xs),seen)
       else if s.o&&cx.flat s.e then some (ls { own:=2,nm:=0,e:=s.e,o:=true,xs:=s.xs },s.nm::seen)else none)
    else some (ls (ro s.e s.xs),seen)
  | none=>none
def pZ (cx:Cx)(P:Program)(D F:List Nat):List TypeId->List Nat->List (L cx.ty)->Option (List (L cx.ty)×List Nat)
 | t::ts,seen,l::r=>match aCK cx P D F t seen l with
  | some (l',s1)=>match pZ cx P D F ts s1 r with
   | some (r',s2)=>some (l'::r',s2)
   | none=>none
  | none=>none
 | [],seen,[]=>some ([],seen)
 | _,_,_=>none
def aEu (cx:Cx)(P:Program)(D F:List Nat)(t:TypeId)(seen:List Nat)(a:A cx.ty):Option (A cx.ty×List Nat):=
 match a with
 | .inl l=>match aCK cx P D F t seen l with
  | some (l',s1)=>some (.inl l',s1)
  | none=>none
 | .inr l=>match pZ cx P D F (gP P 8 t) seen l with
  | some (l',s1)=>some (.inr l',s1)
  | none=>none
def qA (cx:Cx)(P:Program)(D F:List Nat):List TypeId->List Nat->List (A cx.ty)->Option (List (A cx.ty)×List Nat)
 | t::ts,seen,l::r=>match aEu cx P D F t seen l with
  | some (l',s1)=>match qA cx P D F ts s1 r with
   | some (r',s2)=>some (l'::r',s2)
   | none=>none
  | none=>none
 | [],seen,[]=>some ([],seen)
 | _,_,_=>none
structure OSf (c:Ct cx.ty) (seen seen':List Nat) (fp:List Nat):Prop where
 src:∀ b∈fp,∃ tk∈c.T,tk.nm∈seen'/\tk.nm∉seen/\b∈vb tk.u
 nd:fp.Nodup
 grow:∀ n∈seen,n∈seen'
 row:∀ b∈fp,∀ tk∈c.T,b∈vb tk.u->∃ s,tk.c=.inl s
theorem OSf.nil (c:Ct cx.ty)(seen:List Nat):OSf c seen seen []:=⟨by simp,by simp,λ_ h=>h,by simp⟩
theorem OSf.app {c:Ct cx.ty}(h:Wf cx c){s0 s1 s2 f1 f2:List Nat}(h1:OSf c s0 s1 f1)(h2:OSf c s1 s2 f2):OSf c s0 s2 (f1++f2):=by
 refine⟨λb hb=>?_,?_,λn hn=>h2.grow n (h1.grow n hn),λb hb tk ht hv=>(aB.1 hb).elim (λhb=>h1.row b hb tk ht hv) (λhb=>h2.row b hb tk ht hv)⟩
 ·rcases aB.1 hb with hb | hb
  ·obtain⟨tk,k1,k2,k3,k4⟩:=h1.src b hb;exact⟨tk,k1,h2.grow _ k2,k3,k4⟩
  ·obtain⟨tk,k1,k2,k3,k4⟩:=h2.src b hb;exact⟨tk,k1,k2,λhs=>k3 (h1.grow _ hs),k4⟩
 ·rw[aE];refine⟨h1.nd,h2.nd,λa ha b hb he=>?_⟩;subst he;obtain⟨t1,k1,k2,k3,k4⟩:=h1.src a ha;obtain⟨t2,m1,m2,m3,m4⟩:=h2.src a hb;exact bR h k1 m1 (λe=>m3 (e▸k2)) (aB.2 (.inl k4)) (aB.2 (.inl m4))
theorem vG (ok:cx.Ok){c:Ct cx.ty}(h:Wf cx c){D F:List Nat}(hD:∀ n,n∈c.D↔n∈D)(hF:∀ n,n∈c.F↔n∈F){t:TypeId}{seen seen':List Nat}{l l':L cx.ty}{u:Value}(hr:RepLS cx c l u)(ho:aCK cx P D F t seen l=some (l',seen')) :
  ∃ fp,ResL cx c.w (Rd c) l' u fp/\OSf c seen seen' fp:=by
 unfold aCK at ho;split at ho
 ·split at ho
  ·simp only[aA,aK]at ho;obtain⟨rfl,rfl⟩:=ho;have hr:u=.slice none 0 0:=hr;subst hr;refine⟨[],?_,OSf.nil c seen⟩;unfold ResL;simp only[ls,if_true];exact⟨trivial,1,[],[],World.ownsRow_nil _ _ _ _,rfl,rfl,rfl,λj l c f h=>by simp at h⟩
  ·simp at ho
 ·simp only[aA,aK]at ho;obtain⟨rfl,rfl⟩:=ho;exact⟨[],⟨hr,rfl⟩,OSf.nil c seen⟩
 ·rename_i s;unfold RepLS at hr;by_cases h1:s.own=1
  ·simp only[h1,if_true,beq_self_eq_true]at hr ho;obtain⟨_,hr⟩:=hr;split at ho
   ·simp at ho
   ·rename_i hds;simp only[dW,not_or,nV]at hds;have h2:s.nm∉c.D:=by rw[hD];simpa using hds.1
    have hsn:s.nm∉seen:=by simpa using hds.2
    simp only[h2,if_false]at hr;split at ho
    ·rename_i hf;have h3:s.nm∈c.F:=by rw[hF];simpa using hf
     simp only[h3,if_true]at hr;simp only[aA,aK]at ho;obtain⟨rfl,rfl⟩:=ho;obtain⟨n,hr⟩:=hr;refine⟨[],?_,OSf.nil c seen⟩;unfold ResL;simp only[ls,ro];rw[if_neg (by decide)];exact⟨trivial,trivial,n,RepL_ro hr⟩
    ·rename_i hf;have h3:s.nm∉c.F:=by rw[hF];simpa using hf
     simp only[h3,if_false]at hr;obtain⟨tk,ht,hn,hc,hu⟩:=hr;split at ho
     ·rename_i hso;simp only[aD]at hso;obtain⟨hso,hflat⟩:=hso;simp only[aA,aK]at ho;obtain⟨rfl,rfl⟩:=ho;have htr:=h.rep tk ht;unfold TokRep at htr;rw[hc]at htr;simp only[hso,if_true]at htr;obtain⟨hv,n,htr⟩:=htr;have hfp0:tk.fp=[]:=by
       have:=(lN ok hflat htr).2;rw[<-hv]at this;exact dH (this.trans (dL _).symm)
      refine⟨bM tk,?_,⟨λb hb=>⟨tk,ht,by rw[hn];exact bB ..,by rw[hn];exact hsn,by simpa[bM,hfp0]using hb⟩,?_,λn hn=>aZ _ hn,λb hb t2 ht2 hv2=>?_⟩⟩
      ·unfold ResL;simp only[ls,if_true];refine⟨trivial,n,?_⟩;rw[<-hu];cases n with
       | zero=>simp[OwnL]at htr
       | succ n=>exact htr
      ·have hnd:=h.nodup;obtain⟨l1,l2,hl⟩:=bG ht;rw[hl]at hnd;simp only[aV,aO]at hnd;exact(aE.1 (aE.1 hnd).2.1).1
      ·rcases Classical.em (t2.nm=tk.nm)with he | he
       ·have:=eB h ht2 ht he;subst this;exact⟨s,hc⟩
       ·exact(bR h ht2 ht he (aB.2 (.inl hv2)) hb).elim
     ·simp at ho
  ·have hb1:(s.own == 1)=false:=by simpa using h1
   simp only[h1,if_false,hb1,cD]at hr ho;simp only[aA,aK]at ho;obtain⟨rfl,rfl⟩:=ho;obtain⟨n,hr⟩:=hr;refine⟨[],?_,OSf.nil c seen⟩;unfold ResL;simp only[ls,ro];rw[if_neg (by decide)];exact⟨trivial,trivial,n,RepL_ro hr⟩
 ·simp at ho
theorem sR (ok:cx.Ok){c:Ct cx.ty}(h:Wf cx c){D F:List Nat}(hD:∀ n,n∈c.D↔n∈D)(hF:∀ n,n∈c.F↔n∈F):∀ (ts:List TypeId) (l l':List (L cx.ty)) (us:List Value) (seen seen':List Nat),RepLs cx c l us->pZ cx P D F ts seen l=some (l',seen')->
  ∃ fps,ResLs cx c.w (Rd c) l' us fps/\OSf c seen seen' (List.flatten fps)
 | [],[],l',us,seen,seen',hr,ho=>by
  simp only[pZ,aA,aK]at ho;obtain⟨rfl,rfl⟩:=ho;exact⟨[],⟨hr.1,rfl,λj a u f h=>by simp at h⟩,OSf.nil c seen⟩
 | t::ts,l::r,l',us,seen,seen',hr,ho=>by
  match us,hr with
  | [],hr=>simp[RepLs]at hr
  | u::us,hr=>
   simp only[pZ]at ho;split at ho
   ·rename_i l1 s1 e1;split at ho
    ·rename_i r1 s2 e2;simp only[aA,aK]at ho;obtain⟨rfl,rfl⟩:=ho;obtain⟨f,h1,h2⟩:=vG ok h hD hF (hr.2 0 l u rfl rfl) e1;obtain⟨fps,h3,h4⟩:=sR ok h hD hF ts r r1 us s1 s2 ⟨by simpa using hr.1,λj a b e1 e2=>hr.2 (j+1) a b (by simpa using e1) (by simpa using e2)⟩ e2;refine⟨f::fps,⟨by simp[h3.1],by simp[h3.2.1],λj a b f' e1 e2 e3=>?_⟩,by rw[bF];exact h2.app h h4⟩;cases j with
     | zero=>
      simp only[aI,aA]at e1 e2 e3;subst e1;subst e2;subst e3;exact h1
     | succ j=>exact h3.2.2 j a b f' (by simpa using e1) (by simpa using e2) (by simpa using e3)
    ·simp at ho
   ·simp at ho
 | [],_::_,_,_,_,_,_,ho=>by simp[pZ]at ho
 | _::_,[],_,_,_,_,_,ho=>by simp[pZ]at ho
theorem aBR (ok:cx.Ok){c:Ct cx.ty}(h:Wf cx c){D F:List Nat}(hD:∀ n,n∈c.D↔n∈D)(hF:∀ n,n∈c.F↔n∈F){t:TypeId}{seen seen':List Nat}{a a':A cx.ty}{u:Value}(hr:RepA cx c a u)(ho:aEu cx P D F t seen a=some (a',seen')) :
  ∃ fp,ResA cx c.w (Rd c) a' u fp/\OSf c seen seen' fp:=by
 unfold aEu at ho;split at ho
 ·split at ho
  ·rename_i l1 s1 e1;simp only[aA,aK]at ho;obtain⟨rfl,rfl⟩:=ho;exact vG ok h hD hF hr e1
  ·simp at ho
 ·split at ho
  ·rename_i l1 s1 e1;simp only[aA,aK]at ho;obtain⟨rfl,rfl⟩:=ho;obtain⟨us,hu,hr⟩:=hr;obtain⟨fps,h1,h2⟩:=sR ok h hD hF _ _ _ us _ _ hr e1;exact⟨_,⟨us,fps,hu,rfl,h1⟩,h2⟩
  ·simp at ho
theorem sS (ok:cx.Ok){c:Ct cx.ty}(h:Wf cx c){D F:List Nat}(hD:∀ n,n∈c.D↔n∈D)(hF:∀ n,n∈c.F↔n∈F):∀ (ts:List TypeId) (l l':List (A cx.ty)) (us:List Value) (seen seen':List Nat),RepAs cx c l us->qA cx P D F ts seen l=some (l',seen')->
  ∃ fps,ResAs cx c.w (Rd c) l' us fps/\OSf c seen seen' (List.flatten fps)
 | [],[],l',us,seen,seen',hr,ho=>by
  simp only[qA,aA,aK]at ho;obtain⟨rfl,rfl⟩:=ho;exact⟨[],⟨hr.1,rfl,λj a u f h=>by simp at h⟩,OSf.nil c seen⟩
 | t::ts,l::r,l',us,seen,seen',hr,ho=>by
  match us,hr with
  | [],hr=>simp[RepAs]at hr
  | u::us,hr=>
   simp only[qA]at ho;split at ho
   ·rename_i l1 s1 e1;split at ho
    ·rename_i r1 s2 e2;simp only[aA,aK]at ho;obtain⟨rfl,rfl⟩:=ho;obtain⟨f,h1,h2⟩:=aBR ok h hD hF (hr.2 0 l u rfl rfl) e1;obtain⟨fps,h3,h4⟩:=sS ok h hD hF ts r r1 us s1 s2 ⟨by simpa using hr.1,λj a b e1 e2=>hr.2 (j+1) a b (by simpa using e1) (by simpa using e2)⟩ e2;refine⟨f::fps,⟨by simp[h3.1],by simp[h3.2.1],λj a b f' e1 e2 e3=>?_⟩,by rw[bF];exact h2.app h h4⟩;cases j with
     | zero=>
      simp only[aI,aA]at e1 e2 e3;subst e1;subst e2;subst e3;exact h1
     | succ j=>exact h3.2.2 j a b f' (by simpa using e1) (by simpa using e2) (by simpa using e3)
    ·simp at ho
   ·simp at ho
 | [],_::_,_,_,_,_,_,ho=>by simp[qA]at ho
 | _::_,[],_,_,_,_,_,ho=>by simp[qA]at ho
def qV {ty:Nat->Type}(v:V ty):Option (List (L ty)):=
 match v with
 | .inr (.inr p)=>if p.kind == 0&&p.off == 0&&p.i == 0&&p.cells.all nL then some p.cells else none
 | _=>none
theorem pL {c:Ct cx.ty}(hw:Wf cx c){v:V cx.ty}{u:Value}(h:RepV cx c v u){l:List (L cx.ty)}(hp:qV v=some l) :
  ∃ tk∈c.T,∃ g cur t,tk.c=.inr l/\tk.u=.pointer (some ⟨g,0,none⟩)/\u=.pointer (some ⟨g,0,none⟩)/\c.w.heap[g]?=some (.cells cur t (0,0))/\l.all nL=true/\ArgA cx c.w (Rd c) (.inr l) (.agg cur):=by
 unfold qV at hp;split at hp
 ·rename_i p;split at hp
  ·rename_i hc;simp only[aD,beq_iff_eq]at hc;simp only[aA]at hp;subst hp;have h:RepP cx c p u:=h;unfold RepP at h;simp only[hc.1.1.1,hc.1.1.2,hc.1.2]at h;obtain⟨tk,ht,hn,hcc,g,hu,hv⟩:=h;have hv:u=.pointer (some ⟨g,0,none⟩):=hv;have htr:=hw.rep tk ht;unfold TokRep at htr;rw[hcc]at htr;obtain⟨_,g',cur,t,hu',hh,hcells⟩:=htr;rw[hu]at hu';simp only[Value.pointer.injEq,aA,Addr.mk.injEq]at hu';obtain⟨rfl,_⟩:=hu';exact⟨tk,ht,g,cur,t,hcc,hu,hv,hh,hc.2,cur.toList,by simp,hcells.1,λj b w e1 e2=>wX (aY.1 hc.2 b (aN e1)) (hcells.2 j b w e1 e2)⟩
  ·simp at hp
 ·simp at hp
theorem ArgL.mono1 {w:World}{S S':Nat->Prop}(hS:∀ b,S b->S' b){l:L cx.ty}{u:Value}(h:ArgL cx w S l u):ArgL cx w S' l u:=by
 match l,h with
 | some (.inl v),h=>exact h
 | some (.inr s),⟨h0,n,h⟩=>exact⟨h0,n,RepL_mono cx (λ_ _=>rfl) hS n _ u h⟩
theorem ArgL.res {w:World}{S:Nat->Prop}{l:L cx.ty}{u:Value}(h:ArgL cx w S l u):ResL cx w S l u []:=by
 match l,h with
 | some (.inl v),h=>exact⟨h,rfl⟩
 | some (.inr s),⟨h0,n,h⟩=>
  unfold ResL;have h2:¬ s.own=2:=by omega
  simp only[h2,if_false];exact⟨h0,trivial,n,h⟩
def sA (P:Program)(fn:Func)(st:St cx.ty):Option (List (A cx.ty)):=
 match tN P st.slots fn.results.toList,qV (st.slots.getD 0 aP)with
 | some rs,some l=>match qA cx P st.D st.F fn.resultTypes.toList [] rs with
  | some (as',_)=>some (as'++[.inr l])
  | none=>none
 | _,_=>none
def qF (P:Program)(ev:Env cx)(lp:Lp cx (List (A cx.ty)))(fn:Func)(args:List (A cx.ty)):Option (List (A cx.ty)):=
 match fn.body,args with
 | some code,.inr lc::rest=>
   zA P ev lp 0 code { slots:=rX 0 lc 0::(rest.map lG++List.replicate (fn.ntmps-(rest.length+1)) aP),D:=[],F:=[],ctr:=1,lo:=1 } { n:=sA P fn,x:=λ_ _=>none,r:=sA P fn }
 | _,_=>none
def aFx (_P:Program)(fn:Func)(st:St cx.ty):Option (List (A cx.ty)):=
 match fn.results.toList with
 | [.tmp t]=>match qV (st.slots.getD t aP)with
  | some l=>some [.inr l]
  | none=>none
 | _=>none
def aEV (P:Program)(ev:Env cx)(lp:Lp cx (List (A cx.ty)))(fn:Func)(args:List (A cx.ty)):Option (List (A cx.ty)):=
 match fn.body with
 | some code=>zA P ev lp 0 code { slots:=args.map lG++List.replicate (fn.ntmps-args.length) aP,D:=[],F:=[],ctr:=1 } { n:=aFx P fn,x:=λ_ _=>none,r:=aFx P fn }
 | none=>none
theorem aBN (ok:cx.Ok)(hZ:cx.POk P)(hm:P.follows .mixedOrders=true){f:FuncId}{fn:Func}(hf:P.funcs[f]?=some fn){F:List (A cx.ty)->Option (Bool×List (A cx.ty))}
  (h:∀ as cs,F as=some (true,cs)->∃ (ev:Env cx) (L:Nat),KOk P cx ev.Kc/\KwOk P cx ev.Kw/\qF P ev (bU L) fn as=some cs):SatP P cx f fn.results.size F:=by
 intro w A0 g cur t lc l us cs hA hg hbox hcell hargs hF;obtain⟨ev,L,hK,hKw,hev⟩:=h _ cs hF;unfold qF at hev;split at hev
 ·rename_i code lc' rest hcode hl;simp only[eV,Sum.inr.injEq]at hl;obtain⟨rfl,rfl⟩:=hl;have hgl:g < w.heap.size:=(bE.1 hg).1
  let tk:Tk cx.ty:={ nm:=0,u:=.pointer (some ⟨g,0,none⟩),fp:=[],c:=.inr lc }
  let c:Ct cx.ty:={ T:=[tk],D:=[],F:=[],w:=w,S:=A0,N:=λb=>w.heap.size<=b\/b=g,K:=[(0,.pointer (some ⟨g,0,none⟩))] }
  have hvb:vb tk.u++tk.fp=[g]:=by simp[tk,vb]
  have hrd:∀ b,A0 b->Rd c b:=λb hb=>⟨(hA b hb).1,.inl hb,λt2 ht=>by
   simp only[c,aJ]at ht;subst ht;have:=(hA b hb).2;simpa[tk,vb]using this⟩
  obtain⟨us0,hus0,hlen0,hrep0⟩:=hbox;have hus0:us0=cur.toList:=by
   simp only[Value.agg.injEq]at hus0;rw[hus0]
  subst hus0;have hwf:Wf cx c:=by
   refine⟨by simp[c],by simp[c,hvb],λt2 ht b hb=>?_,λt2 ht=>?_,λb hb=>?_,λt2 _=>⟨by simp[c],by simp[c]⟩,λb hb=>.inl hb⟩
   ·simp only[c,aJ]at ht;subst ht;rw[hvb]at hb;simp only[aJ]at hb;subst hb;exact⟨.inr rfl,hgl⟩
   ·simp only[c,aJ]at ht;subst ht;exact⟨rfl,g,cur,t,rfl,hg,hlen0,λj a u e1 e2=>ArgL.repS hrd (hrep0 j a u e1 e2)⟩
   ·have:=hA b hb;show ¬ (w.heap.size<=b\/b=g);omega
  refine calls_of_wp hf hcode ?_;refine lU ok hZ ev L hK hKw hm (W:=w) (S:=A0) (N:=λb=>w.heap.size<=b\/b=g) (KK:=c.K) code 0 _ _ (λe c' st' a' h1 h2 h3 h4 h5=>?_) _ c _ ⟨hwf,?_,λt=>?_,rfl,λn=>by simp[c],λn=>by simp[c],λn hn=>?_,λp u hp=>?_,PrOK.nil,PdOK.none⟩ rfl ⟨rfl,rfl⟩ (Kept.refl _ _) hev
  ·have fin:sA P fn st'=some cs->a'.defers=[]/\∃ v,(results fn a'.tmps).run P c'.w=.ok v c'.w/\(∃ (rs:List Value) (cur':Array Value),Ending.returned v=.returned (pM rs)/\rs.length=fn.results.size/\(∃ t',c'.w.heap[g]?=some (.cells cur' t' (0,0)))/\Kept (λb=>w.heap.size<=b\/b=g) w c'.w ∧
      ResV cx c'.w A0 (λb=>w.heap.size<=b) (.inr (.inl cs)) (.tuple (rs++[Value.agg cur']).toArray)):=by
    intro ho;unfold sA at ho;split at ho
    ·rename_i rs l' e1 e2;split at ho
     ·rename_i as' s1 e3;simp only[aA]at ho;subst ho;obtain⟨ur,h6,h7⟩:=mC (P:=P) ok h1.wf h1.rep _ _ e1;obtain⟨fps,h8,h9⟩:=sS ok h1.wf h1.dead h1.frz _ _ _ _ _ _ h7 e3;have hk0:a'.tmps.getD 0 undef=.pointer (some ⟨g,0,none⟩):=(h1.kp 0 (.pointer (some ⟨g,0,none⟩)) (by rw[h3.2];exact aJ.2 rfl)).2;obtain⟨t2,ht2,g2,cur',t',hc2,hu2,hv2,hh2,_,hcells⟩:=pL h1.wf (h1.rep 0) e2;rw[hk0]at hv2;simp only[Value.pointer.injEq,aA,Addr.mk.injEq]at hv2;obtain⟨rfl,_⟩:=hv2;have hgv:g∈vb t2.u:=by rw[hu2];simp[vb]
      have hfpN:∀ b∈List.flatten fps,w.heap.size<=b/\b < c'.w.heap.size:=λb hb=>by
       obtain⟨t3,k1,k2,k3,k4⟩:=h9.src b hb;have hbd:=h1.wf.bound t3 k1 b (aB.2 (.inl k4));refine⟨?_,hbd.2⟩;have hN:=hbd.1;rw[h3.1]at hN;rcases hN with hN | hN
       ·exact hN
       ·obtain⟨s,hs⟩:=h9.row b hb t2 ht2 (by rw[hN];exact hgv);rw[hc2]at hs;cases hs
      have hS:∀ b,Rd c' b->(A0 b\/(w.heap.size<=b/\b < c'.w.heap.size/\b∉List.flatten fps)):=λb hb=>by
       obtain⟨b1,b2,b3⟩:=hb;rcases b2 with b2 | b2
       ·rw[h2]at b2;exact .inl b2
       ·rw[h3.1]at b2;rcases b2 with b2 | b2
        ·refine .inr ⟨b2,b1,λhb=>?_⟩;obtain⟨t3,k1,_,_,k4⟩:=h9.src b hb;exact b3 t3 k1 k4
        ·exact absurd hgv (b2▸b3 t2 ht2)
      refine⟨h1.defers,_,?_,ur,cur',rfl,?_,⟨t',hh2⟩,h4,List.flatten fps,h9.nd,hfpN,ur++[Value.agg cur'],fps++[[]],rfl,by simp,?_,?_,λj a b f g1 g2 g3=>?_⟩
      ·rw[pW];simp only[Sem.run_bind,h6,Result.andThen_ok,Sem.run_pure]
       rfl
      ·rw[h7.1,oD _ _ _ e1];simp
      ·simp[h8.1]
      ·simp[h8.2.1]
      ·by_cases hj:j < as'.length
       ·rw[aQ hj]at g1;rw[aQ (by rw[h8.1];exact hj)]at g2;rw[aQ (by rw[h8.2.1];exact hj)]at g3;exact ResA_mono hS (h8.2.2 j a b f g1 g2 g3)
       ·rw[aT (by omega)]at g1;rw[aT (by rw[h8.1];omega),h8.1]at g2;rw[aT (by rw[h8.2.1];omega),h8.2.1]at g3;cases hjj:j-as'.length with
        | zero=>
         rw[hjj]at g1 g2 g3;simp only[aI,aA]at g1 g2 g3;subst g1;subst g2;subst g3;obtain⟨us1,k1,k2,k3⟩:=hcells;refine⟨us1,l'.map (λ_=>[]),k1,?_,k2,by simp,λi x y z m1 m2 m3=>?_⟩
         ·exact(iU λf hf'=>by obtain⟨_,_,rfl⟩:=aH.1 hf';rfl).symm
         ·rw[aL]at m3;rw[m1]at m3;simp only[aF,aA]at m3;subst m3;exact(ArgL.mono1 hS (k3 i x y m1 m2)).res
        | succ k=>rw[hjj]at g1;simp at g1
     ·simp at ho
    ·simp at ho
   cases e with
   | normal=>exact fin h5
   | ret=>exact fin h5
   | exit i=>simp[Kn.on]at h5
   | _=>simp[Kn.on]at h5
  ·simp[hargs.1];omega
  ·show RepV cx c _ _;cases t with
   | zero=>
    have e1:(rX 0 lc 0::(l.map lG++List.replicate (fn.ntmps-(l.length+1)) (aP:V cx.ty))).getD 0 aP=rX 0 lc 0:=rfl;have e2:((Value.pointer (some ⟨g,0,none⟩)::us).toArray++Array.replicate (fn.ntmps-(Value.pointer (some ⟨g,0,none⟩)::us).toArray.size) undef).getD 0 undef=.pointer (some ⟨g,0,none⟩):=by
     simp[aW,eW]
    rw[e1,e2];exact⟨tk,aJ.2 rfl,rfl,rfl,g,rfl,rfl⟩
   | succ t=>
    by_cases ht:t < l.length
    ·have htu:t < us.length:=by rw[hargs.1];exact ht
     have e1:(rX 0 lc 0::(l.map lG++List.replicate (fn.ntmps-(l.length+1)) (aP:V cx.ty))).getD (t+1) aP=lG l[t]:=by
      simp[List.getD,aQ,ht]
     have e2:((Value.pointer (some ⟨g,0,none⟩)::us).toArray++Array.replicate (fn.ntmps-(Value.pointer (some ⟨g,0,none⟩)::us).toArray.size) undef).getD (t+1) undef=us[t]:=by
      simp[aW,eW,htu]
     rw[e1,e2];exact ArgA.repV hrd (hargs.2 t _ _ (aC ht) (aC htu))
    ·have e1:(rX 0 lc 0::(l.map lG++List.replicate (fn.ntmps-(l.length+1)) (aP:V cx.ty))).getD (t+1) aP=aP:=by
      simp only[List.getD,bX];rw[aT (by simp;omega)];simp only[bY,gM];split<;>rfl
     rw[e1]
     trivial
  ·rcases hn with⟨t2,ht,rfl⟩ | hn | hn
   ·simp only[c,aJ]at ht;subst ht;show 0 < 1 * 65536;omega
   ·simp[c]at hn
   ·simp[c]at hn
  ·simp only[c,aJ,aK]at hp;obtain⟨rfl,rfl⟩:=hp;refine⟨by show 0 < 1;omega,?_⟩;show((Value.pointer (some ⟨g,0,none⟩)::us).toArray++Array.replicate (fn.ntmps-(Value.pointer (some ⟨g,0,none⟩)::us).toArray.size) undef).getD 0 undef=_;simp[aW,eW]
 ·simp at hev
theorem xZ {P:Program}{cx:Cx}(ok:cx.Ok)(hZ:cx.POk P)(hm:P.follows .mixedOrders=true){f:FuncId}{fn:Func}(hf:P.funcs[f]?=some fn){nres:Nat}(hnr:fn.results.size=nres){X R:Type}(a:Args cx.ty X)(enc:R->List (A cx.ty))(d:R)(m:X->Option R)
  (ev:Env cx) (hK:KOk P cx ev.Kc) (hKw:KwOk P cx ev.Kw) (g:Nat->X->Option R) (he:∀ L x,qF P ev (bU L) fn (a.enc x)=(g L x).map enc) (hg:∀ x t,m x=some t->∃ L,g L x=some t) :
  SatP P cx f nres (fnW a enc d m):=by
 subst hnr;refine aBN ok hZ hm hf λas r h=>?_
 obtain⟨x,t,rfl,hx,rfl⟩:=rG h;obtain⟨L,hL⟩:=hg x t hx;exact⟨ev,L,hK,hKw,by rw[he,hL];rfl⟩
theorem aBO (ok:cx.Ok)(hZ:cx.POk P)(hm:P.follows .mixedOrders=true){f:FuncId}{fn:Func}(hf:P.funcs[f]?=some fn){F:List (A cx.ty)->Option (Bool×List (A cx.ty))}
  (h:∀ as cs,F as=some (true,cs)->∃ (ev:Env cx) (L:Nat),KOk P cx ev.Kc/\KwOk P cx ev.Kw/\aEV P ev (bU L) fn as=some cs):SatN P cx f F:=by
 intro w A0 l us lc hA hargs hF;obtain⟨ev,L,hK,hKw,hev⟩:=h _ _ hF;unfold aEV at hev;split at hev
 ·rename_i code hcode
  let c:Ct cx.ty:={ T:=[],D:=[],F:=[],w:=w,S:=A0,N:=λb=>w.heap.size<=b,K:=[] }
  have hwf:Wf cx c:=⟨by simp[c],by simp[c],by simp[c],by simp[c],λb hb=>by have:=hA b hb;show ¬ w.heap.size<=b;omega,by simp[c],λb hb=>hb⟩
  have hrd:∀ b,A0 b->Rd c b:=λb hb=>⟨hA b hb,.inl hb,by simp[c]⟩
  refine calls_of_wp hf hcode ?_;refine lU ok hZ ev L hK hKw hm (W:=w) (S:=A0) (N:=λb=>w.heap.size<=b) (KK:=[]) code 0 _ _ (λe c' st' a' h1 h2 h3 h4 h5=>?_) _ c _ ⟨hwf,?_,λt=>?_,rfl,λn=>by simp[c],λn=>by simp[c],λn hn=>?_,λp u hp=>by simp[c]at hp,PrOK.nil,PdOK.none⟩ rfl ⟨rfl,rfl⟩ (Kept.refl _ _) hev
  ·have fin:aFx P fn st'=some [.inr lc]->a'.defers=[]/\∃ v,(results fn a'.tmps).run P c'.w=.ok v c'.w/\(∃ (g:Nat) (cur:Array Value) (t:TypeId),Ending.returned v=.returned (.pointer (some ⟨g,0,none⟩))/\w.heap.size<=g/\c'.w.heap[g]?=some (.cells cur t (0,0))/\Below w.heap.size w c'.w ∧
      ArgA cx c'.w (λb=>A0 b\/(w.heap.size<=b/\b < c'.w.heap.size/\b≠g)) (.inr lc) (.agg cur)):=by
    intro ho;unfold aFx at ho;split at ho
    ·rename_i t0 hr0;split at ho
     ·rename_i l' e2;simp only[aA,eV,Sum.inr.injEq,and_true]at ho;subst ho;obtain⟨t2,ht2,g,cur,t,hc2,hu2,hv2,hh2,_,us1,k1,k2,k3⟩:=pL h1.wf (h1.rep t0) e2;have hgv:g∈vb t2.u:=by rw[hu2];simp[vb]
      have hgb:=h1.wf.bound t2 ht2 g (aB.2 (.inl hgv));rw[h3.1]at hgb;have hS:∀ b,Rd c' b->(A0 b\/(w.heap.size<=b/\b < c'.w.heap.size/\b≠g)):=λb hb=>by
       obtain⟨b1,b2,b3⟩:=hb;rcases b2 with b2 | b2
       ·rw[h2]at b2;exact .inl b2
       ·rw[h3.1]at b2;exact .inr ⟨b2,b1,λe=>absurd hgv (e▸b3 t2 ht2)⟩
      refine⟨h1.defers,a'.tmps.getD t0 undef,?_,g,cur,t,by rw[hv2],hgb.1,hh2,h4.low,us1,k1,k2,λj a u m1 m2=>ArgL.mono1 hS (k3 j a u m1 m2)⟩;rw[pW,hr0];simp only[lZ,List.mapM_nil,aA0,Sem.run_bind,Sem.run_pure,Result.andThen_ok]
      rfl
     ·simp at ho
    ·simp at ho
   cases e with
   | normal=>exact fin h5
   | ret=>exact fin h5
   | _=>simp[Kn.on]at h5
  ·simp[hargs.1]
  ·show RepV cx c _ _;by_cases ht:t < l.length
   ·have htu:t < us.length:=by rw[hargs.1];exact ht
    have e1:(l.map lG++List.replicate (fn.ntmps-l.length) (aP:V cx.ty)).getD t aP=lG l[t]:=by
     simp[List.getD,aQ,ht]
    have e2:(us.toArray++Array.replicate (fn.ntmps-us.toArray.size) undef).getD t undef=us[t]:=by
     simp[aW,eW,htu]
    rw[e1,e2];exact ArgA.repV hrd (hargs.2 t _ _ (aC ht) (aC htu))
   ·have e1:(l.map lG++List.replicate (fn.ntmps-l.length) (aP:V cx.ty)).getD t aP=aP:=by
     simp only[List.getD];rw[aT (by simp;omega)];simp only[bY,gM];split<;>rfl
    rw[e1]
    trivial
  ·rcases hn with⟨tk,ht,_⟩ | hn | hn
   ·simp[c]at ht
   ·simp[c]at hn
   ·simp[c]at hn
 ·simp at hev
theorem aIQ {P:Program}{cx:Cx}(ok:cx.Ok)(hZ:cx.POk P)(hm:P.follows .mixedOrders=true){f:FuncId}{fn:Func}(hf:P.funcs[f]?=some fn){X R:Type}(a:Args cx.ty X)(enc:R->List (A cx.ty))(d:R)(m:X->Option R)
  (ev:Env cx) (hK:KOk P cx ev.Kc) (hKw:KwOk P cx ev.Kw) (g:Nat->X->Option R) (he:∀ L x,aEV P ev (bU L) fn (a.enc x)=(g L x).map enc) (hg:∀ x t,m x=some t->∃ L,g L x=some t) :
  SatN P cx f (fnW a enc d m):=by
 refine aBO ok hZ hm hf λas r h=>?_
 obtain⟨x,t,rfl,hx,rfl⟩:=rG h;obtain⟨L,hL⟩:=hg x t hx;exact⟨ev,L,hK,hKw,by rw[he,hL];rfl⟩
def bnd {α β:Type}(x:α)(K:α->Option β):Option β:=K x
theorem iM {α β γ:Type}(x:α)(K:α->Option β)(f:β->γ):(bnd x K).map f=bnd x (λt=>(K t).map f):=rfl
def cB {α β:Type}(o:Option α)(d:α)(K:α->Option β):Option β:=bif o.isSome then K (o.getD d)else none
theorem dP {α β γ:Type}(o:Option α)(d:α)(K:α->Option β)(f:β->γ):(cB o d K).map f=cB o d (λt=>(K t).map f):=by
 cases o<;>rfl
theorem bA {α β:Type}(v:α)(d:α)(K:α->Option β):cB (some v) d K=K v:=rfl
end
end Go.VM
namespace Go.VM
open Go.IntKind (wrap)
open Go.RowKit
section
variable {cx : Cx} {P : Program}
def unV {ty:Nat->Type}:V ty->Option (List (A ty))
 | .inl a=>some [a]
 | .inr (.inl [_])=>none
 | .inr (.inl l)=>some l
 | .inr (.inr _)=>none
theorem aD0 {ty:Nat->Type}{r:V ty}{rs:List (A ty)}(h:unV r=some rs):jZ rs=r:=by
 match r,h with
 | .inl a,h=>cases h;rfl
 | .inr (.inl []),h=>cases h;rfl
 | .inr (.inl (a::b::l)),h=>cases h;rfl
def aFw (P:Program)(fn:Func)(vd:Value)(st:St cx.ty):Option (List (A cx.ty)):=
 match cU P fn st with
 | some r=>match unV r with
  | some rs=>if eH r || dO r then some (.inl (lv (.bool false))::.inl (lv vd)::rs)else none
  | none=>none
 | none=>none
def aCa (P:Program)(ev:Env cx)(lp:Lp cx (List (A cx.ty)))(fn:Func)(vd:Value)(rsd:List (A cx.ty))(args:List (A cx.ty)):Option (List (A cx.ty)):=
 match fn.body with
 | some code=>zA P ev lp 0 code { slots:=args.map lG++List.replicate (fn.ntmps-args.length) aP,D:=[],F:=[],ctr:=1 }
   {n:=aFw P fn vd,x:=λ_ _=>none,r:=aFw P fn vd,t:=λv _=>some (.inl (lv (.bool true))::.inl (lv v)::rsd) }
 | none=>none
theorem aBM (ok:cx.Ok)(hZ:cx.POk P)(hm:P.follows .mixedOrders=true){f:FuncId}{fn:Func}(hf:P.funcs[f]?=some fn){F:List (A cx.ty)->Option (Bool×List (A cx.ty))}
  (h:∀ as cs,F as=some (true,cs)->∃ (ev:Env cx) (L:Nat) (vd:Value) (rsd:List (A cx.ty)),KOk P cx ev.Kc/\KwOk P cx ev.Kw/\aCa P ev (bU L) fn vd rsd as=some cs):SatT P cx f F:=by
 intro w A0 l us xY v rs hA hargs hF;obtain⟨ev,L,vd,rsd,hK,hKw,hev⟩:=h l _ hF;unfold aCa at hev;split at hev
 ·rename_i code hcode
  let c:Ct cx.ty:={ T:=[],D:=[],F:=[],w:=w,S:=A0,N:=λb=>w.heap.size<=b,K:=[] }
  have hwf:Wf cx c:=⟨by simp[c],by simp[c],by simp[c],by simp[c],λb hb=>by have:=hA b hb;show ¬ w.heap.size<=b;omega,by simp[c],λb hb=>hb⟩
  have hrd:∀ b,A0 b->Rd c b:=λb hb=>⟨hA b hb,.inl hb,by simp[c]⟩
  refine calls_of_wp hf hcode ?_;refine lU ok hZ ev L hK hKw hm (W:=w) (S:=A0) (N:=λb=>w.heap.size<=b) (KK:=[]) code 0 _ _ (λe c' st' a' h1 h2 h3 h4 h5=>?_) _ c _ ⟨hwf,?_,λt=>?_,rfl,λn=>by simp[c],λn=>by simp[c],λn hn=>?_,λp u hp=>by simp[c]at hp,PrOK.nil,PdOK.none⟩ rfl ⟨rfl,rfl⟩ (Kept.refl _ _) hev
  ·have fin:aFw P fn vd st'=some (.inl (some (.inl (.bool xY)))::.inl (some (.inl v))::rs)->a'.defers=[]/\∃ x,(results fn a'.tmps).run P c'.w=.ok x c'.w/\(Below w.heap.size w c'.w/\bif xY then Ending.returned x=.panicked [{ v:=v,recovered:=false }]else ∃ u,Ending.returned x=.returned u/\ResV cx c'.w A0 (λb=>w.heap.size<=b) (jZ rs) u):=by
    intro ho;unfold aFw at ho;split at ho
    ·rename_i r hr;split at ho
     ·rename_i rs' hu;split at ho
      ·rename_i hmix;simp only[dW]at hmix;simp only[aA,eV]at ho;obtain⟨h8,h9,rfl⟩:=ho;have h8:xY=false:=by
        have:(Value.bool false)=.bool xY:=by simpa[lv]using h8
        cases this
        rfl
       subst h8;obtain⟨u,h6,h7⟩:=yJ ok h1 hr hmix;rw[h2,h3.1]at h7;rw[aD0 hu];exact⟨h1.defers,u,h6,h4.low,u,rfl,h7⟩
      ·simp at ho
     ·simp at ho
    ·simp at ho
   cases e with
   | normal=>exact fin h5
   | ret=>exact fin h5
   | panic ch=>
    replace h5:onT (λv (_:St cx.ty)=>some (.inl (lv (.bool true))::.inl (lv v)::rsd)) ch st'=some (.inl (some (.inl (.bool xY)))::.inl (some (.inl v))::rs):=h5;unfold onT at h5;split at h5
    ·rename_i v0;simp only[aA,eV]at h5;obtain⟨h8,h9,_⟩:=h5;have h8:xY=true:=by
      have:(Value.bool true)=.bool xY:=by simpa[lv]using h8
      cases this
      rfl
     have h9:v0=v:=by simpa[lv]using h9
     subst h8;subst h9;exact⟨h1.defers,h4.low,rfl⟩
    ·simp at h5
   | _=>simp[Kn.on]at h5
  ·simp[hargs.1]
  ·show RepV cx c _ _;by_cases ht:t < l.length
   ·have htu:t < us.length:=by rw[hargs.1];exact ht
    have e1:(l.map lG++List.replicate (fn.ntmps-l.length) (aP:V cx.ty)).getD t aP=lG l[t]:=by
     simp[List.getD,aQ,ht]
    have e2:(us.toArray++Array.replicate (fn.ntmps-us.toArray.size) undef).getD t undef=us[t]:=by
     simp[aW,eW,htu]
    rw[e1,e2];exact ArgA.repV hrd (hargs.2 t _ _ (aC ht) (aC htu))
   ·have e1:(l.map lG++List.replicate (fn.ntmps-l.length) (aP:V cx.ty)).getD t aP=aP:=by
     simp only[List.getD];rw[aT (by simp;omega)];simp only[bY,gM];split<;>rfl
    rw[e1]
    trivial
  ·rcases hn with⟨tk,ht,_⟩ | hn | hn
   ·simp[c]at ht
   ·simp[c]at hn
   ·simp[c]at hn
 ·simp at hev
theorem aF9 (ok:cx.Ok)(hZ:cx.POk P)(hm:P.follows .mixedOrders=true){f:FuncId}{fn:Func}(hf:P.funcs[f]?=some fn){X R:Type}(a:Args cx.ty X)(enc:R->List (A cx.ty))(d:R)(m:X->Option R)
  (ev:Env cx) (hK:KOk P cx ev.Kc) (hKw:KwOk P cx ev.Kw) (g:Nat->X->Option R) {vd:Value} {rsd:List (A cx.ty)} (he:∀ L x,aCa P ev (bU L) fn vd rsd (a.enc x)=(g L x).map enc) (hg:∀ x t,m x=some t->∃ L,g L x=some t) :
  SatT P cx f (fnW a enc d m):=by
 refine aBM ok hZ hm hf λas r h=>?_
 obtain⟨x,t,rfl,hx,rfl⟩:=rG h;obtain⟨L,hL⟩:=hg x t hx;exact⟨ev,L,vd,rsd,hK,hKw,by rw[he,hL];rfl⟩
end
end Go.VM
namespace Go.VM
open Go.IntKind (wrap)
open Go.RowKit
section
variable {cx : Cx} {P : Program}
def aAC {ty:Nat->Type}:A ty->List (L ty)
 | .inl l=>[l]
 | .inr l=>l
def aGw {ty:Nat->Type}:A ty->Bool
 | .inl l=>lT l&&!rD l
 | .inr _=>true
theorem ArgA.cells {w:World}{S:Nat->Prop}{a:A cx.ty}{u:Value}(h:ArgA cx w S a u)(hl:aGw a=true):u.cells.toList.length=(aAC a).length/\∀ (j:Nat) l v,(aAC a)[j]?=some l->u.cells.toList[j]?=some v->ArgL cx w S l v:=by
 match a,h with
 | .inr l,⟨us,hu,hlen,hv⟩=>
  subst hu;exact⟨hlen,hv⟩
 | .inl l,h=>
  have hl:lT l=true/\rD l=false:=by simpa[aGw]using hl
  obtain⟨hl,hnp⟩:=hl;have h:ArgL cx w S l u:=by
   rwa [ArgA.atLeaf hnp]at h
  have hc:u.cells=#[u]:=by
   match l,h,hl with
   | some (.inl v),h,ho=>
    have h:u=v:=h;subst h;cases u<;>first | rfl | (simp[lT]at ho)
   | some (.inr s),⟨_,n,h⟩,_=>
    cases n with
    | zero=>simp[RepL]at h
    | succ n=>
     obtain⟨a,cap,hu,_⟩:=h;rw[hu];rfl
  rw[hc];refine⟨rfl,λj l' v h1 h2=>?_⟩;cases j with
  | zero=>
   simp[aAC]at h1 h2;subst h1;subst h2;exact h
  | succ j=>simp[aAC]at h1
end
end Go.VM
namespace Go.VM
open Go.IntKind (wrap)
open Go.RowKit
section
variable {cx : Cx} {P : Program}
end
end Go.VM
namespace Go.VM
open Go.IntKind (wrap)
open Go
theorem dt {c:Prop}[Decidable c](h:c):decide c=true:=decide_eq_true h
theorem df {c:Prop}[Decidable c](h:¬ c):decide c=false:=decide_eq_false h
theorem aMA {α:Type}[BEq α][LawfulBEq α]{a b:α}(h:¬ a=b):(a != b)=true:=by simpa using h
theorem aKx {α:Type}[BEq α][LawfulBEq α]{a b:α}(h:a=b):(a != b)=false:=by simpa using h
theorem wi {x:Int}(h1:-9223372036854775808<=x)(h2:x<=9223372036854775807):wrap .i64 x=x:=by
 unfold wrap;simp[IntKind.bits,IntKind.signed];omega
theorem wu {x:Int}(h1:0<=x)(h2:x<=18446744073709551615):wrap .u64 x=x:=by
 unfold wrap;simp[IntKind.bits,IntKind.signed];omega
theorem wbm {x:Int}:wrap .u8 x=x % 256:=by
 unfold wrap;simp[IntKind.bits,IntKind.signed]
theorem aG2 {x:Int}:x * ((2:Int) ^ (min (Int.toNat (8:Int)) (IntKind.bits .u64)))=x * 256:=rfl
def gE (a:List Int):Bool:=a.all λx=>decide (0<=x)&&decide (x<=255)
theorem aFF {a:List Int}(h:gE a=true){x:Int}(hx:x∈a):0<=x/\x<=255:=by
 unfold gE at h;rw[aY]at h;simpa using h x hx
theorem jU {a:List Int}(h:gE a=true){i:Nat}(hi:i < a.length):0<=a.getD i 0/\a.getD i 0<=255:=by
 simp only[List.getD,aC hi,fK];exact aFF h (eI hi)
theorem kO {a b:List Int}(h:gE a=true)(hb:∀ x∈b,x∈a):gE b=true:=by
 unfold gE at h ⊢;rw[aY]at h ⊢;exact λx hx=>h x (hb x hx)
theorem kA {x:Int}{a:List Int}:gE (x::a)=true↔(0<=x/\x<=255)/\gE a=true:=by
 simp[gE,and_assoc]
theorem iW {α:Type}{a:List α}{i:Nat}(d:α)(h:i < a.length):a.drop i=a.getD i d::a.drop (i+1):=by
 rw[dV h];simp[List.getD,aC h]
theorem aCL {v x:Int}(h0:0<=v)(h1:v * 256+255<=18446744073709551615)(h2:0<=x)(h3:x<=255) :
  (Nat.cast (BitVec.toNat (HOr.hOr (BitVec.ofInt (IntKind.bits .u64) (v * 256)) (BitVec.ofInt (IntKind.bits .u64) x))):Int)=v * 256+x:=by
 obtain⟨a,rfl⟩:=dM h0;obtain⟨b,rfl⟩:=dM h2;show((BitVec.toNat (BitVec.ofInt 64 ((a:Int) * 256) ||| BitVec.ofInt 64 (b:Int)):Nat):Int)=_;have e1:BitVec.ofInt 64 ((a:Int) * 256)=BitVec.ofNat 64 (a * 256):=by
  rw[<-BitVec.ofInt_natCast];simp
 have e2:BitVec.ofInt 64 (b:Int)=BitVec.ofNat 64 b:=BitVec.ofInt_natCast ..
 rw[e1,e2,BitVec.toNat_or,BitVec.toNat_ofNat,BitVec.toNat_ofNat,nT (by omega),nT (by omega)];have:a * 256 ||| b=a * 256+b:=by
  have:=Nat.shiftLeft_add_eq_or_of_lt (a:=a) (i:=8) (b:=b) (by omega);rw[Nat.shiftLeft_eq]at this;exact this.symm
 rw[this];simp
theorem sN (bs:ByteArray):∀ (k i:Nat) (r:List UInt8),bs.size-i=k->ByteArray.toList.loop bs i r=r.reverse++bs.data.toList.drop i
 | 0,i,r,h=>by
  have hs:bs.size=bs.data.toList.length:=by rw[Array.length_toList];rfl
  rw[ByteArray.toList.loop,if_neg (by omega),bW (by omega),dL]
 | k+1,i,r,h=>by
  have hs:bs.size=bs.data.toList.length:=by rw[Array.length_toList];rfl
  rw[ByteArray.toList.loop,if_pos (by omega),sN bs k (i+1) _ (by omega)];have hi:i < bs.data.toList.length:=by omega
  rw[dV hi];have hd:i < bs.data.size:=by simpa using hi
  have hg:bs.data[i]! = bs.data[i]:=getElem!_pos bs.data i hd;simp[ByteArray.get!,hg]
theorem sO (bs:ByteArray):bs.toList=bs.data.toList:=by
 unfold ByteArray.toList;rw[sN bs _ 0 [] rfl];simp
theorem rW:∀ (ns:List Int) (s:ByteArray),(ns.foldl (λr n=>r.push (UInt8.ofNat n.toNat)) s).data.toList=s.data.toList++ns.map (λn=>UInt8.ofNat n.toNat)
 | [],s=>by simp
 | n::r,s=>by
  rw[List.foldl_cons,rW r];simp[ByteArray.push]
theorem zC:∀ (a b:List Int),gE a=true->gE b=true->a.map (λn=>UInt8.ofNat n.toNat)=b.map (λn=>UInt8.ofNat n.toNat)->a=b
 | [],[],_,_,_=>rfl
 | [],_::_,_,_,h=>by simp at h
 | _::_,[],_,_,h=>by simp at h
 | x::a,y::b,h1,h2,h=>by
  rw[kA]at h1 h2;simp only[bO,eV]at h;have hx:=congrArg UInt8.toNat h.1;simp only[UInt8.toNat_ofNat']at hx;rw[zC a b h1.2 h2.2 h.2];congr 1;omega
end Go.VM
namespace Go.VM
open Go.IntKind (wrap)
open Go Go.RowKit
def Lent (w:World)(b:Nat):Prop:=b < w.heap.size
theorem aDQ {w:World}{x:Addr}{v:Value}(h:w.cell? x=some v):x.spot=none/\x.block < w.heap.size:=by
 unfold World.cell? at h;split at h
 ·rename_i c e f hb;split at h
  ·simp at h
  ·rename_i hs;exact⟨by simpa using hs,(bE.1 hb).1⟩
 ·simp at h
theorem aEB {cx:Cx}{e:Nat}{k:IntKind}{w:World}{x:Addr}{len cap:Nat}{zs:List Int}(xs:List (cx.ty e))(hsz:cx.size e=1)(hlen:xs.length=len)(hle:len<=cap)(hz:len<=zs.length)
  (henc:∀ i y,xs[i]?=some y->cx.enc e false y=[lv (.int k (zs.getD i 0))]) (hcell:∀ i,i < zs.length->w.cell? (x.add i)=some (.int k (zs.getD i 0))) :
  ∃ n,RepL cx w (Lent w) n (some (.inr (ro e xs))) (.slice (some x) len cap):=by
 refine⟨1,some x,cap,by rw[<-hlen];rfl,by show xs.length<=cap;omega,?_⟩;by_cases h0:xs=[]
 ·exact .inl h0
 ·have hpos:0 < xs.length:=List.length_pos_iff.2 h0;have h1:=aDQ (hcell 0 (by omega));obtain⟨b,off,spot⟩:=x;simp only[Addr.add]at h1;obtain⟨rfl,hb⟩:=h1;refine .inr ⟨b,off,rfl,hb,λi y hy j l hl=>?_⟩;have hy:xs[i]?=some y:=hy;have hi:i < xs.length:=(aG.1 hy).1;have hl:(cx.enc e false y)[j]?=some l:=hl;rw[henc i y hy]at hl;cases j with
  | zero=>
   simp only[aI,aA]at hl;subst hl;refine⟨_,?_,rfl⟩;have:=hcell i (by omega);show w.cell? ⟨b,off+(i * cx.size e+0),none⟩=_;rw[hsz,qL,hH];simpa[Addr.add_lit]using this
  | succ j=>simp at hl
theorem aEC {cx:Cx}{e:Nat}{w:World}:∃ n,RepL cx w (Lent w) n (some (.inr (ro e ([]:List (cx.ty e))))) (.slice none 0 0):=
 ⟨1,none,0,rfl,aS _,.inl rfl⟩
theorem args_nil {cx:Cx}{w:World}{A0:Nat->Prop}:ArgAs cx w A0 [] []:=⟨rfl,λj a u h=>by simp at h⟩
theorem args_cons {cx:Cx}{w:World}{A0:Nat->Prop}{a:A cx.ty}{l:List (A cx.ty)}{u:Value}{us:List Value}(h:ArgA cx w A0 a u)(hs:ArgAs cx w A0 l us):ArgAs cx w A0 (a::l) (u::us):=
 ⟨by simp[hs.1],λj b v h1 h2=>by
  cases j with
  | zero=>
   simp only[aI,aA]at h1 h2;subst h1;subst h2;exact h
  | succ j=>exact hs.2 j b v (by simpa using h1) (by simpa using h2)⟩
theorem calls_true {P:Program}{cx:Cx}{f:FuncId}{X:Type}{a:Args cx.ty X}{d:Bool}{m:X->Option Bool}{enc:Bool->V cx.ty}(henc:enc true=.inl (.inl (lv (.bool true))))(hs:Sat P cx f (kQ a enc d m)){w:World}
  {l:List (A cx.ty)} {us:List Value} {x:X} (hdec:a.dec l=some x) (hm:m x=some true) (hargs:ArgAs cx w (Lent w) l us) :
  Calls P f us.toArray w λe w'=>e=.returned (.bool true)/\Below w.heap.size w w':=by
 refine(hs w (Lent w) l us (enc true) (λb h=>h) hargs ?_).mono λe w' ⟨u,he,hb,hres⟩=>⟨?_,hb⟩
 ·unfold kQ;rw[hdec];simp[hm]
 ·obtain⟨fp,_,_,hr⟩:=hres;rw[henc]at hr;have hr:u=.bool true/\fp=[]:=hr;rw[he,hr.1]
theorem aG8 {zs:List Int}(h:∀ n∈zs,(Lit.int .u8 n).wf=true)(k:Nat):gE (zs.take k)=true:=by
 unfold gE;rw[aY];intro x hx;have:=h x (dA hx);simp[Lit.wf,IntKind.min,IntKind.max,IntKind.signed,IntKind.bits]at this;simp;omega
def iv (x:Int):Bool:=decide (-9223372036854775808<=x)&&decide (x<=9223372036854775807)
end Go.VM
