/- A part of the proof of FnExactApplyCmd: VmA, VmA2, VmA3. -/
import Derived.WalkKit
import Derived.BigQuiet
import Derived.Laws.BytesString
set_option linter.unusedSimpArgs false
set_option linter.unusedVariables false
namespace Go.VM
set_option linter.defProp false
def aA:=@List.mem_append
def aB:=@Option.some.injEq
def aC:=@List.getElem?_eq_getElem
def aD:=@Option.map_some
def aE:=@Option.map_none
def aF:=@List.set_cons_zero
def aG:=@List.set_cons_succ
def aH:=@List.nodup_append
def aI:=@List.getElem?_eq_some_iff
def aJ:=@Bool.and_eq_true
def aK:=@Nat.le_refl
def aL:=@Array.getElem?_eq_some_iff
def aM:=@List.mem_map
def aO:=@List.mem_singleton
def aP:=@List.getElem?_cons_zero
def aQ:=@Nat.mul_le_mul_right
def aR:=@List.flatMap_cons
def aV:=@Int.toNat_natCast
def aW:=@List.length_append
def aX:=@List.getElem?_map
def aY:=@Prod.mk.injEq
def aZ:=@Array.getD_eq_getD_getElem?
def bA:=@List.length_take
def bB:=@List.mem_flatMap
def bC:=@List.mem_of_getElem?
def bE:=@List.flatMap_append
def bG:=@List.mem_cons_of_mem
def bJ:=@List.getElem?_append_right
def bK:=@List.getElem?_take
def bL:=@List.length_drop
def bM:=@List.getElem?_append_left
def bO:=@Bool.and_self
def bQ:=@List.getElem?_eq_none
def bR:=@List.mem_cons_self
def bS:=@List.mem_cons
def bW:=@List.length_set
def bX:=@Nat.zero_le
def cB:=@List.length_cons
def cC:=@List.mem_of_mem_drop
def cG:=@List.all_eq_true
def cH:=@Option.isSome_iff_exists
def cL:=@List.getElem?_drop
def cM:=@List.drop_eq_nil_of_le
def cN:=@Nat.lt_of_lt_of_le
def cO:=@List.append_of_mem
def cP:=@List.take_append_of_le_length
def cQ:=@List.eq_nil_of_length_eq_zero
def cR:=@List.size_toArray
def cT:=@List.take_of_length_le
def cU:=@List.map_cons
def cX:=@Nat.zero_add
def dA:=@List.flatten_cons
def dB:=@List.append_assoc
def dC:=@Bool.not_eq_true'
def dE:=@List.drop_eq_getElem_cons
def dF:=@Bool.false_eq_true
def dH:=@List.take_append_drop
def dI:=@List.mem_flatten
def dK:=@List.length_map
def dL:=@List.mem_iff_getElem
def dM:=@List.nodup_cons
def dN:=@List.map_append
def dP:=@List.getElem?_cons_succ
def dQ:=@List.length_nil
def dR:=@List.append_nil
def dV:=@List.ext_getElem?
def dW:=@List.getElem?_of_mem
def dX:=@List.Sublist.refl
def dY:=@Nat.lt_of_lt_of_eq
def dZ:=@Nat.le_trans
def eB:=@List.mem_of_mem_take
def eH:=@List.mem_filter
def eK:=@List.flatten_append
def eL:=@List.getElem?_set_self
def eM:=@Bool.not_true
def eN:=@List.any_eq_true
def eO:=@List.nil_append
def eQ:=@Nat.succ_mul
def eR:=@Nat.lt_or_ge
def eV:=@List.contains_eq_mem
def eZ:=@Nat.add_mul
def fA:=@Array.getElem?_append
def fC:=@Nat.le_of_not_lt
def fD:=@Array.getElem?_setIfInBounds_ne
def fE:=@Nat.mul_one
def fF:=@List.getElem?_set_ne
def fI:=@List.sublist_append_right
def fJ:=@List.mem_of_find?_eq_some
def fK:=@Option.getD_some
def fO:=@List.mem_zipIdx_iff_getElem?
def fV:=@List.set_eq_take_append_cons_drop
def fX:=@Nat.add_comm
def gC:=@Nat.lt_trichotomy
def gD:=@List.replicate_succ
def gE:=@List.filter_sublist
def gG:=@List.mem_range
def gH:=@List.drop_zero
def gI:=@Array.getElem?_eq_getElem
def gL:=@Bool.or_eq_true
def gM:=@Option.isSome_some
def gN:=@Array.getElem?_replicate
def gO:=@Array.ext'
def gR:=@List.flatMap_map
def gT:=@Nat.add_assoc
def gU:=@List.append_cancel_left
def gV:=@Nat.sub_zero
def gW:=@Bool.decide_or
def gX:=@Bool.eq_false_iff
def iB:=@Option.bind_some
def iC:=@List.map_toArray
def iD:=@List.getElem_mem
def iE:=@List.Sublist.map
def iH:=@Nat.add_sub_cancel
def iI:=@List.map_map
def iJ:=@Bool.true_and
def iK:=@Bool.or_assoc
def iV:=@List.eq_nil_iff_forall_not_mem
def jA:=@List.getElem?_replicate
def jB:=@Int.eq_ofNat_of_zero_le
def jI:=@Bool.false_and
def jK:=@List.append_eq_nil_iff
def jO:=@List.mem_replicate
def jR:=@Nat.add_zero
def kE:=@List.not_mem_nil
def kF:=@List.mem_toArray
def kG:=@List.filter_cons
def kR:=@List.map_nil
def lI:=@List.find?_some
def lL:=@Option.map_eq_some_iff
def mC:=@List.length_replicate
def mD:=@List.countP_singleton
def mH:=@List.drop_append_of_le_length
def mM:=@List.any_cons
def nA:=@Nat.le_succ
def nB:=@Nat.div_add_mod
def nC:=@List.map_congr_left
def nU:=@Nat.mul_comm
def nV:=@Nat.le_of_eq
def nW:=@List.find?_eq_none
def oH:=@Nat.mul_le_mul
def oZ:=@List.take_add_one
def pA:=@Int.lt_trichotomy
def pP:=@Nat.one_mul
def pQ:=@Nat.add_sub_cancel_left
def pR:=@List.map_take
def pS:=@List.map_drop
def pT:=@Int.lt_irrefl
def pU:=@Bool.false_or
def qC:=@List.take_length
def qD:=@List.isEmpty_iff
def qE:=@Array.toList_map
def rP:=@Nat.sub_self
def rQ:=@List.getElem?_toArray
def rR:=@List.cons.injEq
def rS:=@Int.add_zero
def tD:=@List.mapM_cons
def tE:=@List.drop_drop
def tF:=@Bool.not_false
def vM:=@Int.add_assoc
def wN:=@Nat.mod_lt
structure SlD (ty:Nat->Type) where
 own:Nat
 nm:Nat
 e:Nat
 o:Bool
 xs:List (ty e)
abbrev L (ty:Nat->Type):=Option (Value ⊕ SlD ty)
abbrev A (ty:Nat->Type):=L ty ⊕ List (L ty)
structure Pt (ty:Nat->Type) where
 kind:Nat
 nm:Nat
 cells:List (L ty)
 s:SlD ty
 i:Nat
 off:Nat
abbrev V (ty:Nat->Type):=A ty ⊕ (List (A ty) ⊕ Pt ty)
structure Cx where
 ty:Nat->Type
 dflt:(e:Nat)->ty e
 size:Nat->Nat
 flat:Nat->Bool
 dom:Nat->Bool
 enc:(e:Nat)->Bool->ty e->List (L ty)
 dec:(e:Nat)->List (L ty)->Option (ty e)
def aN {ty:Nat->Type}:V ty:=.inl (.inl none)
def lv {ty:Nat->Type}(v:Value):L ty:=some (.inl v)
def ls {ty:Nat->Type}(s:SlD ty):L ty:=some (.inr s)
def vv {ty:Nat->Type}(v:Value):V ty:=.inl (.inl (some (.inl v)))
def vs {ty:Nat->Type}(s:SlD ty):V ty:=.inl (.inl (some (.inr s)))
def va {ty:Nat->Type}(l:List (L ty)):V ty:=.inl (.inr l)
def ro {ty:Nat->Type}(e:Nat)(xs:List (ty e)):SlD ty:={ own:=0,nm:=0,e:=e,o:=false,xs:=xs }
def weak {ty:Nat->Type}(o:Bool):L ty->L ty
 | some (.inr s)=>some (.inr { own:=if o then 2 else 0,nm:=0,e:=s.e,o:=o,xs:=s.xs })
 | l=>l
section
variable (cx : Cx)
def RepL (w:World)(S:Nat->Prop):Nat->L cx.ty->Value->Prop
 | _,none,_=>True
 | _,some (.inl v),u=>u=v
 | 0,some (.inr _),_=>False
 | n+1,some (.inr s),u=>∃ a cap,u=.slice a s.xs.length cap/\s.xs.length<=cap/\(s.xs=[]\/∃ b off,a=some ⟨b,off,none⟩/\S b ∧
   ∀ i x,s.xs[i]?=some x->∀ j l,(cx.enc s.e false x)[j]?=some l->∃ c,w.cell? ⟨b,off+(i * cx.size s.e+j),none⟩=some c/\RepL w S n l c)
def OwnL (w:World):Nat->L cx.ty->Value->List Nat->Prop
 | _,none,_,_=>False
 | _,some (.inl v),u,fp=>u=v/\fp=[]
 | 0,some (.inr _),_,_=>False
 | n+1,some (.inr s),u,fp=>∃ us fpl,w.ownsRow 0 s.e (cx.size s.e) u s.xs.length us/\fp=u.ownBlock.toList++List.flatten fpl ∧
   us.length=(s.xs.flatMap (cx.enc s.e true)).length/\fpl.length=us.length ∧
   ∀ (j:Nat) l c f,(s.xs.flatMap (cx.enc s.e true))[j]?=some l->us[j]?=some c->fpl[j]?=some f->OwnL w n l c f
theorem RepL_succ {w:World}{S:Nat->Prop}:∀ (n:Nat) (l:L cx.ty) (u:Value),RepL cx w S n l u->RepL cx w S (n+1) l u
 | _,none,_,_=>by simp[RepL]
 | n,some (.inl v),u,h=>by
  cases n<;>simpa[RepL]using h
 | 0,some (.inr _),_,h=>by simp[RepL]at h
 | n+1,some (.inr s),u,h=>by
  obtain⟨a,cap,hu,hcap,h⟩:=h;refine⟨a,cap,hu,hcap,?_⟩;rcases h with h | ⟨b,off,ha,hS,h⟩
  ·exact .inl h
  ·refine .inr ⟨b,off,ha,hS,λi x hx j l hl=>?_⟩;obtain⟨c,hc,hr⟩:=h i x hx j l hl;exact⟨c,hc,RepL_succ n l c hr⟩
theorem RepL_mono {w w':World}{S S':Nat->Prop}(hw:∀ b,S b->w'.heap[b]?=w.heap[b]?)(hS:∀ b,S b->S' b) :
  ∀ (n:Nat) (l:L cx.ty) (u:Value),RepL cx w S n l u->RepL cx w' S' n l u
 | _,none,_,_=>by simp[RepL]
 | n,some (.inl v),u,h=>by
  cases n<;>simpa[RepL]using h
 | 0,some (.inr _),_,h=>by simp[RepL]at h
 | n+1,some (.inr s),u,h=>by
  obtain⟨a,cap,hu,hcap,h⟩:=h;refine⟨a,cap,hu,hcap,?_⟩;rcases h with h | ⟨b,off,ha,hb,h⟩
  ·exact .inl h
  ·refine .inr ⟨b,off,ha,hS b hb,λi x hx j l hl=>?_⟩;obtain⟨c,hc,hr⟩:=h i x hx j l hl;exact⟨c,by rw[World.cell?_of_block (hw b hb)];exact hc,RepL_mono hw hS n l c hr⟩
theorem OwnL_mono {w w':World}:∀ (n:Nat) (l:L cx.ty) (u:Value) (fp:List Nat),(∀ b,b∈fp->w'.heap[b]?=w.heap[b]?)->OwnL cx w n l u fp->OwnL cx w' n l u fp
 | _,none,_,_,_,h=>by simp[OwnL]at h
 | n,some (.inl v),u,fp,_,h=>by
  cases n<;>simpa[OwnL]using h
 | 0,some (.inr _),_,_,_,h=>by simp[OwnL]at h
 | n+1,some (.inr s),u,fp,hw,h=>by
  obtain⟨us,fpl,hrow,hfp,hl1,hl2,h⟩:=h;refine⟨us,fpl,?_,hfp,hl1,hl2,λj l c f h1 h2 h3=>?_⟩
  ·obtain⟨hx,hc⟩:=hrow;refine⟨hx,?_⟩;rcases hc with hc | ⟨g,cap,cur,hv,hg,hh,hr⟩
   ·exact .inl hc
   ·refine .inr ⟨g,cap,cur,hv,hg,?_,hr⟩;rw[hw g (by rw[hfp,hv];simp[Value.ownBlock])];exact hh
  ·refine OwnL_mono n l c f (λb hb=>hw b ?_) (h j l c f h1 h2 h3);rw[hfp];exact aA.2 (.inr (dI.2 ⟨f,bC h3,hb⟩))
end
section
variable (cx : Cx)
structure Tk (ty:Nat->Type) where
 nm:Nat
 u:Value
 fp:List Nat
 c:SlD ty ⊕ List (L ty)
def vb:Value->List Nat
 | .slice (some a) _ _=>[a.block]
 | .pointer (some a)=>[a.block]
 | _=>[]
structure Ct (ty:Nat->Type) where
 T:List (Tk ty)
 D:List Nat
 F:List Nat
 w:World
 S:Nat->Prop
 N:Nat->Prop
 K:List (Nat×Value)
variable {cx}
def Rd (c:Ct cx.ty)(b:Nat):Prop:=b < c.w.heap.size/\(c.S b\/c.N b)/\∀ tk∈c.T,b∉vb tk.u
variable (cx)
def RepLS (c:Ct cx.ty)(l:L cx.ty)(u:Value):Prop:=
 match l with
 | none=>True
 | some (.inl v)=>u=v
 | some (.inr s)=>
  if s.own=1 then
   (∃ a n cap,u=.slice a n cap) ∧
   if s.nm∈c.D then True
   else if s.nm∈c.F then ∃ n,RepL cx c.w (Rd c) n (some (.inr s)) u
   else ∃ tk∈c.T,tk.nm=s.nm/\tk.c=.inl s/\tk.u=u
  else ∃ n,RepL cx c.w (Rd c) n (some (.inr s)) u
def RepLs (c:Ct cx.ty)(l:List (L cx.ty))(us:List Value):Prop:=us.length=l.length/\∀ (j:Nat) a u,l[j]?=some a->us[j]?=some u->RepLS cx c a u
def RepA (c:Ct cx.ty)(a:A cx.ty)(u:Value):Prop:=
 match a with
 | .inl l=>RepLS cx c l u
 | .inr l=>∃ us:List Value,u=.agg us.toArray/\RepLs cx c l us
def RepAs (c:Ct cx.ty)(l:List (A cx.ty))(us:List Value):Prop:=us.length=l.length/\∀ (j:Nat) a u,l[j]?=some a->us[j]?=some u->RepA cx c a u
def RepEl (c:Ct cx.ty)(s:SlD cx.ty)(i:Nat)(b o:Nat):Prop:=
 Rd c b/\∃ x,s.xs[i]?=some x/\∃ n,∀ j l,(cx.enc s.e false x)[j]?=some l->∃ v,c.w.cell? ⟨b,o+j,none⟩=some v/\RepL cx c.w (Rd c) n l v
def aGg (i g off:Nat):Value:=match i with | 0=>.pointer (some ⟨g,off,none⟩) | 1=>.func (.func off) #[.pointer (some ⟨g,0,none⟩)] #[] | n+2=>.slice (some ⟨g,off,none⟩) (n+1) (n+1)
theorem aHb {m g off:Nat}(h:m≠0):aGg (m+1) g off=.slice (some ⟨g,off,none⟩) m m:=by
 cases m with
 | zero=>exact absurd rfl h
 | succ m=>rfl
def mvA (t b off:Nat):Value:=match t with | 0=>.pointer (some ⟨b,off,none⟩) | f+1=>.func (.func f) #[.pointer (some ⟨b,off,none⟩)] #[]
def RepP (c:Ct cx.ty)(p:Pt cx.ty)(u:Value):Prop:=
 match p.kind with
 | 0=>∃ tk∈c.T,tk.nm=p.nm/\tk.c=.inr p.cells/\∃ g,tk.u=.pointer (some ⟨g,0,none⟩)/\u=aGg p.i g p.off
 | 1=>
  if p.nm∈c.D then True
  else if p.nm∈c.F then ∃ b o,u=.pointer (some ⟨b,o+p.off,none⟩)/\RepEl cx c p.s p.i b o
  else ∃ tk∈c.T,tk.nm=p.nm/\tk.c=.inl p.s/\p.i < p.s.xs.length/\∃ g n cap,tk.u=.slice (some ⟨g,0,none⟩) n cap/\u=.pointer (some ⟨g,p.i * cx.size p.s.e+p.off,none⟩)
 | 2=>∃ b o,u=mvA p.nm b (o+p.off)/\RepEl cx c p.s p.i b o
 | _=>True
def RepV (c:Ct cx.ty)(v:V cx.ty)(u:Value):Prop:=
 match v with
 | .inl a=>RepA cx c a u
 | .inr (.inl l)=>∃ us:List Value,u=.tuple us.toArray/\RepAs cx c l us
 | .inr (.inr p)=>RepP cx c p u
def TokRep (c:Ct cx.ty)(tk:Tk cx.ty):Prop:=
 match tk.c with
 | .inl s=>vb tk.u=tk.u.ownBlock.toList ∧
  if s.o then ∃ n,OwnL cx c.w n (some (.inr s)) tk.u (vb tk.u++tk.fp)
  else tk.fp=[]/\∃ us n,c.w.ownsRow 0 s.e (cx.size s.e) tk.u s.xs.length us/\us.length=(s.xs.flatMap (cx.enc s.e false)).length ∧
   ∀ (j:Nat) l v,(s.xs.flatMap (cx.enc s.e false))[j]?=some l->us[j]?=some v->RepL cx c.w (Rd c) n l v
 | .inr cells=>tk.fp=[]/\∃ g cur e,tk.u=.pointer (some ⟨g,0,none⟩)/\c.w.heap[g]?=some (.cells cur e (0,0))/\RepLs cx c cells cur.toList
structure Wf (c:Ct cx.ty):Prop where
 names:(c.T.map (·.nm)).Nodup
 nodup:(c.T.flatMap λtk=>vb tk.u++tk.fp).Nodup
 bound:∀ tk∈c.T,∀ b∈vb tk.u++tk.fp,c.N b/\b < c.w.heap.size
 rep:∀ tk∈c.T,TokRep cx c tk
 start:∀ b,c.S b->¬ c.N b
 live:∀ tk∈c.T,tk.nm∉c.D/\tk.nm∉c.F
 size:∀ b,c.w.heap.size<=b->c.N b
theorem Wf.lt {c:Ct cx.ty}(h:Wf cx c){k:Nat}(hk:¬ c.N k):k < c.w.heap.size:=by
 rcases eR k c.w.heap.size with h1 | h1
 ·exact h1
 ·exact absurd (h.size k h1) hk
structure Pres (c c':Ct cx.ty):Prop where
 rd:∀ b,Rd c b->Rd c' b/\c'.w.heap[b]?=c.w.heap[b]?
 dead:∀ n,n∈c.D->n∈c'.D
 frz:∀ n,n∈c.F->n∈c'.F
 tok:∀ tk∈c.T,tk.nm∉c'.D->tk.nm∉c'.F->tk∈c'.T
 box:∀ tk∈c.T,∀ l,tk.c=.inr l->tk∈c'.T
 froze:∀ tk∈c.T,∀ s,tk.c=.inl s->tk.nm∉c'.D->tk.nm∈c'.F->∃ n,RepL cx c'.w (Rd c') n (some (.inr s)) tk.u
theorem RepL.pres {c c':Ct cx.ty}(h:Pres cx c c'){n:Nat}{l:L cx.ty}{u:Value}(hr:RepL cx c.w (Rd c) n l u):RepL cx c'.w (Rd c') n l u:=
 RepL_mono cx (λb hb=>(h.rd b hb).2) (λb hb=>(h.rd b hb).1) n l u hr
theorem RepLS.pres {c c':Ct cx.ty}(h:Pres cx c c'){l:L cx.ty}{u:Value}(hr:RepLS cx c l u):RepLS cx c' l u:=by
 match l,hr with
 | none,_=>trivial
 | some (.inl v),hr=>exact hr
 | some (.inr s),hr=>
  unfold RepLS at hr ⊢;by_cases h1:s.own=1
  ·simp only[h1,if_true]at hr ⊢;obtain⟨hsl,hr⟩:=hr;refine⟨hsl,?_⟩;by_cases h2:s.nm∈c'.D
   ·simp[h2]
   ·have h2':s.nm∉c.D:=λx=>h2 (h.dead _ x)
    simp only[h2,h2',if_false]at hr ⊢;by_cases h3:s.nm∈c.F
    ·simp only[h3,h.frz _ h3,if_true]at hr ⊢;obtain⟨n,hr⟩:=hr;exact⟨n,RepL.pres cx h hr⟩
    ·simp only[h3,if_false]at hr;obtain⟨tk,htk,hn,hc,hu⟩:=hr;by_cases h4:s.nm∈c'.F
     ·simp only[h4,if_true];subst hu;exact h.froze tk htk s hc (hn▸h2) (hn▸h4)
     ·simp only[h4,if_false];exact⟨tk,h.tok tk htk (hn▸h2) (hn▸h4),hn,hc,hu⟩
  ·simp only[h1,if_false]at hr ⊢;obtain⟨n,hr⟩:=hr;exact⟨n,RepL.pres cx h hr⟩
theorem RepLs.pres {c c':Ct cx.ty}(h:Pres cx c c'){l:List (L cx.ty)}{us:List Value}(hr:RepLs cx c l us):RepLs cx c' l us:=
 ⟨hr.1,λj a u h1 h2=>RepLS.pres cx h (hr.2 j a u h1 h2)⟩
theorem RepA.pres {c c':Ct cx.ty}(h:Pres cx c c'){a:A cx.ty}{u:Value}(hr:RepA cx c a u):RepA cx c' a u:=by
 match a,hr with
 | .inl l,hr=>exact RepLS.pres cx h hr
 | .inr l,⟨us,hu,hr⟩=>exact⟨us,hu,hr.pres cx h⟩
theorem RepAs.pres {c c':Ct cx.ty}(h:Pres cx c c'){l:List (A cx.ty)}{us:List Value}(hr:RepAs cx c l us):RepAs cx c' l us:=
 ⟨hr.1,λj a u h1 h2=>RepA.pres cx h (hr.2 j a u h1 h2)⟩
theorem RepEl.pres {c c':Ct cx.ty}(h:Pres cx c c'){s:SlD cx.ty}{i b o:Nat}(hr:RepEl cx c s i b o):RepEl cx c' s i b o:=by
 obtain⟨hb,x,hx,n,hr⟩:=hr;refine⟨(h.rd b hb).1,x,hx,n,λj l hl=>?_⟩;obtain⟨v,hv,hr⟩:=hr j l hl;exact⟨v,by rw[World.cell?_of_block (h.rd b hb).2];exact hv,RepL.pres cx h hr⟩
theorem RepL_el {w:World}{S:Nat->Prop}{n:Nat}{s:SlD cx.ty}{g k cap:Nat}(h:RepL cx w S n (some (.inr s)) (.slice (some ⟨g,0,none⟩) k cap)){i:Nat}{x:cx.ty s.e}(hx:s.xs[i]?=some x) :
  S g/\∃ n,∀ j l,(cx.enc s.e false x)[j]?=some l->∃ v,w.cell? ⟨g,i * cx.size s.e+j,none⟩=some v/\RepL cx w S n l v:=by
 cases n with
 | zero=>simp[RepL]at h
 | succ n=>
  obtain⟨a,cap',hu,_,h⟩:=h;rcases h with h | ⟨b,off,ha,hS,h⟩
  ·rw[h]at hx;simp at hx
  ·rw[ha]at hu;simp only[Value.slice.injEq,aB,Addr.mk.injEq]at hu;obtain⟨⟨rfl,rfl,_⟩,_,_⟩:=hu;refine⟨hS,n,λj l hl=>?_⟩;obtain⟨v,hv,hr⟩:=h i x hx j l hl;exact⟨v,by simpa using hv,hr⟩
theorem RepP.pres {c c':Ct cx.ty}(h:Pres cx c c'){p:Pt cx.ty}{u:Value}(hr:RepP cx c p u):RepP cx c' p u:=by
 unfold RepP at hr ⊢;split at hr
 ·obtain⟨tk,htk,hn,hc,hr⟩:=hr;exact⟨tk,h.box tk htk _ hc,hn,hc,hr⟩
 ·by_cases h2:p.nm∈c'.D
  ·simp[h2]
  ·have h2':p.nm∉c.D:=λx=>h2 (h.dead _ x)
   simp only[h2,h2',if_false]at hr ⊢;by_cases h3:p.nm∈c.F
   ·simp only[h3,h.frz _ h3,if_true]at hr ⊢;obtain⟨b,o,hu,hr⟩:=hr;exact⟨b,o,hu,hr.pres cx h⟩
   ·simp only[h3,if_false]at hr;obtain⟨tk,htk,hn,hc,hi,g,n,cap,hu,hp⟩:=hr;by_cases h4:p.nm∈c'.F
    ·simp only[h4,if_true];obtain⟨m,hm⟩:=h.froze tk htk _ hc (hn▸h2) (hn▸h4);rw[hu]at hm;obtain⟨x,hx⟩:∃ x,p.s.xs[p.i]?=some x:=⟨_,aC hi⟩
     obtain⟨hS,k,hk⟩:=RepL_el cx hm hx;exact⟨g,p.i * cx.size p.s.e,hp,hS,x,hx,k,hk⟩
    ·simp only[h4,if_false];exact⟨tk,h.tok tk htk (hn▸h2) (hn▸h4),hn,hc,hi,g,n,cap,hu,hp⟩
 ·obtain⟨b,o,hu,hr⟩:=hr;exact⟨b,o,hu,hr.pres cx h⟩
 ·trivial
theorem RepV.pres {c c':Ct cx.ty}(h:Pres cx c c'){v:V cx.ty}{u:Value}(hr:RepV cx c v u):RepV cx c' v u:=by
 match v,hr with
 | .inl a,hr=>exact RepA.pres cx h hr
 | .inr (.inl l),⟨us,hu,hr⟩=>exact⟨us,hu,hr.pres cx h⟩
 | .inr (.inr p),hr=>exact RepP.pres cx h hr
theorem Pres.refl {c:Ct cx.ty}(h:Wf cx c):Pres cx c c:=
 ⟨λ_ h=>⟨h,rfl⟩,λ_ h=>h,λ_ h=>h,λ_ h _ _=>h,λ_ h _ _=>h,λtk ht _ _ _ hf=>absurd hf (h.live tk ht).2⟩
theorem TokRep.pres {c c':Ct cx.ty}(h:Pres cx c c'){tk:Tk cx.ty}(hb:∀ b∈vb tk.u++tk.fp,c'.w.heap[b]?=c.w.heap[b]?)(hr:TokRep cx c tk):TokRep cx c' tk:=by
 unfold TokRep at hr ⊢;split at hr
 ·rename_i s hc;obtain⟨hv,hr⟩:=hr;refine⟨hv,?_⟩;split at hr
  ·rename_i ho;obtain⟨n,hr⟩:=hr;simp only[ho,if_true];exact⟨n,OwnL_mono cx n _ _ _ hb hr⟩
  ·rename_i ho;obtain⟨hf,us,n,hrow,hl,hr⟩:=hr;rw[if_neg ho];refine⟨hf,us,n,?_,hl,λj l v h1 h2=>RepL.pres cx h (hr j l v h1 h2)⟩;obtain⟨hx,hcc⟩:=hrow;refine⟨hx,?_⟩;rcases hcc with hcc | ⟨g,cap,cur,hv',hg,hh,hrest⟩
   ·exact .inl hcc
   ·refine .inr ⟨g,cap,cur,hv',hg,?_,hrest⟩;rw[hb g (by rw[hv'];simp[vb])];exact hh
 ·obtain⟨hf,g,cur,e,hu,hh,hr⟩:=hr;refine⟨hf,g,cur,e,hu,?_,hr.pres cx h⟩;rw[hb g (by rw[hu];simp[vb])];exact hh
end
section
variable (cx : Cx) (P : Program)
structure Cx.Ok (cx:Cx):Prop where
 len:∀ e o x,(cx.enc e o x).length=cx.size e
 leaf:∀ e o x l,l∈cx.enc e o x->(∃ v,l=some (.inl v)/\v.oneCell'=true)\/(∃ s,l=some (.inr s)/\s.own=(if o then 2 else 0))
 weak:∀ e o o' x,(cx.enc e o x).map (weak o')=cx.enc e o' x
 dec:∀ e l x o,cx.dec e l=some x->l.map (VM.weak o)=cx.enc e o x
 flat:∀ e o x,cx.flat e=true->∀ l∈cx.enc e o x,∃ v,l=some (.inl v)
theorem gS {α β:Type}(f:α->List β)(k:Nat)(hf:∀ x,(f x).length=k):∀ (xs:List α) (i:Nat) (x:α),xs[i]?=some x->∀ j,j < k->(xs.flatMap f)[i * k+j]?=(f x)[j]?
 | [],i,x,h=>by simp at h
 | y::ys,0,x,h=>by
  intro j hj;simp only[aP,aB]at h;subst h;simp only[aR,Nat.zero_mul,cX];rw[bM (by rw[hf];exact hj)]
 | y::ys,i+1,x,h=>by
  intro j hj;simp only[dP]at h;have:=gS f k hf ys i x h j hj;simp only[aR];rw[bJ (by rw[hf,eZ];omega),<-this,hf];congr 1;rw[eZ];omega
theorem eX {α β:Type}(f:α->List β)(k:Nat)(hf:∀ x,(f x).length=k)(xs:List α):(xs.flatMap f).length=xs.length * k:=by
 induction xs with
 | nil=>simp
 | cons y ys ih=>simp only[aR,aW,hf,ih,cB,eZ];omega
theorem RepL_weak {w:World}{S:Nat->Prop}{n:Nat}{l:L cx.ty}{u:Value}(o:Bool):RepL cx w S n (weak o l) u↔RepL cx w S n l u:=by
 match l,n with
 | none,_=>simp[weak,RepL]
 | some (.inl v),n=>simp[weak]
 | some (.inr s),0=>simp[weak,RepL]
 | some (.inr s),n+1=>simp[weak,RepL]
variable {cx}
theorem aGa (ok:cx.Ok){e:Nat}{o o':Bool}{x:cx.ty e}{j:Nat}{l:L cx.ty}(h:(cx.enc e o x)[j]?=some l):(cx.enc e o' x)[j]?=some (weak o' l):=by
 rw[<-ok.weak e o o' x,aX,h];rfl
theorem OwnL.rep (ok:cx.Ok){w:World}{S:Nat->Prop}:∀ (n:Nat) (l:L cx.ty) (u:Value) (fp:List Nat),OwnL cx w n l u fp->(∀ b∈fp,S b)->RepL cx w S n l u
 | _,none,_,_,h,_=>by simp[OwnL]at h
 | n,some (.inl v),u,fp,h,_=>by
  cases n<;>(simp only[OwnL]at h;simp[RepL,h.1])
 | 0,some (.inr _),_,_,h,_=>by simp[OwnL]at h
 | n+1,some (.inr s),u,fp,h,hS=>by
  obtain⟨us,fpl,hrow,hfp,hl1,hl2,h⟩:=h;have hsz:=eX (cx.enc s.e true) (cx.size s.e) (λx=>ok.len s.e true x) s.xs;rcases hrow.2 with⟨hu,h0⟩ | ⟨g,cap,cur,hu,hg,hh,hn,hm,hc,ht⟩
  ·exact⟨none,0,by rw[hu,h0],by omega,.inl (cQ h0)⟩
  ·refine⟨some ⟨g,0,none⟩,cap,hu,hn,.inr ⟨g,0,rfl,hS g (by rw[hfp,hu];simp[Value.ownBlock]),λi x hx j l hl=>?_⟩⟩;have hj:j < cx.size s.e:=by rw[<-ok.len s.e false x];exact(aI.1 hl).1
   have hl':=aGa ok (o':=true) hl;rw[<-gS (cx.enc s.e true) (cx.size s.e) (λx=>ok.len s.e true x) s.xs i x hx j hj]at hl';have hlt:i * cx.size s.e+j < us.length:=by rw[hl1];exact(aI.1 hl').1
   have hc1:=aC hlt;have hf1:fpl[i * cx.size s.e+j]?=some fpl[i * cx.size s.e+j]:=aC (by omega);refine⟨us[i * cx.size s.e+j],?_,?_⟩
   ·have:=hrow.cells (g:=g) (by rw[hu];rfl) _ _ hc1;simpa[Addr.add_lit]using this
   ·have hown:=h _ _ _ _ hl' hc1 hf1;have:=OwnL.rep ok n _ _ _ hown (λb hb=>hS b (by rw[hfp];exact aA.2 (.inr (dI.2 ⟨_,bC hf1,hb⟩))));exact(RepL_weak cx true).1 this
theorem aMS {c:Ct cx.ty}(h:Wf cx c){tk:Tk cx.ty}(ht:tk∈c.T){b:Nat}(hb:b∈tk.fp):Rd c b:=by
 have hb':=h.bound tk ht b (aA.2 (.inr hb));refine⟨hb'.2,.inr hb'.1,λtk' ht' hv=>?_⟩;by_cases he:tk'=tk
 ·subst he;have hn:=h.nodup;obtain⟨l1,l2,hl⟩:=cO ht;rw[hl]at hn;simp only[bE,aR]at hn;have h2:=(aH.1 (aH.1 hn).2.1).1;exact(aH.1 h2).2.2 b hv b hb rfl
 ·obtain⟨l1,l2,hl⟩:=cO ht;have hn:=h.nodup;rw[hl]at hn ht';simp only[bE,aR]at hn;have hm:b∈vb tk.u++tk.fp:=aA.2 (.inr hb);rcases aA.1 ht' with h1 | h1
  ·exact(aH.1 hn).2.2 b (bB.2 ⟨tk',h1,aA.2 (.inl hv)⟩) b (aA.2 (.inl hm)) rfl
  ·rcases bS.1 h1 with h1 | h1
   ·exact he h1
   ·exact(aH.1 (aH.1 hn).2.1).2.2 b hm b (bB.2 ⟨tk',h1,aA.2 (.inl hv)⟩) rfl
theorem tJ (ok:cx.Ok){c:Ct cx.ty}(h:Wf cx c){tk:Tk cx.ty}(ht:tk∈c.T){s:SlD cx.ty}(hc:tk.c=.inl s) :
  (tk.u=.slice none 0 0/\s.xs=[])\/∃ g cap,tk.u=.slice (some ⟨g,0,none⟩) s.xs.length cap/\s.xs.length<=cap ∧
   ∀ (i:Nat) x,s.xs[i]?=some x->∃ n,∀ j l,(cx.enc s.e false x)[j]?=some l->∃ v,c.w.cell? ⟨g,i * cx.size s.e+j,none⟩=some v/\RepL cx c.w (Rd c) n l v:=by
 have hr:=h.rep tk ht;unfold TokRep at hr;rw[hc]at hr;simp only at hr;obtain⟨hv,hr⟩:=hr;split at hr
 ·rename_i ho;obtain⟨n,hr⟩:=hr;cases n with
  | zero=>simp[OwnL]at hr
  | succ n=>
   obtain⟨us,fpl,hrow,hfp,hl1,hl2,hr⟩:=hr;rcases hrow.2 with⟨hu,h0⟩ | ⟨g,cap,cur,hu,hg,hh,hn,hm,hcc,htk⟩
   ·exact .inl ⟨hu,cQ h0⟩
   ·refine .inr ⟨g,cap,hu,hn,λi x hx=>⟨n,λj l hl=>?_⟩⟩;have hj:j < cx.size s.e:=by rw[<-ok.len s.e false x];exact(aI.1 hl).1
    have hl':=aGa ok (o':=true) hl;rw[<-gS (cx.enc s.e true) (cx.size s.e) (λx=>ok.len s.e true x) s.xs i x hx j hj]at hl';have hlt:i * cx.size s.e+j < us.length:=by rw[hl1];exact(aI.1 hl').1
    have hc1:=aC hlt;have hf1:fpl[i * cx.size s.e+j]?=some fpl[i * cx.size s.e+j]:=aC (by omega);refine⟨us[i * cx.size s.e+j],?_,?_⟩
    ·have:=hrow.cells (g:=g) (by rw[hu];rfl) _ _ hc1;simpa[Addr.add_lit]using this
    ·have hown:=hr _ _ _ _ hl' hc1 hf1;have hfps:tk.fp=List.flatten fpl:=by
      have:vb tk.u++tk.fp=vb tk.u++List.flatten fpl:=by rw[hfp,hv]
      exact gU this
     have:=OwnL.rep ok (S:=Rd c) n _ _ _ hown (λb hb=>aMS h ht (by rw[hfps];exact dI.2 ⟨_,bC hf1,hb⟩));exact(RepL_weak cx true).1 this
 ·obtain⟨hf,us,n,hrow,hl,hr⟩:=hr;rcases hrow.2 with⟨hu,h0⟩ | ⟨g,cap,cur,hu,hg,hh,hn,hm,hcc,htk⟩
  ·exact .inl ⟨hu,cQ h0⟩
  ·refine .inr ⟨g,cap,hu,hn,λi x hx=>⟨n,λj l hl'=>?_⟩⟩;have hj:j < cx.size s.e:=by rw[<-ok.len s.e false x];exact(aI.1 hl').1
   have hl2:=hl';rw[<-gS (cx.enc s.e false) (cx.size s.e) (λx=>ok.len s.e false x) s.xs i x hx j hj]at hl2;have hlt:i * cx.size s.e+j < us.length:=by rw[hl];exact(aI.1 hl2).1
   have hc1:=aC hlt;refine⟨us[i * cx.size s.e+j],?_,hr _ _ _ hl2 hc1⟩;have:=hrow.cells (g:=g) (by rw[hu];rfl) _ _ hc1;simpa[Addr.add_lit]using this
end
section
variable {cx : Cx} {P : Program}
structure Eff (ty:Nat->Type) where
 v:V ty
 dead:List Nat
 frz:List Nat
 live:List Nat
 read:List Nat
def fY {ty:Nat->Type}(v:V ty)(r:List Nat):Eff ty:={ v:=v,dead:=[],frz:=[],live:=[],read:=r }
def dU {ty:Nat->Type}(slots:List (V ty)):Operand->V ty
 | .tmp t=>slots.getD t aN
 | .const v=>vv v
 | .global _=>aN
 | .func f=>vv (.func (.func f) #[] #[])
structure Kept (N:Nat->Prop) (w w':World):Prop where
 os:w'.os=w.os
 tape:w'.tape=w.tape
 output:w'.output=w.output
 size:w.heap.size<=w'.heap.size
 block:∀ k,¬ N k->w'.heap[k]?=w.heap[k]?
theorem Kept.refl (N:Nat->Prop)(w:World):Kept N w w:=⟨rfl,rfl,rfl,aK _,λ_ _=>rfl⟩
theorem Kept.trans {N:Nat->Prop}{a b c:World}(h:Kept N a b)(k:Kept N b c):Kept N a c:=
 ⟨k.os.trans h.os,k.tape.trans h.tape,k.output.trans h.output,dZ h.size k.size,λi hi=>(k.block i hi).trans (h.block i hi)⟩
theorem gF {N:Nat->Prop}{B:Nat}{w w':World}(h:Go.RowKit.Below B w w')(hN:∀ b,B<=b->N b):Kept N w w':=
 ⟨h.os,h.tape,h.output,h.size,λk hk=>h.block k (by rcases eR k B with h1 | h1;exact h1;exact absurd (hN k h1) hk)⟩
theorem Kept.drew {N:Nat->Prop}{a w:World}(h:Kept N a w):Kept N a { w with drawn:=w.drawn+1 }:=⟨h.os,h.tape,h.output,h.size,h.block⟩
theorem Kept.low {B:Nat}{w w':World}(h:Kept (λb=>B<=b) w w'):Go.RowKit.Below B w w':=
 ⟨h.os,h.tape,h.output,h.size,λk hk=>h.block k (by show ¬ B<=k;omega)⟩
def Nm {ty:Nat->Type}(c:Ct ty)(n:Nat):Prop:=(∃ tk∈c.T,tk.nm=n)\/n∈c.D\/n∈c.F
def Ct.nx {ty:Nat->Type}(c:Ct ty)(ef:Eff ty)(w':World)(T':List (Tk ty)):Ct ty:={ T:=T',D:=ef.dead++c.D,F:=ef.frz++c.F,w:=w',S:=c.S,N:=c.N,K:=c.K }
structure Good (cx:Cx) (c:Ct cx.ty) (ef:Eff cx.ty) (nm0:Nat) (u:Value) (w':World) (T':List (Tk cx.ty)):Prop where
 wf:Wf cx (c.nx ef w' T')
 pres:Pres cx c (c.nx ef w' T')
 rep:RepV cx (c.nx ef w' T') ef.v u
 below:Kept c.N c.w w'
 names:∀ n,Nm (c.nx ef w' T') n->Nm c n\/(nm0<=n/\n < nm0+64)
def Runs (P:Program)(o:Oper)(ρ:Operand->Value)(w:World)(K:Value->World->Prop):Prop:=
 match (execOp ρ o).run P w with
 | .ok (.value u) w'=>K u w'
 | .ok .skip w'=>K undef w'
 | .ok (.enter f args) w'=>Calls P f args w' (λe w''=>∃ v,e=.returned v/\K v w'')
 | _=>False
structure EffOK (P:Program) (cx:Cx) (o:Oper) (slots:List (V cx.ty)) (nm0:Nat) (ef:Eff cx.ty):Prop where
 go:∀ (c:Ct cx.ty) (ρ:Operand->Value),Wf cx c->(∀ x∈o.op.operands,RepV cx c (dU slots x) (ρ x))->(∀ n∈ef.live,n∉c.D/\n∉c.F)->(∀ n∈ef.read,n∉c.D)->
  (∀ n,Nm c n->¬ (nm0<=n/\n < nm0+64))->Runs P o ρ c.w (λu w'=>∃ T',Good cx c ef nm0 u w' T')
theorem aIw {c:Ct cx.ty}(h:Wf cx c){v:V cx.ty}{r:List Nat}{u:Value}{nm0:Nat}(hr:RepV cx c v u):Good cx c (fY v r) nm0 u c.w c.T:=
 ⟨h,Pres.refl cx h,hr,Kept.refl _ _,λ_ hn=>.inl hn⟩
theorem eC {o:Oper}{slots:List (V cx.ty)}{nm0:Nat}{v:V cx.ty}{r:List Nat}
  (h:∀ (c:Ct cx.ty) (ρ:Operand->Value),Wf cx c->(∀ x∈o.op.operands,RepV cx c (dU slots x) (ρ x))->(∀ n∈r,n∉c.D)->∃ u,(execOp ρ o).run P c.w=.ok (.value u) c.w/\RepV cx c v u) :
  EffOK P cx o slots nm0 (fY v r):=by
 refine⟨λc ρ hw ho _ hrd _=>?_⟩;obtain⟨u,hu,hr⟩:=h c ρ hw ho hrd;unfold Runs;rw[hu];exact⟨c.T,aIw hw hr⟩
def uN (P:Program):Sem Next->Option Value
 | .pure (.value v)=>some v
 | .program k=>uN P (k P)
 | .mark _ k=>uN P k
 | _=>none
theorem aBK (w:World):∀ (s:Sem Next) (v:Value),uN P s=some v->s.run P w=.ok (.value v) w:=by
 intro s
 induction s with
 | pure a=>intro v h;cases a<;>simp[uN]at h;subst h;simp[Sem.run]
 | program k ih=>intro v h;simp only[uN]at h;simp only[Sem.run];exact ih _ v h
 | mark m k ih=>intro v h;simp only[uN]at h;simp only[Sem.run];exact ih v h
 | _=>intro v h;simp[uN]at h
def mK {ty:Nat->Type}:L ty->Option Value
 | some (.inl v)=>some v
 | _=>none
def qT {ty:Nat->Type}:List (L ty)->Option (List Value)
 | []=>some []
 | l::r=>match mK l,qT r with
  | some v,some vs=>some (v::vs)
  | _,_=>none
def sQ {ty:Nat->Type}:V ty->Option Value
 | .inl (.inl l)=>mK l
 | .inl (.inr l)=>match qT l with
  | some vs=>some (.agg vs.toArray)
  | none=>none
 | _=>none
def aFR {ty:Nat->Type}:Value->V ty
 | .agg cs=>va (cs.toList.map lv)
 | v=>vv v
theorem wU {c:Ct cx.ty}{l:L cx.ty}{u v:Value}(h:RepLS cx c l u)(hv:mK l=some v):u=v:=by
 match l,h,hv with
 | some (.inl x),h,hv=>simp only[mK,aB]at hv;subst hv;exact h
theorem uT {c:Ct cx.ty}:∀ (l:List (L cx.ty)) (us vs:List Value),RepLs cx c l us->qT l=some vs->us=vs
 | [],us,vs,h,hv=>by
  simp only[qT,aB]at hv;subst hv;exact cQ h.1
 | l::r,us,vs,h,hv=>by
  simp only[qT]at hv;split at hv
  ·rename_i v vs' h1 h2;simp only[aB]at hv;subst hv
   match us,h with
   | [],h=>simp[RepLs]at h
   | u::us,h=>
    have e1:=wU (h.2 0 l u rfl rfl) h1;have e2:=uT r us vs' ⟨by have:=h.1;simpa using this,λj a b h1 h2=>h.2 (j+1) a b (by simpa using h1) (by simpa using h2)⟩ h2;rw[e1,e2]
  ·simp at hv
theorem aBA {c:Ct cx.ty}{v:V cx.ty}{u x:Value}(h:RepV cx c v u)(hv:sQ v=some x):u=x:=by
 match v,h,hv with
 | .inl (.inl l),h,hv=>exact wU h hv
 | .inl (.inr l),⟨us,hu,h⟩,hv=>
  simp only[sQ]at hv;split at hv
  ·rename_i vs hvs;simp only[aB]at hv;subst hv;rw[hu,uT l us vs h hvs]
  ·simp at hv
theorem aBR {c:Ct cx.ty}(v:Value):RepV cx c (aFR v) v:=by
 unfold aFR;split
 ·rename_i cs;refine⟨cs.toList,by simp,by simp,λj a u h1 h2=>?_⟩;simp only[aX]at h1;rw[h2]at h1;simp only[aD,aB]at h1;subst h1
  rfl
 ·rfl
def aA8 {ty:Nat->Type}(slots:List (V ty)):List Operand->Bool
 | []=>true
 | x::r=>match sQ (dU slots x)with
  | some _=>aA8 slots r
  | none=>false
theorem rN {slots:List (V cx.ty)}:∀ (l:List Operand),aA8 slots l=true->∀ x∈l,∃ v,sQ (dU slots x)=some v
 | [],_,x,hx=>by cases hx
 | y::r,h,x,hx=>by
  simp only[aA8]at h;split at h
  ·rename_i v hv;rcases bS.1 hx with hx | hx
   ·subst hx;exact⟨v,hv⟩
   ·exact rN r h x hx
  ·simp at h
def aBS:Op->Bool
 | .select _ _=>false
 | _=>true
def pY {β:Type}(P:Program)(o:Oper)(slots:List (V cx.ty))(k:Eff cx.ty->Option β):Option β:=
 if aBS o.op&&aA8 slots o.op.operands.toList then
  match uN P (execOp (λx=>(sQ (dU slots x)).getD undef) o)with
  | some v=>k (fY (aFR v) [])
  | none=>none
 else none
theorem kC {β:Type}{o:Oper}{slots:List (V cx.ty)}{nm0:Nat}{k:Eff cx.ty->Option β}{r:β}(h:pY P o slots k=some r):∃ ef,k ef=some r/\EffOK P cx o slots nm0 ef:=by
 unfold pY at h;split at h
 ·rename_i hc;simp only[aJ]at hc;obtain⟨hs,hc⟩:=hc;split at h
  ·rename_i v hv;refine⟨_,h,eC λc ρ hw ho _=>⟨v,?_,aBR v⟩⟩;rw[execOp_congr (ρ:=ρ) (ρ':=λx=>(sQ (dU slots x)).getD undef) o ?_ ?_]
   ·exact aBK c.w _ _ hv
   ·intro cs b e;rw[e]at hs;simp[aBS]at hs
   ·intro x hx;obtain⟨y,hy⟩:=rN _ hc x (by simpa using hx);show ρ x=(sQ (dU slots x)).getD undef;rw[hy];exact aBA (ho x hx) hy
  ·simp at h
 ·simp at h
end
section
variable {cx : Cx} {P : Program}
def rdn {ty:Nat->Type}(s:SlD ty):List Nat:=if s.own=1 then[s.nm]else[]
theorem RepL_slice {w:World}{S:Nat->Prop}{n:Nat}{s:SlD cx.ty}{u:Value}(h:RepL cx w S n (some (.inr s)) u):∃ a cap,u=.slice a s.xs.length cap:=by
 cases n with
 | zero=>simp[RepL]at h
 | succ n=>obtain⟨a,cap,hu,_,_⟩:=h;exact⟨a,cap,hu⟩
theorem RepLS_slice (ok:cx.Ok){c:Ct cx.ty}(hw:Wf cx c){s:SlD cx.ty}{u:Value}(h:RepLS cx c (some (.inr s)) u)(hd:∀ n∈rdn s,n∉c.D):∃ a cap,u=.slice a s.xs.length cap:=by
 unfold RepLS at h;by_cases h1:s.own=1
 ·have h2:s.nm∉c.D:=hd _ (by simp[rdn,h1]);simp only[h1,if_true,h2,if_false]at h;obtain⟨_,h⟩:=h;by_cases h3:s.nm∈c.F
  ·simp only[h3,if_true]at h;obtain⟨n,h⟩:=h;exact RepL_slice h
  ·simp only[h3,if_false]at h;obtain⟨tk,ht,_,hc,hu⟩:=h;rcases tJ ok hw ht hc with⟨h4,h5⟩ | ⟨g,cap,h4,_⟩
   ·exact⟨none,0,by rw[<-hu,h4,h5];rfl⟩
   ·exact⟨_,cap,by rw[<-hu,h4]⟩
 ·simp only[h1,if_false]at h;obtain⟨n,h⟩:=h;exact RepL_slice h
def eU (P:Program)(t:TypeId):Option Nat:=
 match P.underlying t with
 | some (.slice e)=>some e
 | _=>none
theorem fS {t e:Nat}(h:eU P t=some e):P.underlying t=some (.slice e):=by
 unfold eU at h;split at h
 ·simp only[aB]at h;subst h;assumption
 ·simp at h
theorem aJ7 {t e:Nat}(h:eU P t=some e)(ty:TypeId)(a:Option Addr)(n cap:Nat)(w:World):(Builtin.len_ #[t] ty #[.slice a n cap]).run P w=.ok (.int .i64 n) w:=by
 simp[Builtin.len_,run_underlying (fS h),goInt]
def aIF {β:Type}(P:Program)(o:Oper)(slots:List (V cx.ty))(t:TypeId)(x:Operand)(k:Eff cx.ty->Option β):Option β:=
 match dU slots x,eU P t with
 | .inl (.inl (some (.inr s))),some _=>k (fY (vv (.int .i64 s.xs.length)) (rdn s))
 | _,_=>pY P o slots k
theorem aIE (ok:cx.Ok){β:Type}{o:Oper}{slots:List (V cx.ty)}{nm0:Nat}{t:TypeId}{x:Operand}(ho:o.op=.call { callee:=.builtin .len,args:=#[x],argTypes:=#[t] }){k:Eff cx.ty->Option β}{r:β}
  (h:aIF P o slots t x k=some r):∃ ef,k ef=some r/\EffOK P cx o slots nm0 ef:=by
 unfold aIF at h;split at h
 ·rename_i s e hx he;refine⟨_,h,eC λc ρ hw hop hrd=>?_⟩;have hr:=hop x (by simp[ho,Op.operands,Call.operands]);rw[hx]at hr;obtain⟨a,cap,hu⟩:=RepLS_slice ok hw hr hrd;refine⟨.int .i64 s.xs.length,?_,rfl⟩;unfold execOp;simp only[ho,resolve,invoke,builtin,Sem.run_bind,Sem.run_pure,Result.andThen_ok,iC,cU,kR,hu,aJ7 he]
 ·exact kC h
def aEZ {β:Type}(slots:List (V cx.ty))(cc a b:Operand)(k:Eff cx.ty->Option β):Option β:=
 match dU slots cc with
 | .inl (.inl (some (.inl (.bool t))))=>bif t then k (fY (dU slots a) [])else k (fY (dU slots b) [])
 | _=>none
theorem aG5 {β:Type}{o:Oper}{slots:List (V cx.ty)}{nm0:Nat}{cc a b:Operand}(ho:o.op=.pick cc a b){k:Eff cx.ty->Option β}{r:β}
  (h:aEZ slots cc a b k=some r):∃ ef,k ef=some r/\EffOK P cx o slots nm0 ef:=by
 unfold aEZ at h;split at h
 ·rename_i t hx;have key:∀ y:Operand,y∈o.op.operands->(∀ (c:Ct cx.ty) (ρ:Operand->Value),(∀ x∈o.op.operands,RepV cx c (dU slots x) (ρ x))->(if t then ρ a else ρ b)=ρ y)->EffOK P cx o slots nm0 (fY (dU slots y) []):=λy hy he=>
   eC λc ρ hw hop _=>by
    have hc:ρ cc=.bool t:=by
     have:=hop cc (by simp[ho,Op.operands]);rw[hx]at this;exact this
    refine⟨ρ y,?_,hop y hy⟩;unfold execOp;simp only[ho,hc,asBool,Sem.run_bind,Sem.run_pure,Result.andThen_ok];rw[<-he c ρ hop]
  cases t with
  | true=>exact⟨_,h,key a (by simp[ho,Op.operands]) (λ_ _ _=>by simp)⟩
  | false=>exact⟨_,h,key b (by simp[ho,Op.operands]) (λ_ _ _=>by simp)⟩
 ·simp at h
def wI {β:Type}(slots:List (V cx.ty))(x:Operand)(i:Nat)(k:Eff cx.ty->Option β):Option β:=
 match dU slots x with
 | .inr (.inl l)=>match l[i]? with
  | some a=>k (fY (.inl a) [])
  | none=>none
 | _=>none
theorem aCS {β:Type}{o:Oper}{slots:List (V cx.ty)}{nm0:Nat}{x:Operand}{i:Nat}(ho:o.op=.extract x i){k:Eff cx.ty->Option β}{r:β}
  (h:wI slots x i k=some r):∃ ef,k ef=some r/\EffOK P cx o slots nm0 ef:=by
 unfold wI at h;split at h
 ·rename_i l hx;split at h
  ·rename_i a ha;refine⟨_,h,eC λc ρ hw hop _=>?_⟩;have hr:=hop x (by simp[ho,Op.operands]);rw[hx]at hr;obtain⟨us,hu,hl,hr⟩:=hr;have hlt:i < us.length:=by rw[hl];exact(aI.1 ha).1
   refine⟨us[i],?_,hr i a _ ha (aC hlt)⟩;unfold execOp;simp[ho,hu,Instr.extract,hlt]
  ·simp at h
 ·simp at h
def nT (P:Program)(t:TypeId):Bool:=
 match P.underlying t with
 | some (.struct _)=>true
 | some (.array _ _)=>true
 | _=>false
theorem oN {t:TypeId}{d:TypeDesc}(h:P.underlying t=some d)(w:World):(isAgg t).run P w=.ok (nT P t) w:=by
 simp only[isAgg,Sem.run_bind,run_underlying h,Result.andThen_ok,nT,h];cases d<;>rfl
def aCk (P:Program)(t:TypeId)(l:List (L cx.ty))(off:Nat):Option (A cx.ty):=
 match P.underlying t with
 | none=>none
 | some _=>if nT P t then(if off+P.cellsOf t<=l.length then some (.inr ((l.drop off).take (P.cellsOf t)))else none)else
  match l[off]? with
  | some a=>some (.inl a)
  | none=>none
theorem aC8 {t:TypeId}{d:TypeDesc}(h:P.underlying t=some d):∃ i,P.info? t=some i/\P.cellsOf t=i.size:=by
 unfold Program.underlying at h;cases hi:P.info? t with
 | none=>simp[hi]at h
 | some i=>exact⟨i,rfl,by simp[Program.cellsOf,hi]⟩
theorem eD {t:TypeId}{d:TypeDesc}(h:P.underlying t=some d)(w:World):(sizeOf t).run P w=.ok (P.cellsOf t) w:=by
 obtain⟨i,hi,_⟩:=aC8 h;exact run_sizeOf w hi
theorem RepLs.sub {c:Ct cx.ty}{l:List (L cx.ty)}{us:List Value}(h:RepLs cx c l us)(off n:Nat):RepLs cx c ((l.drop off).take n) ((us.drop off).take n):=by
 refine⟨by simp[h.1],λj a u h1 h2=>?_⟩;rw[bK]at h1 h2;split at h1
 ·rename_i hj;simp only[hj,if_true]at h2;rw[cL]at h1 h2;exact h.2 _ a u h1 h2
 ·simp at h1
theorem aHw {c:Ct cx.ty}{t:TypeId}{l:List (L cx.ty)}{off:Nat}{a:A cx.ty}{us:List Value}(h:RepLs cx c l us)(ha:aCk P t l off=some a)(w:World) :
  ∃ u,(part t us.toArray off).run P w=.ok u w/\RepA cx c a u:=by
 unfold aCk at ha;split at ha
 ·simp at ha
 ·rename_i d hd;unfold part;simp only[Sem.run_bind,oN hd,Result.andThen_ok];split at ha
  ·rename_i hg;split at ha
   ·rename_i hle;simp only[aB]at ha;subst ha;refine⟨.agg ((us.drop off).take (P.cellsOf t)).toArray,?_,_,rfl,h.sub off _⟩;simp only[hg,if_true,Sem.run_bind,eD hd,Result.andThen_ok,Sem.run_pure,List.extract_toArray,List.extract_eq_take_drop,pQ]
   ·simp at ha
  ·rename_i hg;split at ha
   ·rename_i b hb;simp only[aB]at ha;subst ha;have hlt:off < us.length:=by rw[h.1];exact(aI.1 hb).1
    refine⟨us[off],?_,h.2 off b _ hb (aC hlt)⟩;have hg':nT P t=false:=by simpa using hg
    simp[hg',hlt]
   ·simp at ha
def nR (P:Program)(t:TypeId)(i:Nat):Option Field:=
 match P.underlying t with
 | some (.struct fs)=>fs[i]?
 | _=>none
def aCR {β:Type}(P:Program)(slots:List (V cx.ty))(t:TypeId)(x:Operand)(i:Nat)(k:Eff cx.ty->Option β):Option β:=
 match dU slots x,nR P t i with
 | .inl (.inr l),some f=>match aCk P f.type l f.offset with
  | some a=>k (fY (.inl a) [])
  | none=>none
 | _,_=>none
theorem aE5 {β:Type}{o:Oper}{slots:List (V cx.ty)}{nm0:Nat}{t:TypeId}{x:Operand}{i:Nat}(ho:o.op=.field t x i){k:Eff cx.ty->Option β}{r:β}
  (h:aCR P slots t x i k=some r):∃ ef,k ef=some r/\EffOK P cx o slots nm0 ef:=by
 unfold aCR at h;split at h
 ·rename_i l f hx hf;split at h
  ·rename_i a ha;refine⟨_,h,eC λc ρ hw hop _=>?_⟩;have hr:=hop x (by simp[ho,Op.operands]);rw[hx]at hr;obtain⟨us,hu,hr⟩:=hr;obtain⟨u,hrun,hrep⟩:=aHw hr ha c.w;refine⟨u,?_,hrep⟩;unfold nR at hf;split at hf
   ·rename_i fs hfs;unfold execOp;simp only[ho,Instr.field,Sem.run_bind,run_underlying hfs,Result.andThen_ok,hf,hu,asAgg,Sem.run_pure,hrun]
   ·simp at hf
  ·simp at h
 ·simp at h
end
section
variable {cx : Cx} {P : Program}
def tY (P:Program)(cx:Cx)(e:Nat):Bool:=
 match P.underlying e with
 | some _=>P.cellsOf e == cx.size e
 | none=>false
theorem mB {e:Nat}(h:tY P cx e=true):(∃ d,P.underlying e=some d)/\P.cellsOf e=cx.size e:=by
 unfold tY at h;split at h
 ·exact⟨⟨_,by assumption⟩,by simpa using h⟩
 ·simp at h
theorem RepL_at {w:World}{S:Nat->Prop}{n:Nat}{s:SlD cx.ty}{u:Value}(h:RepL cx w S n (some (.inr s)) u){i:Nat}{x:cx.ty s.e}(hx:s.xs[i]?=some x) :
  ∃ b off cap,u=.slice (some ⟨b,off,none⟩) s.xs.length cap/\S b/\∃ m,∀ j l,(cx.enc s.e false x)[j]?=some l->∃ v,w.cell? ⟨b,off+i * cx.size s.e+j,none⟩=some v/\RepL cx w S m l v:=by
 cases n with
 | zero=>simp[RepL]at h
 | succ n=>
  obtain⟨a,cap,hu,_,h⟩:=h;rcases h with h | ⟨b,off,ha,hS,h⟩
  ·rw[h]at hx;simp at hx
  ·refine⟨b,off,cap,by rw[hu,ha],hS,n,λj l hl=>?_⟩;obtain⟨v,hv,hr⟩:=h i x hx j l hl;exact⟨v,by rw[gT];exact hv,hr⟩
def rF {β:Type}(P:Program)(slots:List (V cx.ty))(t:TypeId)(x ix:Operand)(k:Eff cx.ty->Option β):Option β:=
 match dU slots x,dU slots ix,eU P t with
 | .inl (.inl (some (.inr s))),.inl (.inl (some (.inl (.int _ i)))),some e=>
  if e == s.e&&tY P cx e then
   bif decide (0<=i)&&decide (i < s.xs.length)then
    k (fY (.inr (.inr { kind:=if s.own == 1 then 1 else 2,nm:=if s.own == 1 then s.nm else 0,cells:=[],s:=s,i:=i.toNat,off:=0 })) (rdn s))
   else none
  else none
 | _,_,_=>none
theorem aAN (ok:cx.Ok){β:Type}{o:Oper}{slots:List (V cx.ty)}{nm0:Nat}{t:TypeId}{x ix:Operand}(ho:o.op=.indexAddr t x ix){k:Eff cx.ty->Option β}{r:β}
  (h:rF P slots t x ix k=some r):∃ ef,k ef=some r/\EffOK P cx o slots nm0 ef:=by
 unfold rF at h;split at h
 ·rename_i s kk i e hx hix he;split at h
  ·rename_i hc;simp only[aJ,beq_iff_eq]at hc;obtain⟨rfl,hok⟩:=hc;obtain⟨⟨d,hd⟩,hsz⟩:=mB hok;cases hb:(decide (0<=i)&&decide (i < s.xs.length))with
   | false=>rw[hb]at h;simp at h
   | true=>
    rw[hb]at h;simp only[aJ,decide_eq_true_eq]at hb;obtain⟨hi0,hi1⟩:=hb;refine⟨_,h,eC λc ρ hw hop hrd=>?_⟩;have hr:=hop x (by simp[ho,Op.operands]);rw[hx]at hr;have hri:=hop ix (by simp[ho,Op.operands]);rw[hix]at hri;have hri:ρ ix=.int kk i:=hri;have hit:i.toNat < s.xs.length:=by omega
    obtain⟨y,hy⟩:∃ y,s.xs[i.toNat]?=some y:=⟨_,aC hit⟩
    have run:∀ (b off n cap:Nat),n=s.xs.length->ρ x=.slice (some ⟨b,off,none⟩) n cap->(execOp ρ o).run P c.w=.ok (.value (.pointer (some ⟨b,off+i.toNat * cx.size s.e,none⟩))) c.w:=by
     intro b off n cap hn hu;unfold execOp;have hlt:0<=i/\i < (n:Int):=⟨hi0,by omega⟩
     simp[ho,Instr.indexAt,hri,hu,asIntOf,run_underlying (fS he),hlt,eD hd,hsz,Addr.add_lit]
    have hr':RepLS cx c (some (.inr s)) (ρ x):=hr;unfold RepLS at hr';by_cases h1:s.own=1
    ·have h2:s.nm∉c.D:=hrd _ (by simp[rdn,h1]);simp only[h1,if_true,h2,if_false]at hr';obtain⟨_,hr'⟩:=hr';by_cases h3:s.nm∈c.F
     ·simp only[h3,if_true]at hr';obtain⟨n,hr'⟩:=hr';obtain⟨b,off,cap,hu,hS,m,hm⟩:=RepL_at hr' hy;refine⟨_,run b off _ cap rfl hu,?_⟩;show RepP cx c _ _;unfold RepP;simp only[h1,h2,h3,if_true,if_false,beq_self_eq_true];exact⟨b,off+i.toNat * cx.size s.e,rfl,hS,y,hy,m,hm⟩
     ·simp only[h3,if_false]at hr';obtain⟨tk,ht,hn,hc,hu⟩:=hr';rcases tJ ok hw ht hc with⟨_,h5⟩ | ⟨g,cap,h4,_⟩
      ·rw[h5]at hy;simp at hy
      ·refine⟨_,run g 0 _ cap rfl (by rw[<-hu,h4]),?_⟩;show RepP cx c _ _;unfold RepP;simp only[h1,h2,h3,if_true,if_false,beq_self_eq_true];exact⟨tk,ht,hn,hc,hit,g,_,cap,h4,by simp⟩
    ·simp only[h1,if_false]at hr';obtain⟨n,hr'⟩:=hr';obtain⟨b,off,cap,hu,hS,m,hm⟩:=RepL_at hr' hy;refine⟨_,run b off _ cap rfl hu,?_⟩;show RepP cx c _ _;have h1':(s.own == 1)=false:=by simpa using h1
     unfold RepP;simp only[h1',dF,if_false];exact⟨b,off+i.toNat * cx.size s.e,rfl,hS,y,hy,m,hm⟩
  ·simp at h
 ·simp at h
theorem aBL {Q:Nat->Value->Prop}:∀ (k:Nat),(∀ j,j < k->∃ v,Q j v)->∃ us:List Value,us.length=k/\∀ j v,us[j]?=some v->Q j v
 | 0,_=>⟨[],rfl,λj v h=>by simp at h⟩
 | k+1,h=>by
  obtain⟨us,hl,hq⟩:=aBL k (λj hj=>h j (by omega));obtain⟨v,hv⟩:=h k (by omega);refine⟨us++[v],by simp[hl],λj u hu=>?_⟩;by_cases hj:j < us.length
  ·rw[bM hj]at hu;exact hq j u hu
  ·rw[bJ (by omega)]at hu;have:j-us.length=0:=by
    have:=(aI.1 hu).1;simp at this;omega
   rw[this]at hu;simp only[aP,aB]at hu;subst hu;rw[show j=k by omega];exact hv
theorem aDU {c:Ct cx.ty}{t:TypeId}{l:List (L cx.ty)}{off:Nat}{a:A cx.ty}{w:World}{b o:Nat}(h:∀ j y,l[j]?=some y->∃ v,w.cell? ⟨b,o+j,none⟩=some v/\RepLS cx c y v)
  (ha:aCk P t l off=some a):∃ u,(loadVar t ⟨b,o+off,none⟩).run P w=.ok u w/\RepA cx c a u:=by
 unfold aCk at ha;split at ha
 ·simp at ha
 ·rename_i d hd;unfold loadVar;simp only[Sem.run_bind,oN hd,Result.andThen_ok];split at ha
  ·rename_i hg;split at ha
   ·rename_i hle;simp only[aB]at ha;subst ha;have hex:∀ j,j < P.cellsOf t->∃ v,w.cell? ⟨b,o+off+j,none⟩=some v/\∀ y,l[off+j]?=some y->RepLS cx c y v:=by
     intro j hj;have hlt:off+j < l.length:=by omega
     obtain⟨v,hv,hr⟩:=h (off+j) _ (aC hlt);refine⟨v,by rw[gT];exact hv,λy hy=>?_⟩;rw[aC hlt]at hy;simp only[aB]at hy;subst hy;exact hr
    obtain⟨us,hl,hq⟩:=aBL _ hex;have hrun:=run_loadCells_list (P:=P) w ⟨b,o+off,none⟩ us (λj v hv=>by simpa[Addr.add_lit]using(hq j v hv).1);rw[hl]at hrun;refine⟨.agg us.toArray,?_,us,rfl,?_,λj y u h1 h2=>?_⟩
    ·simp only[hg,if_true,Sem.run_bind,eD hd,Result.andThen_ok,hrun,Sem.run_pure]
    ·simp[hl];omega
    ·rw[bK]at h1;split at h1
     ·rw[cL]at h1;exact(hq j u h2).2 y h1
     ·simp at h1
   ·simp at ha
  ·rename_i hg;split at ha
   ·rename_i y hy;simp only[aB]at ha;subst ha;obtain⟨v,hv,hr⟩:=h off y hy;have hg':nT P t=false:=by simpa using hg
    refine⟨v,?_,hr⟩;simp[hg',hv]
   ·simp at ha
theorem aDH (ok:cx.Ok){c:Ct cx.ty}{e:Nat}{x:cx.ty e}{j:Nat}{l:L cx.ty}(hl:(cx.enc e false x)[j]?=some l){n:Nat}{v:Value}(h:RepL cx c.w (Rd c) n l v):RepLS cx c l v:=by
 rcases ok.leaf e false x l (bC hl)with⟨y,rfl,_⟩ | ⟨s,rfl,hs⟩
 ·cases n<;>simpa[RepL,RepLS]using h
 ·unfold RepLS;simp only[hs];simp;exact⟨n,h⟩
def pF (cx:Cx)(p:Pt cx.ty):List (L cx.ty):=
 match p.kind with
 | 0=>p.cells
 | _=>cx.enc p.s.e false (p.s.xs.getD p.i (cx.dflt p.s.e))
def vX {ty:Nat->Type}(p:Pt ty):List Nat:=
 match p.kind with
 | 1=>[p.nm]
 | _=>[]
def nY {ty:Nat->Type}(p:Pt ty):Bool:=decide (p.kind<=2)&&(p.kind != 0 || p.i == 0)&&(p.kind != 2 || p.nm == 0)
def aE3 {β:Type}(P:Program)(slots:List (V cx.ty))(t:TypeId)(x:Operand)(k:Eff cx.ty->Option β):Option β:=
 match dU slots x with
 | .inr (.inr p)=>if nY p then
   match aCk P t (pF cx p) p.off with
   | some a=>k (fY (.inl a) (vX p))
   | none=>none
  else none
 | _=>none
theorem zU (ok:cx.Ok){c:Ct cx.ty}(hw:Wf cx c){p:Pt cx.ty}{u:Value}(h:RepP cx c p u)(hk:nY p=true)(hd:∀ n∈vX p,n∉c.D) :
  ∃ b o,u=.pointer (some ⟨b,o+p.off,none⟩)/\∀ j y,(pF cx p)[j]?=some y->∃ v,c.w.cell? ⟨b,o+j,none⟩=some v/\RepLS cx c y v:=by
 have el:∀ (b o:Nat),RepEl cx c p.s p.i b o->∀ j y,(cx.enc p.s.e false (p.s.xs.getD p.i (cx.dflt p.s.e)))[j]?=some y->∃ v,c.w.cell? ⟨b,o+j,none⟩=some v/\RepLS cx c y v:=by
  rintro b o ⟨hb,x,hx,n,hr⟩ j y hy;have hxx:p.s.xs.getD p.i (cx.dflt p.s.e)=x:=by simp[List.getD,hx]
  rw[hxx]at hy;obtain⟨v,hv,hr⟩:=hr j y hy;exact⟨v,hv,aDH ok hy hr⟩
 unfold nY at hk;simp only[aJ,decide_eq_true_eq,gL,bne_iff_ne,ne_eq,beq_iff_eq]at hk;unfold RepP at h;split at h
 ·rename_i hk0;obtain⟨tk,ht,hn,hc,g,hu,hp⟩:=h;have hi0:p.i=0:=hk.1.2.resolve_left (λh=>h hk0);rw[hi0]at hp;have hp:u=.pointer (some ⟨g,p.off,none⟩):=hp;refine⟨g,0,by rw[hp];simp,λj y hy=>?_⟩;have hr:=hw.rep tk ht;unfold TokRep at hr;rw[hc]at hr;obtain⟨_,g',cur,e,hu',hh,hr⟩:=hr;rw[hu]at hu';simp only[Value.pointer.injEq,aB,Addr.mk.injEq]at hu';obtain⟨rfl,_⟩:=hu';simp only[pF,hk0]at hy;have hlt:j < cur.toList.length:=by rw[hr.1];exact(aI.1 hy).1
  refine⟨cur.toList[j],?_,hr.2 j y _ hy (aC hlt)⟩;rw[cell_of_row c.w g _ cur e (0,0) hh];simp at hlt;simp[hlt]
 ·rename_i hk1;have h2:p.nm∉c.D:=hd _ (by simp[vX,hk1]);simp only[pF,hk1];simp only[h2,if_false]at h;by_cases h3:p.nm∈c.F
  ·simp only[h3,if_true]at h;obtain⟨b,o,hu,h⟩:=h;exact⟨b,o,hu,el b o h⟩
  ·simp only[h3,if_false]at h;obtain⟨tk,ht,hn,hc,hi,g,n,cap,hu,hp⟩:=h;obtain⟨x,hx⟩:∃ x,p.s.xs[p.i]?=some x:=⟨_,aC hi⟩
   rcases tJ ok hw ht hc with⟨h4,_⟩ | ⟨g',cap',h4,_,hr⟩
   ·rw[hu]at h4;simp at h4
   ·rw[hu]at h4;simp only[Value.slice.injEq,aB,Addr.mk.injEq]at h4;obtain⟨⟨rfl,_⟩,_⟩:=h4;obtain⟨m,hr⟩:=hr p.i x hx;refine⟨g,p.i * cx.size p.s.e,hp,λj y hy=>?_⟩;have hxx:p.s.xs.getD p.i (cx.dflt p.s.e)=x:=by simp[List.getD,hx]
    rw[hxx]at hy;obtain⟨v,hv,hr⟩:=hr j y hy;exact⟨v,hv,aDH ok hy hr⟩
 ·rename_i hk2;simp only[pF,hk2];obtain⟨b,o,hu,h⟩:=h;rw[hk.2.resolve_left (λh=>h hk2)]at hu;exact⟨b,o,hu,el b o h⟩
 ·rename_i h0 h1 h2;have h0':p.kind≠0:=h0;have h1':p.kind≠1:=h1;have h2':p.kind≠2:=h2;omega
theorem aG7 (ok:cx.Ok){β:Type}{o:Oper}{slots:List (V cx.ty)}{nm0:Nat}{t:TypeId}{x:Operand}(ho:o.op=.load t x){k:Eff cx.ty->Option β}{r:β}
  (h:aE3 P slots t x k=some r):∃ ef,k ef=some r/\EffOK P cx o slots nm0 ef:=by
 unfold aE3 at h;split at h
 ·rename_i p hx;split at h
  ·rename_i hk;split at h
   ·rename_i a ha;refine⟨_,h,eC λc ρ hw hop hrd=>?_⟩;have hr:=hop x (by simp[ho,Op.operands]);rw[hx]at hr;obtain⟨b,o',hu,hc⟩:=zU ok hw hr hk hrd;obtain⟨u,hrun,hrep⟩:=aDU hc ha;refine⟨u,?_,hrep⟩;unfold execOp;simp only[ho,Instr.loadAt,Instr.sureAddr,hu,Sem.run_bind,Sem.run_pure,Result.andThen_ok,hrun]
   ·simp at h
  ·simp at h
 ·simp at h
def rG {β:Type}(P:Program)(slots:List (V cx.ty))(t:TypeId)(x:Operand)(i:Nat)(k:Eff cx.ty->Option β):Option β:=
 match dU slots x,nR P t i with
 | .inr (.inr p),some f=>if nY p&&(P.underlying f.type).isSome&&P.cellsOf f.type != 0 then
   k (fY (.inr (.inr { p with off:=p.off+f.offset })) (vX p))
  else none
 | _,_=>none
theorem aAO (ok:cx.Ok){β:Type}{o:Oper}{slots:List (V cx.ty)}{nm0:Nat}{t:TypeId}{x:Operand}{i:Nat}(ho:o.op=.fieldAddr t x i){k:Eff cx.ty->Option β}{r:β}
  (h:rG P slots t x i k=some r):∃ ef,k ef=some r/\EffOK P cx o slots nm0 ef:=by
 unfold rG at h;split at h
 ·rename_i p f hx hf;split at h
  ·rename_i hc;simp only[aJ,bne_iff_ne,ne_eq]at hc;obtain⟨⟨hk,hs⟩,hz⟩:=hc;refine⟨_,h,eC λc ρ hw hop hrd=>?_⟩;have hr:=hop x (by simp[ho,Op.operands]);rw[hx]at hr;have hr:RepP cx c p (ρ x):=hr;obtain⟨d,hd⟩:=cH.1 hs;obtain⟨b,o',hu,_⟩:=zU ok hw hr hk hrd;refine⟨.pointer (some ⟨b,o'+p.off+f.offset,none⟩),?_,?_⟩
   ·unfold nR at hf;split at hf
    ·rename_i fs hfs;unfold execOp;simp[ho,Instr.fieldAt,Instr.sureAddr,run_underlying hfs,hf,hu,fieldPlace,eD hd,hz,Addr.add_lit]
    ·simp at hf
   ·show RepP cx c _ _;unfold RepP at hr ⊢;rw[hu]at hr;split at hr<;>rename_i hk'
    ·obtain⟨tk,ht,hn,hc,g,hug,hp⟩:=hr;have hi0:p.i=0:=by
      unfold nY at hk;simp only[aJ,decide_eq_true_eq,gL,bne_iff_ne,ne_eq,beq_iff_eq]at hk;exact hk.1.2.resolve_left (λh=>h hk')
     rw[hi0]at hp;simp only[aGg,Value.pointer.injEq,aB,Addr.mk.injEq]at hp;simp only[hk'];exact⟨tk,ht,hn,hc,g,hug,by simp only[hi0,aGg];simp;try omega⟩
    ·have h2:p.nm∉c.D:=hrd _ (by simp[vX,hk']);simp only[hk',h2,if_false]at hr ⊢;by_cases h3:p.nm∈c.F
     ·simp only[h3,if_true]at hr ⊢;obtain⟨b',o'',hp,hr⟩:=hr;simp only[Value.pointer.injEq,aB,Addr.mk.injEq]at hp;exact⟨b',o'',by simp;try omega,hr⟩
     ·simp only[h3,if_false]at hr ⊢;obtain⟨tk,ht,hn,hc,hi,g,n,cap,hut,hp⟩:=hr;simp only[Value.pointer.injEq,aB,Addr.mk.injEq]at hp;exact⟨tk,ht,hn,hc,hi,g,n,cap,hut,by simp;try omega⟩
    ·have hnm:p.nm=0:=by
      unfold nY at hk;simp only[aJ,decide_eq_true_eq,gL,bne_iff_ne,ne_eq,beq_iff_eq]at hk;exact hk.2.resolve_left (λh=>h hk')
     simp only[hk'];obtain⟨b',o'',hp,hr⟩:=hr;rw[hnm]at hp;have hp:Value.pointer (some ⟨b,o'+p.off,none⟩)=.pointer (some ⟨b',o''+p.off,none⟩):=hp;simp only[Value.pointer.injEq,aB,Addr.mk.injEq]at hp;refine⟨b',o'',?_,hr⟩;show _=mvA p.nm b' _;rw[hnm];show _=Value.pointer _;simp;try omega
    ·rename_i h1 h2;unfold nY at hk;simp only[aJ,decide_eq_true_eq]at hk;have h0':p.kind≠0:=by assumption
     have h1':p.kind≠1:=by assumption
     have h2':p.kind≠2:=by assumption
     omega
  ·simp at h
 ·simp at h
end
open Go.RowKit
section
variable {cx : Cx} {P : Program}
theorem zV {c:Ct cx.ty}(h:Wf cx c){w':World}(hb:Below c.w.heap.size c.w w'){N:List (Tk cx.ty)}(hbd:∀ tk∈N,∀ b∈vb tk.u++tk.fp,c.w.heap.size<=b/\b < w'.heap.size){v:V cx.ty}{r:List Nat} :
  Pres cx c (c.nx (fY v r) w' (N++c.T)):=by
 refine⟨λb hr=>?_,λ_ h=>h,λ_ h=>h,λtk ht _ _=>aA.2 (.inr ht),λtk ht _ _=>aA.2 (.inr ht),λtk ht _ _ _ hf=>absurd hf (h.live tk ht).2⟩;obtain⟨h1,h2,h3⟩:=hr;refine⟨⟨cN h1 hb.size,h2,λtk ht hv=>?_⟩,hb.block b h1⟩;rcases aA.1 ht with ht | ht
 ·have:=(hbd tk ht b (aA.2 (.inl hv))).1;omega
 ·exact h3 tk ht hv
theorem rD {c:Ct cx.ty}(h:Wf cx c){w':World}(hb:Below c.w.heap.size c.w w')(hbase:∀ b,c.w.heap.size<=b->c.N b){N:List (Tk cx.ty)}{nm0:Nat}
  (hnm:∀ tk∈N,nm0<=tk.nm/\tk.nm < nm0+64) (hnd:(N.map (·.nm)).Nodup) (hfp:(N.flatMap λtk=>vb tk.u++tk.fp).Nodup)
  (hbd:∀ tk∈N,∀ b∈vb tk.u++tk.fp,c.w.heap.size<=b/\b < w'.heap.size)
  (hf:∀ n,Nm c n->¬ (nm0<=n/\n < nm0+64)) {v:V cx.ty} {r:List Nat} {u:Value}
  (hrep:∀ tk∈N,TokRep cx (c.nx (fY v r) w' (N++c.T)) tk) (hv:RepV cx (c.nx (fY v r) w' (N++c.T)) v u):Good cx c (fY v r) nm0 u w' (N++c.T):=by
 have hp:=zV (v:=v) (r:=r) h hb hbd;refine⟨⟨?_,?_,?_,?_,h.start,?_,λb hb'=>hbase b (dZ hb.size hb')⟩,hp,hv,gF hb hbase,?_⟩
 ·show((N++c.T).map (·.nm)).Nodup;rw[dN,aH];refine⟨hnd,h.names,λa ha b hb' he=>?_⟩;obtain⟨t1,h1,rfl⟩:=aM.1 ha;obtain⟨t2,h2,rfl⟩:=aM.1 hb';have h3:=hnm t1 h1;exact hf t2.nm (.inl ⟨t2,h2,rfl⟩) (by omega)
 ·show((N++c.T).flatMap _).Nodup;rw[bE,aH];refine⟨hfp,h.nodup,λa ha b hb' he=>?_⟩;obtain⟨t1,h1,h1'⟩:=bB.1 ha;obtain⟨t2,h2,h2'⟩:=bB.1 hb';have h3:=(hbd t1 h1 a h1').1;have h4:=(h.bound t2 h2 b h2').2;omega
 ·intro tk ht b hb';rcases aA.1 ht with ht | ht
  ·have:=hbd tk ht b hb';exact⟨by show c.N b;exact hbase b this.1,this.2⟩
  ·have:=h.bound tk ht b hb';exact⟨this.1,cN this.2 hb.size⟩
 ·intro tk ht;rcases aA.1 ht with ht | ht
  ·exact hrep tk ht
  ·exact TokRep.pres cx hp (λb hb'=>hb.block b (h.bound tk ht b hb').2) (h.rep tk ht)
 ·intro tk ht;rcases aA.1 ht with ht | ht
  ·have h3:=hnm tk ht;exact⟨λhd=>hf _ (.inr (.inl hd)) h3,λhd=>hf _ (.inr (.inr hd)) h3⟩
  ·exact h.live tk ht
 ·intro n hn;rcases hn with⟨tk,ht,rfl⟩ | hn | hn
  ·rcases aA.1 ht with ht | ht
   ·exact .inr (hnm tk ht)
   ·exact .inl (.inl ⟨tk,ht,rfl⟩)
  ·exact .inl (.inr (.inl hn))
  ·exact .inl (.inr (.inr hn))
def HalfL (cx:Cx)(w:World)(S:Nat->Prop)(s:SlD cx.ty)(u:Value)(fp:List Nat):Prop:=
 fp=u.ownBlock.toList/\∃ us n,w.ownsRow 0 s.e (cx.size s.e) u s.xs.length us/\us.length=(s.xs.flatMap (cx.enc s.e false)).length ∧
  ∀ (j:Nat) l v,(s.xs.flatMap (cx.enc s.e false))[j]?=some l->us[j]?=some v->RepL cx w S n l v
theorem HalfL.slice {w:World}{S:Nat->Prop}{s:SlD cx.ty}{u:Value}{f:List Nat}(h:HalfL cx w S s u f):vb u=u.ownBlock.toList/\∃ a k cap,u=.slice a k cap:=by
 obtain⟨_,us,n,hrow,_⟩:=h;rcases hrow.2 with⟨hu,_⟩ | ⟨g,cap,cur,hu,_⟩
 ·rw[hu];exact⟨rfl,_,_,_,rfl⟩
 ·rw[hu];exact⟨rfl,_,_,_,rfl⟩
theorem HalfL.mono {w w':World}{S S':Nat->Prop}{s:SlD cx.ty}{u:Value}{f:List Nat}(hw:∀ b,S b->w'.heap[b]?=w.heap[b]?)(hf:∀ b∈f,w'.heap[b]?=w.heap[b]?)(hS:∀ b,S b->S' b)(h:HalfL cx w S s u f):HalfL cx w' S' s u f:=by
 obtain⟨hfp,us,n,⟨hx,hc⟩,hl,h⟩:=h;refine⟨hfp,us,n,⟨hx,?_⟩,hl,λj l v h1 h2=>RepL_mono cx hw hS _ _ _ (h j l v h1 h2)⟩;rcases hc with hc | ⟨g,cap,cur,hv,hg,hh,hr⟩
 ·exact .inl hc
 ·refine .inr ⟨g,cap,cur,hv,hg,?_,hr⟩;rw[hf g (by rw[hfp,hv];simp[Value.ownBlock])];exact hh
def ResL (cx:Cx)(w:World)(S:Nat->Prop)(l:L cx.ty)(u:Value)(fp:List Nat):Prop:=
 match l with
 | none=>False
 | some (.inl v)=>u=v/\fp=[]
 | some (.inr s)=>if s.own=2 then s.o=true/\∃ n,OwnL cx w n (some (.inr s)) u fp else if s.own=4 then s.o=false/\HalfL cx w S s u fp else s.own=0/\fp=[]/\∃ n,RepL cx w S n (some (.inr s)) u
def ResLs (cx:Cx)(w:World)(S:Nat->Prop)(l:List (L cx.ty))(us:List Value)(fps:List (List Nat)):Prop:=
 us.length=l.length/\fps.length=l.length/\∀ (j:Nat) a u f,l[j]?=some a->us[j]?=some u->fps[j]?=some f->ResL cx w S a u f
def ResA (cx:Cx)(w:World)(S:Nat->Prop)(a:A cx.ty)(u:Value)(fp:List Nat):Prop:=
 match a with
 | .inl l=>ResL cx w S l u fp
 | .inr l=>∃ us fps,u=.agg (List.toArray us)/\fp=List.flatten fps/\ResLs cx w S l us fps
def ResAs (cx:Cx)(w:World)(S:Nat->Prop)(l:List (A cx.ty))(us:List Value)(fps:List (List Nat)):Prop:=
 us.length=l.length/\fps.length=l.length/\∀ (j:Nat) a u f,l[j]?=some a->us[j]?=some u->fps[j]?=some f->ResA cx w S a u f
def ResV (cx:Cx)(w:World)(A0 N:Nat->Prop)(r:V cx.ty)(u:Value):Prop:=
 ∃ fp:List Nat,fp.Nodup/\(∀ b∈fp,N b/\b < w.heap.size) ∧
  match r with
  | .inl a=>ResA cx w (λb=>A0 b\/(N b/\b < w.heap.size/\b∉fp)) a u fp
  | .inr (.inl l)=>∃ us fps,u=.tuple (List.toArray us)/\fp=List.flatten fps/\ResAs cx w (λb=>A0 b\/(N b/\b < w.heap.size/\b∉fp)) l us fps
  | _=>False
def ArgL (cx:Cx)(w:World)(A0:Nat->Prop)(l:L cx.ty)(u:Value):Prop:=
 match l with
 | none=>False
 | some (.inl v)=>u=v
 | some (.inr s)=>s.own=0/\∃ n,RepL cx w A0 n (some (.inr s)) u
def PtS (cx:Cx)(w:World)(S:Nat->Prop)(s:SlD cx.ty)(u:Value):Prop:=∃ g off,u=mvA s.nm g off/\S g/\∃ x,s.xs[0]?=some x/\∃ n,∀ j l,(cx.enc s.e false x)[j]?=some l->∃ v,w.cell? ⟨g,off+j,none⟩=some v/\RepL cx w S n l v
theorem PtS.mono {w w':World}{S S':Nat->Prop}(hS:∀ b,S b->S' b)(hw:∀ b,S b->w'.heap[b]?=w.heap[b]?){s:SlD cx.ty}{u:Value}(h:PtS cx w S s u):PtS cx w' S' s u:=by
 obtain⟨g,off,hu,hg,x,hx,n,hn⟩:=h;refine⟨g,off,hu,hS g hg,x,hx,n,λj l hl=>?_⟩;obtain⟨v,h1,h2⟩:=hn j l hl;exact⟨v,by rw[World.cell?_of_block (hw g hg)];exact h1,RepL_mono cx hw hS _ _ _ h2⟩
def uY {ty:Nat->Type}:L ty->Bool
 | some (.inr s)=>s.own == 3
 | _=>false
def ArgP (cx:Cx)(w:World)(A0:Nat->Prop)(l:L cx.ty)(u:Value):Prop:=match l with
 | some (.inr s)=>PtS cx w A0 s u
 | _=>False
def ArgA (cx:Cx)(w:World)(A0:Nat->Prop)(a:A cx.ty)(u:Value):Prop:=
 match a with
 | .inl l=>if uY l=true then ArgP cx w A0 l u else ArgL cx w A0 l u
 | .inr l=>∃ us:List Value,u=.agg us.toArray/\us.length=l.length/\∀ (j:Nat) a u,l[j]?=some a->us[j]?=some u->ArgL cx w A0 a u
def ArgAs (cx:Cx)(w:World)(A0:Nat->Prop)(l:List (A cx.ty))(us:List Value):Prop:=
 us.length=l.length/\∀ (j:Nat) a u,l[j]?=some a->us[j]?=some u->ArgA cx w A0 a u
theorem ArgA.leaf {w:World}{A0:Nat->Prop}{l:L cx.ty}{u:Value}(hp:uY l=false)(h:ArgL cx w A0 l u):ArgA cx w A0 (.inl l) u:=by
 show if uY l=true then ArgP cx w A0 l u else ArgL cx w A0 l u
 rw[if_neg (by rw[hp];decide)];exact h
theorem ArgA.atPt {w:World}{A0:Nat->Prop}{s:SlD cx.ty}{u:Value}(hp:s.own=3):ArgA cx w A0 (.inl (some (.inr s))) u=PtS cx w A0 s u:=by
 show(if uY (some (.inr s):L cx.ty)=true then ArgP cx w A0 (some (.inr s)) u else ArgL cx w A0 (some (.inr s)) u)=_;rw[if_pos (by simp[uY,hp])]
 rfl
theorem ArgA.atLeaf {w:World}{A0:Nat->Prop}{l:L cx.ty}{u:Value}(hp:uY l=false):ArgA cx w A0 (.inl l) u=ArgL cx w A0 l u:=by
 show(if uY l=true then ArgP cx w A0 l u else ArgL cx w A0 l u)=_;rw[if_neg (by rw[hp];decide)]
theorem ArgL.mono {w w':World}{S S':Nat->Prop}(hS:∀ b,S b->S' b)(hw:∀ b,S b->w'.heap[b]?=w.heap[b]?){l:L cx.ty}{u:Value}(h:ArgL cx w S l u):ArgL cx w' S' l u:=by
 unfold ArgL at h ⊢;split at h
 ·exact h
 ·exact h
 ·obtain⟨h1,n,h2⟩:=h;exact⟨h1,n,RepL_mono cx hw hS _ _ _ h2⟩
theorem ArgA.mono {w w':World}{S S':Nat->Prop}(hS:∀ b,S b->S' b)(hw:∀ b,S b->w'.heap[b]?=w.heap[b]?){a:A cx.ty}{u:Value}(h:ArgA cx w S a u):ArgA cx w' S' a u:=by
 match a,h with
 | .inl none,h=>exact h
 | .inl (some (.inl v)),h=>exact h
 | .inl (some (.inr s)),h=>
  by_cases h3:s.own=3
  ·rw[ArgA.atPt h3]at h ⊢;exact PtS.mono hS hw h
  ·have hp:uY (some (.inr s):L cx.ty)=false:=by simp[uY,h3]
   rw[ArgA.atLeaf hp]at h ⊢;exact ArgL.mono hS hw h
 | .inr l,⟨us,hu,hl,hv⟩=>exact⟨us,hu,hl,λj a u h1 h2=>ArgL.mono hS hw (hv j a u h1 h2)⟩
def Sat (P:Program)(cx:Cx)(f:FuncId)(F:List (A cx.ty)->Option (Bool×V cx.ty)):Prop:=
 ∀ (w:World) (A0:Nat->Prop) (l:List (A cx.ty)) (us:List Value) (r:V cx.ty),(∀ b,A0 b->b < w.heap.size)->ArgAs cx w A0 l us->F l=some (true,r)->
  Calls P f us.toArray w (λe w'=>∃ u,e=.returned u/\Below w.heap.size w w'/\ResV cx w' A0 (λb=>w.heap.size<=b) r u)
end
section
variable {cx : Cx} {P : Program}
def kM (P:Program):Nat->TypeId->List TypeId
 | 0,t=>[t]
 | n+1,t=>match P.underlying t with
  | some (.struct fs)=>fs.toList.flatMap (λf=>kM P n f.type)
  | some (.array k e)=>(List.replicate k (kM P n e)).flatten
  | _=>[t]
def aHf {ty:Nat->Type}(P:Program)(t:TypeId)(l:L ty):Option (L ty×List Nat):=
 match l with
 | some (.inl (.slice none 0 0))=>match eU P t with
  | some e=>some (ls (ro e []),[])
  | none=>none
 | some (.inl v)=>some (lv v,[])
 | some (.inr s)=>some (ls (ro s.e s.xs),rdn s)
 | none=>none
def xJ {ty:Nat->Type}(P:Program):List TypeId->List (L ty)->Option (List (L ty)×List Nat)
 | t::ts,l::r=>match aHf P t l,xJ P ts r with
  | some (a,n),some (as,ns)=>some (a::as,n++ns)
  | _,_=>none
 | [],[]=>some ([],[])
 | _,_=>none
def aNW {ty:Nat->Type}(P:Program)(t:TypeId)(a:A ty):Option (A ty×List Nat):=
 match a with
 | .inl l=>match aHf P t l with
  | some (a,n)=>some (.inl a,n)
  | none=>none
 | .inr l=>match xJ P (kM P 8 t) l with
  | some (as,n)=>some (.inr as,n)
  | none=>none
def aC5 (cx:Cx)(e:Nat):Nat->List (L cx.ty)->Option (List (cx.ty e))
 | 0,[]=>some []
 | 0,_::_=>none
 | n+1,l=>match cx.dec e (l.take (cx.size e)),aC5 cx e n (l.drop (cx.size e))with
  | some x,some xs=>some (x::xs)
  | _,_=>none
theorem oX (ok:cx.Ok){e:Nat}(o:Bool):∀ (n:Nat) (l:List (L cx.ty)) (xs:List (cx.ty e)),aC5 cx e n l=some xs->xs.length=n/\l.map (weak o)=xs.flatMap (cx.enc e o)
 | 0,[],xs,h=>by simp only[aC5,aB]at h;subst h;exact⟨rfl,rfl⟩
 | 0,_::_,xs,h=>by simp[aC5]at h
 | n+1,l,xs,h=>by
  simp only[aC5]at h;split at h
  ·rename_i x ys h1 h2;simp only[aB]at h;subst h;obtain⟨h3,h4⟩:=oX ok o n _ ys h2;refine⟨by simp[h3],?_⟩;rw[aR,<-ok.dec e _ x o h1,<-h4,<-dN,dH]
  ·simp at h
def aMk (P:Program)(cx:Cx)(t:TypeId)(p:Pt cx.ty):Option (A cx.ty):=
 match eU P t with
 | some e=>if p.kind == 0&&decide (1 < p.i)&&cx.flat e&&cx.size e == 1&&decide (p.off+(p.i-1)<=p.cells.length)then
   match aC5 cx e (p.i-1) ((p.cells.drop p.off).take (p.i-1))with
   | some xs=>some (.inl (some (.inr (ro e xs))))
   | none=>none
  else none
 | none=>none
def ptE (P:Program)(t:TypeId):Option TypeId:=
 match P.underlying t with
 | some (.pointer e)=>some e
 | some (.struct _)=>some t
 | _=>none
def aQL (P:Program)(f:FuncId):Option TypeId:=
 match P.funcs[f]? with
 | some fn=>match fn.params[0]? with
  | some t=>ptE P t
  | none=>none
 | none=>none
def ptB (P:Program)(cx:Cx)(e:TypeId)(tag off:Nat)(p:Pt cx.ty):Option (A cx.ty×List Nat):=
 match xJ P (kM P 8 e) ((p.cells.drop off).take (kM P 8 e).length)with
 | some (ls,n)=>match cx.dec e ls with
  | some x=>some (.inl (some (.inr { own:=3,nm:=tag,e:=e,o:=false,xs:=[x] })),p.nm::n)
  | none=>none
 | none=>none
def ptI (P:Program)(cx:Cx)(t:TypeId)(p:Pt cx.ty):Option (A cx.ty×List Nat):=
 if p.nm == 0 then
  match ptE P t with
  | some e=>if decide (cx.size e < cx.size p.s.e)then
    match cx.dec e (((cx.enc p.s.e false (p.s.xs.getD p.i (cx.dflt p.s.e))).drop p.off).take (cx.size e))with
    | some y=>some (.inl (some (.inr { own:=3,nm:=0,e:=e,o:=false,xs:=[y] })),[])
    | none=>none
   else none
  | none=>none
 else none
def ptA (P:Program)(cx:Cx)(t:TypeId)(p:Pt cx.ty):Option (A cx.ty×List Nat):=
  match p.kind with
  | 0=>if p.i == 0 then
      (match ptE P t with
       | some e=>ptB P cx e 0 p.off p
       | none=>none)
    else if p.i == 1 then
      (match aQL P p.off with
       | some e=>ptB P cx e (p.off+1) 0 p
       | none=>none)
    else none
  | 2=>match ptI P cx t p with
    | some r=>some r
    | none=>if p.off == 0 then some (.inl (some (.inr { own:=3,nm:=p.nm,e:=p.s.e,o:=false,xs:=[p.s.xs.getD p.i (cx.dflt p.s.e)] })),[])else none
  | _=>none
def tC (P:Program)(cx:Cx):List TypeId->List (V cx.ty)->Option (List (A cx.ty)×List Nat)
 | t::ts,.inl a::r=>match aNW P t a,tC P cx ts r with
  | some (a,n),some (as,ns)=>some (a::as,n++ns)
  | _,_=>none
 | t::ts,.inr (.inr p)::r=>match aMk P cx t p,tC P cx ts r with
  | some a,some (as,ns)=>some (a::as,p.nm::ns)
  | none,some (as,ns)=>match ptA P cx t p with
   | some (a,n)=>some (a::as,n++ns)
   | none=>none
  | _,_=>none
 | [],[]=>some ([],[])
 | _,_=>none
def All (c:Ct cx.ty)(b:Nat):Prop:=b < c.w.heap.size/\(c.S b\/c.N b)
theorem aCi (ok:cx.Ok){c:Ct cx.ty}(h:Wf cx c){tk:Tk cx.ty}(ht:tk∈c.T){s:SlD cx.ty}(hc:tk.c=.inl s){S:Nat->Prop}(hS:∀ b,Rd c b->S b)(hv:∀ b∈vb tk.u,S b):∃ n,RepL cx c.w S n (some (.inr s)) tk.u:=by
 rcases tJ ok h ht hc with⟨h1,h2⟩ | ⟨g,cap,h1,hcap,h2⟩
 ·exact⟨1,none,0,by rw[h1,h2];rfl,by rw[h2];exact aK _,.inl h2⟩
 ·have hg:S g:=hv g (by rw[h1];simp[vb]);have hun:∀ k,∃ N,∀ i x,i < k->s.xs[i]?=some x->∀ j l,(cx.enc s.e false x)[j]?=some l->∃ v,c.w.cell? ⟨g,i * cx.size s.e+j,none⟩=some v/\RepL cx c.w S N l v:=by
   intro k
   induction k with
   | zero=>exact⟨0,λi x hi=>by omega⟩
   | succ k ih=>
    obtain⟨N,hN⟩:=ih;by_cases hk:k < s.xs.length
    ·obtain⟨m,hm⟩:=h2 k _ (aC hk);have up:∀ d n (l:L cx.ty) u,RepL cx c.w S n l u->RepL cx c.w S (n+d) l u:=by
      intro d
      induction d with
      | zero=>intro n l u hh;exact hh
      | succ d ihd=>intro n l u hh;exact RepL_succ cx _ _ _ (ihd n l u hh)
     refine⟨N+m,λi x hi hx j l hl=>?_⟩;by_cases hik:i < k
     ·obtain⟨v,hv,hr⟩:=hN i x hik hx j l hl;exact⟨v,hv,up m N l v hr⟩
     ·have:i=k:=by omega
      subst this;rw[aC hk]at hx;simp only[aB]at hx;subst hx;obtain⟨v,hv,hr⟩:=hm j l hl;refine⟨v,hv,?_⟩;rw[fX];exact up N m l v (RepL_mono cx (λ_ _=>rfl) hS m l v hr)
    ·refine⟨N,λi x hi hx=>?_⟩;have:i < s.xs.length:=(aI.1 hx).1;exact hN i x (by omega) hx
  obtain⟨N,hN⟩:=hun s.xs.length;refine⟨N+1,some ⟨g,0,none⟩,cap,h1,hcap,.inr ⟨g,0,rfl,hg,λi x hx j l hl=>?_⟩⟩;obtain⟨v,hv,hr⟩:=hN i x (aI.1 hx).1 hx j l hl;exact⟨v,by simpa using hv,hr⟩
theorem aJu (ok:cx.Ok){c:Ct cx.ty}(h:Wf cx c){tk:Tk cx.ty}(ht:tk∈c.T){s:SlD cx.ty}(hc:tk.c=.inl s):∃ n,RepL cx c.w (All c) n (some (.inr s)) tk.u:=
 aCi ok h ht hc (λb hb=>⟨hb.1,hb.2.1⟩) (λb hb=>by
  have:=h.bound tk ht b (aA.2 (.inl hb));exact⟨this.2,.inr this.1⟩)
theorem aEr (ok:cx.Ok){c:Ct cx.ty}(hw:Wf cx c){t:TypeId}{l l':L cx.ty}{n:List Nat}(ha:aHf P t l=some (l',n)){u:Value}(h:RepLS cx c l u)(hd:∀ k∈n,k∉c.D) :
  ArgL cx c.w (All c) l' u/\(n=[]->ArgL cx c.w (Rd c) l' u):=by
 unfold aHf at ha;split at ha
 ·split at ha
  ·rename_i e he;simp only[aB,aY]at ha;obtain⟨rfl,rfl⟩:=ha;have h:u=.slice none 0 0:=h;subst h;exact⟨⟨rfl,1,none,0,rfl,aK _,.inl rfl⟩,λ_=>⟨rfl,1,none,0,rfl,aK _,.inl rfl⟩⟩
  ·simp at ha
 ·simp only[aB,aY]at ha;obtain⟨rfl,rfl⟩:=ha;exact⟨h,λ_=>h⟩
 ·rename_i s;simp only[aB,aY]at ha;obtain⟨rfl,rfl⟩:=ha;have flip:∀ (S:Nat->Prop) m,RepL cx c.w S m (some (.inr s)) u->RepL cx c.w S m (some (.inr (ro s.e s.xs))) u:=by
   intro S m hm;cases m with
   | zero=>simp[RepL]at hm
   | succ m=>exact hm
  unfold RepLS at h;by_cases h1:s.own=1
  ·have h2:s.nm∉c.D:=hd _ (by simp[rdn,h1]);simp only[h1,if_true,h2,if_false]at h;obtain⟨_,h⟩:=h;refine⟨?_,λhn=>by simp[rdn,h1]at hn⟩;by_cases h3:s.nm∈c.F
   ·simp only[h3,if_true]at h;obtain⟨m,h⟩:=h;exact⟨rfl,m,flip _ _ (RepL_mono cx (λ_ _=>rfl) (λb hb=>⟨hb.1,hb.2.1⟩) m _ u h)⟩
   ·simp only[h3,if_false]at h;obtain⟨tk,ht,_,hc,hu⟩:=h;obtain⟨m,hm⟩:=aJu ok hw ht hc;rw[hu]at hm;exact⟨rfl,m,flip _ _ hm⟩
  ·simp only[h1,if_false]at h;obtain⟨m,h⟩:=h;exact⟨⟨rfl,m,flip _ _ (RepL_mono cx (λ_ _=>rfl) (λb hb=>⟨hb.1,hb.2.1⟩) m _ u h)⟩,λ_=>⟨rfl,m,flip _ _ h⟩⟩
 ·simp at ha
theorem aHe {t:TypeId}{l l':L cx.ty}{n:List Nat}(ha:aHf P t l=some (l',n)):uY l'=false:=by
 unfold aHf at ha;split at ha
 ·split at ha
  ·simp only[aB,aY]at ha;obtain⟨rfl,rfl⟩:=ha;rfl
  ·simp at ha
 ·simp only[aB,aY]at ha;obtain⟨rfl,rfl⟩:=ha;rfl
 ·simp only[aB,aY]at ha;obtain⟨rfl,rfl⟩:=ha;rfl
 ·simp at ha
theorem wM (ok:cx.Ok){c:Ct cx.ty}(hw:Wf cx c):∀ (ts:List TypeId) (l l':List (L cx.ty)) (n:List Nat) (us:List Value),xJ P ts l=some (l',n)->RepLs cx c l us->(∀ k∈n,k∉c.D)->
  us.length=l'.length/\(∀ (j:Nat) a u,l'[j]?=some a->us[j]?=some u->ArgL cx c.w (All c) a u/\(n=[]->ArgL cx c.w (Rd c) a u))
 | [],[],l',n,us,ha,h,_=>by
  simp only[xJ,aB,aY]at ha;obtain⟨rfl,rfl⟩:=ha;exact⟨h.1,λj a u h1=>by simp at h1⟩
 | t::ts,l::r,l',n,us,ha,h,hd=>by
  simp only[xJ]at ha;split at ha
  ·rename_i a n1 as ns e1 e2;simp only[aB,aY]at ha;obtain⟨rfl,rfl⟩:=ha
   match us,h with
   | [],h=>simp[RepLs]at h
   | u::us,h=>
    have k1:=aEr ok hw e1 (h.2 0 l u rfl rfl) (λk hk=>hd k (aA.2 (.inl hk)));have k2:=wM ok hw ts r as ns us e2 ⟨by have:=h.1;simpa using this,λj a b h1 h2=>h.2 (j+1) a b (by simpa using h1) (by simpa using h2)⟩ (λk hk=>hd k (aA.2 (.inr hk)));refine⟨by simp[k2.1],λj a' u' h1 h2=>?_⟩;cases j with
    | zero=>
     simp only[aP,aB]at h1 h2;subst h1;subst h2;exact⟨k1.1,λhn=>k1.2 (jK.1 hn).1⟩
    | succ j=>
     have:=k2.2 j a' u' (by simpa using h1) (by simpa using h2);exact⟨this.1,λhn=>this.2 (jK.1 hn).2⟩
  ·simp at ha
 | [],_::_,_,_,_,ha,_,_=>by simp[xJ]at ha
 | _::_,[],_,_,_,ha,_,_=>by simp[xJ]at ha
theorem aI6 (ok:cx.Ok){c:Ct cx.ty}(hw:Wf cx c){t:TypeId}{a a':A cx.ty}{n:List Nat}(ha:aNW P t a=some (a',n)){u:Value}(h:RepA cx c a u)(hd:∀ k∈n,k∉c.D) :
  ArgA cx c.w (All c) a' u/\(n=[]->ArgA cx c.w (Rd c) a' u):=by
 unfold aNW at ha;split at ha
 ·split at ha
  ·rename_i a n e1;simp only[aB,aY]at ha;obtain⟨rfl,rfl⟩:=ha;have hp:=aHe e1;have:=aEr ok hw e1 h hd;exact⟨ArgA.leaf hp this.1,λhn=>ArgA.leaf hp (this.2 hn)⟩
  ·simp at ha
 ·split at ha
  ·rename_i as n e1;simp only[aB,aY]at ha;obtain⟨rfl,rfl⟩:=ha;obtain⟨us,hu,h⟩:=h;have:=wM ok hw _ _ _ _ us e1 h hd;exact⟨⟨us,hu,this.1,λj a u h1 h2=>(this.2 j a u h1 h2).1⟩,λhn=>⟨us,hu,this.1,λj a u h1 h2=>(this.2 j a u h1 h2).2 hn⟩⟩
  ·simp at ha
theorem aHl (ok:cx.Ok){c:Ct cx.ty}(hw:Wf cx c){t:TypeId}{p:Pt cx.ty}{a:A cx.ty}(ha:aMk P cx t p=some a){u:Value}(h:RepP cx c p u):ArgA cx c.w (All c) a u:=by
 unfold aMk at ha;split at ha
 ·rename_i e he;split at ha
  ·rename_i hc;simp only[aJ,beq_iff_eq,decide_eq_true_eq]at hc;obtain⟨⟨⟨⟨hk0,hi⟩,hflat⟩,hsz⟩,hfit⟩:=hc;split at ha
   ·rename_i xs hxs;simp only[aB]at ha;subst ha;obtain⟨m,hm⟩:∃ m,p.i=m+1:=⟨p.i-1,by omega⟩
    rw[hm]at hxs hfit;simp only[iH]at hxs hfit;unfold RepP at h;simp only[hk0,hm]at h;obtain⟨tk,ht,hnm,hcc,g,htu,hpa⟩:=h;have hpa:u=.slice (some ⟨g,p.off,none⟩) m m:=hpa.trans (aHb (by omega));have htr:=hw.rep tk ht;unfold TokRep at htr;rw[hcc]at htr;obtain⟨hfp,g',cur,et,hu',hh,hcells⟩:=htr;rw[htu]at hu';simp only[Value.pointer.injEq,aB,Addr.mk.injEq]at hu';obtain⟨rfl,_⟩:=hu';have hgv:g∈vb tk.u:=by rw[htu];simp[vb]
    have hgb:=hw.bound tk ht g (aA.2 (.inl hgv));obtain⟨hxl,hxw⟩:=oX ok false m _ xs hxs;refine ArgA.leaf rfl ⟨rfl,2,some ⟨g,p.off,none⟩,m,by rw[hpa,<-hxl];rfl,by show xs.length<=m;omega,.inr ⟨g,p.off,rfl,⟨hgb.2,.inr hgb.1⟩,λi y hy j l hl=>?_⟩⟩;have hl:(cx.enc e false y)[j]?=some l:=hl;have hy:xs[i]?=some y:=hy;have hj:j < 1:=by
     have h8:=(aI.1 hl).1;have h9:(cx.enc e false y).length=cx.size e:=ok.len e false y;omega
    have hfg:=gS (cx.enc e false) 1 (λx=>by rw[ok.len,hsz]) xs i y hy j hj;rw[<-hxw,hl,aX]at hfg;obtain⟨v,hv⟩:=ok.flat e false y hflat l (bC hl);subst hv;cases hl0:((p.cells.drop p.off).take m)[i * 1+j]? with
    | none=>rw[hl0]at hfg;simp at hfg
    | some l0=>
     rw[hl0]at hfg;simp only[aD,aB]at hfg;have hl1:l0=some (.inl v):=by
      unfold weak at hfg;split at hfg
      ·simp at hfg
      ·exact hfg
     have hlm:i * 1+j < m:=by
      have:=(aI.1 hl0).1;simp at this;omega
     have hl2:p.cells[p.off+(i * 1+j)]?=some l0:=by
      rw[List.getElem?_take_of_lt hlm,cL]at hl0;exact hl0
     have hlt:p.off+(i * 1+j) < cur.toList.length:=by
      rw[hcells.1];exact(aI.1 hl2).1
     have hcv:=hcells.2 _ l0 _ hl2 (aC hlt);rw[hl1]at hcv;have hcv:cur.toList[p.off+(i * 1+j)]=v:=hcv;refine⟨v,?_,rfl⟩;show c.w.cell? ⟨g,p.off+(i * cx.size e+j),none⟩=some v;rw[hsz];simp only[World.cell?,hh];simp only[<-hcv];simp
   ·simp at ha
  ·simp at ha
 ·simp at ha
theorem RepL_upTo {w:World}{S:Nat->Prop}(d:Nat):∀ {n:Nat} {l:L cx.ty} {u:Value},RepL cx w S n l u->RepL cx w S (n+d) l u:=by
 induction d with
 | zero=>intro n l u h;exact h
 | succ d ih=>intro n l u h;exact RepL_succ cx _ _ _ (ih h)
theorem aBz {w:World}{S:Nat->Prop}{n:Nat}{l:L cx.ty}{u:Value}(h:RepL cx w S n l u):RepL cx w S n (weak false l) u:=by
 match n,l,h with
 | _,none,h=>exact h
 | _,some (.inl _),h=>exact h
 | 0,some (.inr _),h=>simp[RepL]at h
 | n+1,some (.inr s),h=>exact h
theorem ArgL.toRepL {w:World}{S:Nat->Prop}{l:L cx.ty}{u:Value}(h:ArgL cx w S l u):∃ n,RepL cx w S n l u:=by
 match l,h with
 | some (.inl v),h=>exact⟨0,h⟩
 | some (.inr s),⟨_,n,h⟩=>exact⟨n,h⟩
theorem tQ {w:World}{S:Nat->Prop}:∀ (ls:List (L cx.ty)) (us:List Value),us.length=ls.length->(∀ (j:Nat) l v,ls[j]?=some l->us[j]?=some v->ArgL cx w S l v)->∃ n,∀ (j:Nat) l v,ls[j]?=some l->us[j]?=some v->RepL cx w S n l v
 | [],_,_,_=>⟨0,λj l v h=>by simp at h⟩
 | l::r,[],h,_=>by simp at h
 | l::r,u::us,h,hv=>by
  obtain⟨n1,h1⟩:=tQ r us (by simpa using h) (λj a b e1 e2=>hv (j+1) a b (by simpa using e1) (by simpa using e2));obtain⟨n2,h2⟩:=(hv 0 l u rfl rfl).toRepL;refine⟨n1+n2,λj a b e1 e2=>?_⟩;cases j with
  | zero=>
   simp at e1 e2;subst e1;subst e2;have:=RepL_upTo n1 h2
   rwa [fX]at this
  | succ j=>exact RepL_upTo n2 (h1 j a b (by simpa using e1) (by simpa using e2))
theorem aCt (ok:cx.Ok){w:World}{S:Nat->Prop}{g:Nat}(hg:S g){cur:Array Value}{et:TypeId}{q:Nat×Nat}(hh:w.heap[g]?=some (.cells cur et q)){ls:List (L cx.ty)}(hlen:cur.toList.length=ls.length)(hv:∀ (j:Nat) l v,ls[j]?=some l->cur.toList[j]?=some v->ArgL cx w S l v){e:Nat}{x:cx.ty e}(hx:cx.dec e ls=some x){k:Nat} :
  PtS cx w S { own:=k,nm:=0,e:=e,o:=false,xs:=[x] } (.pointer (some ⟨g,0,none⟩)):=by
 obtain⟨n,hn⟩:=tQ _ _ hlen hv;have hback:=ok.dec e _ x false hx;refine⟨g,0,rfl,hg,x,rfl,n,λj l hj=>?_⟩;have hj:(cx.enc e false x)[j]?=some l:=hj;rw[<-hback,aX]at hj;cases hj1:ls[j]? with
 | none=>rw[hj1]at hj;simp at hj
 | some l0=>
  rw[hj1]at hj;simp only[aD,aB]at hj;subst hj;have hjl:j < cur.toList.length:=by rw[hlen];exact(aI.1 hj1).1
  have hvv:=hn j l0 _ hj1 (aC hjl);refine⟨cur.toList[j],?_,aBz hvv⟩;have hjs:j < cur.size:=by simpa using hjl
  simp only[World.cell?,hh];simp[hjs]
theorem xM (ok:cx.Ok){w:World}{S:Nat->Prop}{g:Nat}(hg:S g){cur:Array Value}{et:TypeId}{q:Nat×Nat}(hh:w.heap[g]?=some (.cells cur et q)){o m:Nat}{ls:List (L cx.ty)}(hlen:((cur.toList.drop o).take m).length=ls.length)(hv:∀ (j:Nat) l v,ls[j]?=some l->((cur.toList.drop o).take m)[j]?=some v->ArgL cx w S l v){e:Nat}{x:cx.ty e}(hx:cx.dec e ls=some x){k:Nat} :
  PtS cx w S { own:=k,nm:=0,e:=e,o:=false,xs:=[x] } (.pointer (some ⟨g,o,none⟩)):=by
 obtain⟨n,hn⟩:=tQ _ _ hlen hv;have hback:=ok.dec e _ x false hx;refine⟨g,o,rfl,hg,x,rfl,n,λj l hj=>?_⟩;have hj:(cx.enc e false x)[j]?=some l:=hj;rw[<-hback,aX]at hj;cases hj1:ls[j]? with
 | none=>rw[hj1]at hj;simp at hj
 | some l0=>
  rw[hj1]at hj;simp only[aD,aB]at hj;subst hj;have hjl:j < ((cur.toList.drop o).take m).length:=by rw[hlen];exact(aI.1 hj1).1
  have hvv:=hn j l0 _ hj1 (aC hjl);refine⟨((cur.toList.drop o).take m)[j],?_,aBz hvv⟩;have hjs:o+j < cur.size:=by
   rw[bA,bL,Array.length_toList]at hjl;omega
  simp only[World.cell?,hh];simp[hjs]
theorem aFH (ok:cx.Ok){c:Ct cx.ty}(hw:Wf cx c){e:TypeId}{tag off:Nat}{p:Pt cx.ty}{a:A cx.ty}{n:List Nat}(ha:ptB P cx e tag off p=some (a,n)){g:Nat}{tk:Tk cx.ty}(ht:tk∈c.T)(hcc:tk.c=.inr p.cells)(htu:tk.u=.pointer (some ⟨g,0,none⟩))(hd:∀ k∈n,k∉c.D) :
  ArgA cx c.w (All c) a (mvA tag g off)/\(n=[]->ArgA cx c.w (Rd c) a (mvA tag g off)):=by
 unfold ptB at ha;split at ha
 ·rename_i ls n1 hls;split at ha
  ·rename_i x hx;simp only[aB,aY]at ha;obtain⟨rfl,rfl⟩:=ha;have htr:=hw.rep tk ht;unfold TokRep at htr;rw[hcc]at htr;obtain⟨hfp,g',cur,et,hu',hh,hcells⟩:=htr;rw[htu]at hu';simp only[Value.pointer.injEq,aB,Addr.mk.injEq]at hu';obtain⟨rfl,_⟩:=hu';have hgv:g∈vb tk.u:=by rw[htu];simp[vb]
   have hgb:=hw.bound tk ht g (aA.2 (.inl hgv));have hr:=wM ok hw _ _ _ _ _ hls (hcells.sub off _) (λk hk=>hd k (bG _ hk));refine⟨?_,λhn=>by simp at hn⟩;rw[ArgA.atPt rfl];obtain⟨g2,o2,hu2,hS,hrest⟩:=xM ok (S:=All c) (k:=3) ⟨hgb.2,.inr hgb.1⟩ hh hr.1 (λj l v h1 h2=>(hr.2 j l v h1 h2).1) hx;have hu2:(Value.pointer (some ⟨g,off,none⟩))=.pointer (some ⟨g2,o2,none⟩):=hu2;simp only[Value.pointer.injEq,aB,Addr.mk.injEq]at hu2;obtain⟨rfl,rfl,_⟩:=hu2;exact⟨g,off,rfl,hS,hrest⟩
  ·simp at ha
 ·simp at ha
theorem aJN (ok:cx.Ok){c:Ct cx.ty}{t:TypeId}{p:Pt cx.ty}{a:A cx.ty}{n:List Nat}(ha:ptI P cx t p=some (a,n)){u:Value}(hk:p.kind=2)(h:RepP cx c p u):ArgA cx c.w (All c) a u/\(n=[]->ArgA cx c.w (Rd c) a u):=by
 unfold ptI at ha;split at ha
 case isFalse=>simp at ha
 rename_i hnm;simp only[beq_iff_eq]at hnm;split at ha
 case h_2=>simp at ha
 rename_i e he;split at ha
 case isFalse=>simp at ha
 split at ha
 case h_2=>simp at ha
 rename_i y hy;simp only[aB,aY]at ha;obtain⟨rfl,rfl⟩:=ha;unfold RepP at h;simp only[hk,hnm]at h;obtain⟨b,o,hu,hb,x,hx,n,hn⟩:=h;have hxx:p.s.xs.getD p.i (cx.dflt p.s.e)=x:=by simp[List.getD,hx]
 rw[hxx]at hy;have hback:=ok.dec e _ y false hy;rw[pR,pS,ok.weak]at hback;have h2:ArgA cx c.w (Rd c) (.inl (some (.inr { own:=3,nm:=0,e:=e,o:=false,xs:=[y] }))) u:=by
  rw[ArgA.atPt rfl];refine⟨b,o+p.off,hu,hb,y,rfl,n,λj l hj=>?_⟩;have hj:(cx.enc e false y)[j]?=some l:=hj;rw[<-hback,bK]at hj;split at hj
  case isFalse=>simp at hj
  rw[cL]at hj;obtain⟨v,h1,h3⟩:=hn _ _ hj;exact⟨v,by rw[gT];exact h1,h3⟩
 exact⟨ArgA.mono (λb hb=>⟨hb.1,hb.2.1⟩) (λ_ _=>rfl) h2,λ_=>h2⟩
theorem aJO (ok:cx.Ok){c:Ct cx.ty}(hw:Wf cx c){t:TypeId}{p:Pt cx.ty}{a:A cx.ty}{n:List Nat}(ha:ptA P cx t p=some (a,n)){u:Value}(h:RepP cx c p u)(hd:∀ k∈n,k∉c.D):ArgA cx c.w (All c) a u/\(n=[]->ArgA cx c.w (Rd c) a u):=by
 unfold ptA at ha;split at ha
 ·rename_i hk;unfold RepP at h;simp only[hk]at h;obtain⟨tk,ht,hnm,hcc,g,htu,hpa⟩:=h;split at ha
  ·rename_i hc;have hi:p.i=0:=beq_iff_eq.1 hc;rw[hi]at hpa;have hpa:u=mvA 0 g p.off:=hpa;rw[hpa];split at ha
   ·exact aFH ok hw ha ht hcc htu hd
   ·simp at ha
  ·split at ha
   ·rename_i hc;have hi:p.i=1:=beq_iff_eq.1 hc;rw[hi]at hpa;have hpa:u=mvA (p.off+1) g 0:=hpa;rw[hpa];split at ha
    ·exact aFH ok hw ha ht hcc htu hd
    ·simp at ha
   ·simp at ha
 ·rename_i hk;split at ha
  ·rename_i r hr;cases ha;exact aJN ok hr hk h
  split at ha
  case isFalse=>simp at ha
  rename_i hoff;simp only[beq_iff_eq]at hoff;simp only[aB,aY]at ha;obtain⟨rfl,rfl⟩:=ha;unfold RepP at h;simp only[hk,hoff,jR]at h;obtain⟨b,o,hu,hb,x,hx,n,hn⟩:=h;have key:PtS cx c.w (Rd c) { own:=3,nm:=p.nm,e:=p.s.e,o:=false,xs:=[p.s.xs.getD p.i (cx.dflt p.s.e)] } u:=by
   refine⟨b,o,hu,hb,p.s.xs.getD p.i (cx.dflt p.s.e),rfl,n,?_⟩;have:p.s.xs.getD p.i (cx.dflt p.s.e)=x:=by simp[List.getD,hx]
   rw[this];exact hn
  have h2:ArgA cx c.w (Rd c) (.inl (some (.inr { own:=3,nm:=p.nm,e:=p.s.e,o:=false,xs:=[p.s.xs.getD p.i (cx.dflt p.s.e)] }))) u:=by
   rw[ArgA.atPt rfl];exact key
  exact⟨ArgA.mono (λb hb=>⟨hb.1,hb.2.1⟩) (λ_ _=>rfl) h2,λ_=>h2⟩
 ·simp at ha
theorem sM (ok:cx.Ok){c:Ct cx.ty}(hw:Wf cx c):∀ (ts:List TypeId) (l:List (V cx.ty)) (l':List (A cx.ty)) (n:List Nat) (us:List Value),tC P cx ts l=some (l',n)->
  us.length=l.length->(∀ (j:Nat) a u,l[j]?=some a->us[j]?=some u->RepV cx c a u)->(∀ k∈n,k∉c.D)->ArgAs cx c.w (All c) l' us/\(n=[]->ArgAs cx c.w (Rd c) l' us)
 | [],[],l',n,us,ha,hl,h,_=>by
  simp only[tC,aB,aY]at ha;obtain⟨rfl,rfl⟩:=ha;exact⟨⟨hl,λj a u h1=>by simp at h1⟩,λ_=>⟨hl,λj a u h1=>by simp at h1⟩⟩
 | t::ts,.inl l::r,l',n,us,ha,hl,h,hd=>by
  simp only[tC]at ha;split at ha
  ·rename_i a n1 as ns e1 e2;simp only[aB,aY]at ha;obtain⟨rfl,rfl⟩:=ha
   match us,hl,h with
   | [],hl,h=>simp at hl
   | u::us,hl,h=>
    have k1:=aI6 ok hw e1 (h 0 _ u rfl rfl) (λk hk=>hd k (aA.2 (.inl hk)));have k2:=sM ok hw ts r as ns us e2 (by simpa using hl) (λj a b h1 h2=>h (j+1) a b (by simpa using h1) (by simpa using h2)) (λk hk=>hd k (aA.2 (.inr hk)));refine⟨⟨by simp[k2.1.1],λj a' u' h1 h2=>?_⟩,λhn=>⟨by simp[k2.1.1],λj a' u' h1 h2=>?_⟩⟩
    ·cases j with
     | zero=>
      simp only[aP,aB]at h1 h2;subst h1;subst h2;exact k1.1
     | succ j=>exact k2.1.2 j a' u' (by simpa using h1) (by simpa using h2)
    ·have hn':=jK.1 hn;cases j with
     | zero=>
      simp only[aP,aB]at h1 h2;subst h1;subst h2;exact k1.2 hn'.1
     | succ j=>exact(k2.2 hn'.2).2 j a' u' (by simpa using h1) (by simpa using h2)
  ·simp at ha
 | [],_::_,_,_,_,ha,_,_,_=>by simp[tC]at ha
 | _::_,[],_,_,_,ha,_,_,_=>by simp[tC]at ha
 | _::_,.inr (.inl _)::_,_,_,_,ha,_,_,_=>by simp[tC]at ha
 | t::ts,.inr (.inr p)::r,l',n,us,ha,hl,h,hd=>by
  simp only[tC]at ha;split at ha
  ·rename_i a as ns e1 e2;simp only[aB,aY]at ha;obtain⟨rfl,rfl⟩:=ha
   match us,hl,h with
   | [],hl,h=>simp at hl
   | u::us,hl,h=>
    have k1:=aHl ok hw e1 (h 0 _ u rfl rfl);have k2:=sM ok hw ts r as ns us e2 (by simpa using hl) (λj a b h1 h2=>h (j+1) a b (by simpa using h1) (by simpa using h2)) (λk hk=>hd k (bG _ hk));refine⟨⟨by simp[k2.1.1],λj a' u' h1 h2=>?_⟩,λhn=>by simp at hn⟩;cases j with
    | zero=>
     simp only[aP,aB]at h1 h2;subst h1;subst h2;exact k1
    | succ j=>exact k2.1.2 j a' u' (by simpa using h1) (by simpa using h2)
  ·rename_i as ns e1 e2;split at ha
   ·rename_i a n1 e3;simp only[aB,aY]at ha;obtain⟨rfl,rfl⟩:=ha
    match us,hl,h with
    | [],hl,h=>simp at hl
    | u::us,hl,h=>
     have k1:=aJO ok hw e3 (h 0 _ u rfl rfl) (λk hk=>hd k (aA.2 (.inl hk)));have k2:=sM ok hw ts r as ns us e2 (by simpa using hl) (λj a b h1 h2=>h (j+1) a b (by simpa using h1) (by simpa using h2)) (λk hk=>hd k (aA.2 (.inr hk)));refine⟨⟨by simp[k2.1.1],λj a' u' h1 h2=>?_⟩,λhn=>⟨by simp[k2.1.1],λj a' u' h1 h2=>?_⟩⟩
     ·cases j with
      | zero=>
       simp only[aP,aB]at h1 h2;subst h1;subst h2;exact k1.1
      | succ j=>exact k2.1.2 j a' u' (by simpa using h1) (by simpa using h2)
     ·have hn':=jK.1 hn;cases j with
      | zero=>
       simp only[aP,aB]at h1 h2;subst h1;subst h2;exact k1.2 hn'.1
      | succ j=>exact(k2.2 hn'.2).2 j a' u' (by simpa using h1) (by simpa using h2)
   ·simp at ha
  ·simp at ha
end
section
variable {cx : Cx} {P : Program}
def aB9 {ty:Nat->Type}(nm:Nat)(l:L ty):L ty:=
 match l with
 | some (.inr s)=>if s.own == 2 then ls { own:=1,nm:=nm,e:=s.e,o:=true,xs:=s.xs }else if s.own == 4 then ls { own:=1,nm:=nm,e:=s.e,o:=false,xs:=s.xs }else some (.inr s)
 | l=>l
def lH {ty:Nat->Type}(nm:Nat):List (L ty)->List (L ty)
 | []=>[]
 | l::r=>aB9 nm l::lH (nm+1) r
def aI4 {ty:Nat->Type}(nm:Nat)(a:A ty):A ty:=
 match a with
 | .inl l=>.inl (aB9 nm l)
 | .inr l=>.inr (lH nm l)
def fU {ty:Nat->Type}(nm:Nat):List (A ty)->List (A ty)
 | []=>[]
 | a::r=>aI4 nm a::fU (nm+16) r
def aGh {ty:Nat->Type}(nm:Nat)(v:V ty):V ty:=
 match v with
 | .inl a=>.inl (aI4 nm a)
 | .inr (.inl l)=>.inr (.inl (fU nm l))
 | v=>v
def aAH {ty:Nat->Type}(k:Nat)(a:A ty):Bool:=
 match a with
 | .inl _=>true
 | .inr l=>decide (l.length<=k)
def aB3 {ty:Nat->Type}(v:V ty):Bool:=
 match v with
 | .inl a=>aAH 64 a
 | .inr (.inl l)=>decide (l.length<=4)&&l.all (aAH 16)
 | _=>false
structure BSpec (cx:Cx) (w:World) (S:Nat->Prop) (lo hi:Nat) (f:List Nat) (N:List (Tk cx.ty)) (rep:Ct cx.ty->Prop):Prop where
 nm:∀ tk∈N,lo<=tk.nm/\tk.nm < hi
 nd:(N.map (·.nm)).Nodup
 fp:(N.flatMap λtk=>vb tk.u++tk.fp)=f
 tok:∀ tk∈N,(∃ s,tk.c=.inl s)/\∀ c:Ct cx.ty,c.w=w->(∀ b,S b->Rd c b)->TokRep cx c tk
 rep:∀ c:Ct cx.ty,c.w=w->(∀ tk∈N,tk∈c.T/\tk.nm∉c.D/\tk.nm∉c.F)->(∀ b,S b->Rd c b)->rep c
theorem BSpec.both {w:World}{S:Nat->Prop}{lo hi:Nat}{f:List Nat}{N:List (Tk cx.ty)}{r:Ct cx.ty->Prop}(h:BSpec cx w S lo hi f N r)(c:Ct cx.ty)(hc:c.w=w)(hl:∀ tk∈N,tk∈c.T/\tk.nm∉c.D/\tk.nm∉c.F)(hS:∀ b,S b->Rd c b):r c/\∀ tk∈N,TokRep cx c tk:=
 ⟨h.rep c hc hl hS,λtk ht=>(h.tok tk ht).2 c hc hS⟩
theorem BSpec.app {w:World}{S:Nat->Prop}{lo wS hi:Nat}{f1 f2:List Nat}{N1 N2:List (Tk cx.ty)}{r1 r2:Ct cx.ty->Prop}(h1:BSpec cx w S lo wS f1 N1 r1)(h2:BSpec cx w S wS hi f2 N2 r2)(hl:lo<=wS)(hh:wS<=hi) :
  BSpec cx w S lo hi (f1++f2) (N1++N2) (λc=>r1 c/\r2 c):=by
 refine⟨λtk ht=>?_,?_,?_,λtk ht=>?_,λc hc ht hS=>⟨?_,?_⟩⟩
 ·rcases aA.1 ht with ht | ht
  ·have:=h1.nm tk ht;omega
  ·have:=h2.nm tk ht;omega
 ·rw[dN,aH];refine⟨h1.nd,h2.nd,λa ha b hb he=>?_⟩;obtain⟨t1,ht1,rfl⟩:=aM.1 ha;obtain⟨t2,ht2,rfl⟩:=aM.1 hb;have:=h1.nm t1 ht1;have:=h2.nm t2 ht2;omega
 ·rw[bE,h1.fp,h2.fp]
 ·rcases aA.1 ht with ht | ht
  ·exact h1.tok tk ht
  ·exact h2.tok tk ht
 ·exact h1.rep c hc (λtk h=>ht tk (aA.2 (.inl h))) hS
 ·exact h2.rep c hc (λtk h=>ht tk (aA.2 (.inr h))) hS
theorem BSpec.mono {w:World}{S:Nat->Prop}{lo hi hi':Nat}{f:List Nat}{N:List (Tk cx.ty)}{r r':Ct cx.ty->Prop}(h:BSpec cx w S lo hi f N r)(hh:hi<=hi')(hr:∀ c,r c->r' c):BSpec cx w S lo hi' f N r':=
 ⟨λtk ht=>⟨(h.nm tk ht).1,cN (h.nm tk ht).2 hh⟩,h.nd,h.fp,h.tok,λc h1 h2 h3=>hr c (h.rep c h1 h2 h3)⟩
theorem OwnL_slice {w:World}{n:Nat}{s:SlD cx.ty}{u:Value}{f:List Nat}(h:OwnL cx w n (some (.inr s)) u f):∃ g,f=u.ownBlock.toList++g/\vb u=u.ownBlock.toList/\∃ a k cap,u=.slice a k cap:=by
 cases n with
 | zero=>simp[OwnL]at h
 | succ n=>
  obtain⟨us,fpl,hrow,hfp,_⟩:=h;refine⟨_,hfp,?_⟩;rcases hrow.2 with⟨hu,_⟩ | ⟨g,cap,cur,hu,_⟩
  ·rw[hu];exact⟨rfl,_,_,_,rfl⟩
  ·rw[hu];exact⟨rfl,_,_,_,rfl⟩
theorem OwnL_own {w:World}{n:Nat}{s:SlD cx.ty}{u:Value}{f:List Nat}(h:OwnL cx w n (some (.inr s)) u f)(nm:Nat):OwnL cx w n (some (.inr { own:=1,nm:=nm,e:=s.e,o:=true,xs:=s.xs })) u f:=by
 cases n with
 | zero=>simp[OwnL]at h
 | succ n=>exact h
theorem aA2 {w:World}{S:Nat->Prop}{l:L cx.ty}{u:Value}{f:List Nat}(nm:Nat)(h:ResL cx w S l u f):∃ N,BSpec cx w S nm (nm+1) f N (λc=>RepLS cx c (aB9 nm l) u):=by
 match l,h with
 | some (.inl v),⟨hu,hf⟩=>exact⟨[],⟨by simp,by simp,by simp[hf],by simp,λc _ _ _=>hu⟩⟩
 | some (.inr s),h=>
  unfold ResL at h;by_cases h2:s.own=2
  ·simp only[h2,if_true]at h;obtain⟨ho,n,h⟩:=h;obtain⟨g,hg,hv,a,k,cap,hu⟩:=OwnL_slice h;refine⟨[{ nm:=nm,u:=u,fp:=g,c:=.inl { own:=1,nm:=nm,e:=s.e,o:=true,xs:=s.xs } }],⟨by simp,by simp,by simp[hv,hg],λtk ht=>?_,λc _ hc _=>?_⟩⟩
   ·simp only[aO]at ht;subst ht;refine⟨⟨_,rfl⟩,λc hc _=>?_⟩;subst hc;exact⟨hv,n,by rw[hv,<-hg];exact OwnL_own h nm⟩
   ·obtain⟨h3,h4,h5⟩:=hc _ (aO.2 rfl);simp only[aB9,h2,beq_self_eq_true,if_true];show RepLS cx c (some (.inr _)) u;unfold RepLS;simp only[if_true,h4,h5,if_false];exact⟨⟨a,k,cap,hu⟩,_,h3,rfl,rfl,rfl⟩
  by_cases h4:s.own=4
  ·simp only[h4,show ¬ (4:Nat)=2 by decide,if_false,if_true]at h;obtain⟨ho,h⟩:=h;obtain⟨hv,a,k,cap,hu⟩:=h.slice;refine⟨[{ nm:=nm,u:=u,fp:=[],c:=.inl { own:=1,nm:=nm,e:=s.e,o:=false,xs:=s.xs } }],⟨by simp,by simp,by simp[hv,h.1],λtk ht=>?_,λc _ hc _=>?_⟩⟩
   ·simp only[aO]at ht;subst ht;refine⟨⟨_,rfl⟩,λc hc hS=>?_⟩;subst hc;obtain⟨_,us,n,k1,k2,k3⟩:=h;exact⟨hv,rfl,us,n,k1,k2,λj l v e1 e2=>RepL_mono cx (λ_ _=>rfl) hS _ _ _ (k3 j l v e1 e2)⟩
   ·obtain⟨h3,h4',h5⟩:=hc _ (aO.2 rfl);simp only[aB9,h4,show((4:Nat) == 2)=false from rfl,beq_self_eq_true,if_true,dF,if_false];show RepLS cx c (some (.inr _)) u;unfold RepLS;simp only[if_true,h4',h5,if_false];exact⟨⟨a,k,cap,hu⟩,_,h3,rfl,rfl,rfl⟩
  ·simp only[h2,h4,if_false]at h;obtain⟨h0,hf,n,h⟩:=h;refine⟨[],⟨by simp,by simp,by simp[hf],by simp,λc hc _ hS=>?_⟩⟩;have hb:(s.own == 2)=false:=by simpa using h2
   have hb4:(s.own == 4)=false:=by simpa using h4
   simp only[aB9,hb,hb4,dF,if_false];unfold RepLS;have h1:¬ s.own=1:=by omega
   simp only[h1,if_false];subst hc;exact⟨n,RepL_mono cx (λ_ _=>rfl) hS n _ u h⟩
theorem xI {w:World}{S:Nat->Prop}:∀ (l:List (L cx.ty)) (us:List Value) (fps:List (List Nat)) (nm:Nat),ResLs cx w S l us fps->∃ N,BSpec cx w S nm (nm+l.length) (List.flatten fps) N (λc=>RepLs cx c (lH nm l) us)
 | [],us,fps,nm,h=>by
  have h1:=cQ h.1;have h2:=cQ h.2.1;subst h1;subst h2;exact⟨[],⟨by simp,by simp,by simp,by simp,λc _ _ _=>⟨rfl,λj a u h=>by simp[lH]at h⟩⟩⟩
 | l::r,us,fps,nm,h=>by
  match us,fps,h with
  | [],_,h=>simp[ResLs]at h
  | _::_,[],h=>simp[ResLs]at h
  | u::us,f::fps,h=>
   obtain⟨N1,h1⟩:=aA2 nm (h.2.2 0 l u f rfl rfl rfl);obtain⟨N2,h2⟩:=xI r us fps (nm+1) ⟨by simpa using h.1,by simpa using h.2.1,λj a b f' e1 e2 e3=>h.2.2 (j+1) a b f' (by simpa using e1) (by simpa using e2) (by simpa using e3)⟩;refine⟨N1++N2,?_⟩;rw[dA];refine(h1.app h2 (by omega) (by omega)).mono (by simp;omega) λc ⟨k1,k2⟩=>⟨by simp[lH,k2.1],λj a b e1 e2=>?_⟩
   cases j with
   | zero=>
    simp only[lH,aP,aB]at e1 e2;subst e1;subst e2;exact k1
   | succ j=>exact k2.2 j a b (by simpa[lH]using e1) (by simpa using e2)
theorem aA3 {w:World}{S:Nat->Prop}{a:A cx.ty}{u:Value}{f:List Nat}(nm k:Nat)(hk:aAH k a=true)(h1:1<=k)(h:ResA cx w S a u f):∃ N,BSpec cx w S nm (nm+k) f N (λc=>RepA cx c (aI4 nm a) u):=by
 match a,h,hk with
 | .inl l,h,_=>
  obtain⟨N,hN⟩:=aA2 nm h;exact⟨N,hN.mono (by omega) λ_ h=>h⟩
 | .inr l,⟨us,fps,hu,hf,h⟩,hk=>
  obtain⟨N,hN⟩:=xI l us fps nm h;simp only[aAH,decide_eq_true_eq]at hk;subst hf;exact⟨N,hN.mono (by omega) λc h=>⟨us,hu,h⟩⟩
theorem nS {w:World}{S:Nat->Prop}:∀ (l:List (A cx.ty)) (us:List Value) (fps:List (List Nat)) (nm:Nat),l.all (aAH 16)=true->ResAs cx w S l us fps->∃ N,BSpec cx w S nm (nm+16 * l.length) (List.flatten fps) N (λc=>RepAs cx c (fU nm l) us)
 | [],us,fps,nm,_,h=>by
  have h1:=cQ h.1;have h2:=cQ h.2.1;subst h1;subst h2;exact⟨[],⟨by simp,by simp,by simp,by simp,λc _ _ _=>⟨rfl,λj a u h=>by simp[fU]at h⟩⟩⟩
 | l::r,us,fps,nm,hk,h=>by
  match us,fps,h with
  | [],_,h=>simp[ResAs]at h
  | _::_,[],h=>simp[ResAs]at h
  | u::us,f::fps,h=>
   simp only[List.all_cons,aJ]at hk;obtain⟨N1,h1⟩:=aA3 nm 16 hk.1 (by omega) (h.2.2 0 l u f rfl rfl rfl);obtain⟨N2,h2⟩:=nS r us fps (nm+16) hk.2 ⟨by simpa using h.1,by simpa using h.2.1,λj a b f' e1 e2 e3=>h.2.2 (j+1) a b f' (by simpa using e1) (by simpa using e2) (by simpa using e3)⟩;refine⟨N1++N2,?_⟩;rw[dA];refine(h1.app h2 (by omega) (by omega)).mono (by simp;omega) λc ⟨k1,k2⟩=>⟨by simp[fU,k2.1],λj a b e1 e2=>?_⟩
   cases j with
   | zero=>
    simp only[fU,aP,aB]at e1 e2;subst e1;subst e2;exact k1
   | succ j=>exact k2.2 j a b (by simpa[fU]using e1) (by simpa using e2)
theorem ResV.bind {w:World}{A0 NN:Nat->Prop}{r:V cx.ty}{u:Value}(nm:Nat)(hk:aB3 r=true)(h:ResV cx w A0 NN r u) :
  ∃ fp N,fp.Nodup/\(∀ b∈fp,NN b/\b < w.heap.size)/\BSpec cx w (λb=>A0 b\/(NN b/\b < w.heap.size/\b∉fp)) nm (nm+64) fp N (λc=>RepV cx c (aGh nm r) u):=by
 obtain⟨fp,h1,h2,h⟩:=h
 match r,h,hk with
 | .inl a,h,hk=>
  obtain⟨N,hN⟩:=aA3 nm 64 hk (by omega) h;exact⟨fp,N,h1,h2,hN⟩
 | .inr (.inl l),⟨us,fps,hu,hf,h⟩,hk=>
  simp only[aB3,aJ,decide_eq_true_eq]at hk;obtain⟨N,hN⟩:=nS l us fps nm hk.2 h;rw[<-hf]at hN;exact⟨fp,N,h1,h2,hN.mono (by omega) λc h=>⟨us,hu,h⟩⟩
 | .inr (.inr _),h,_=>exact h.elim
def aFT {ty:Nat->Type}:L ty->Bool
 | some (.inr s)=>s.own == 2
 | _=>true
def aH6 {ty:Nat->Type}(a:A ty):Bool:=
 match a with
 | .inl l=>aFT l
 | .inr l=>l.all aFT
def jE {ty:Nat->Type}(v:V ty):Bool:=
 match v with
 | .inl a=>aH6 a
 | .inr (.inl l)=>l.all aH6
 | _=>false
theorem aBT {w:World}{S S':Nat->Prop}{l:L cx.ty}{u:Value}{f:List Nat}(hn:aFT l=true)(h:ResL cx w S l u f):ResL cx w S' l u f:=by
 match l,h,hn with
 | some (.inl v),h,_=>exact h
 | some (.inr s),h,hn=>
  have:s.own=2:=by simpa[aFT]using hn
  unfold ResL at h ⊢;simp only[this,if_true]at h ⊢;exact h
theorem mO {w:World}{S S':Nat->Prop}{l:A cx.ty}{u:Value}{f:List Nat}(hn:aH6 l=true)(h:ResA cx w S l u f):ResA cx w S' l u f:=by
 match l,h,hn with
 | .inl l,h,hn=>exact aBT hn h
 | .inr l,⟨us,fps,hu,hf,h⟩,hn=>exact⟨us,fps,hu,hf,h.1,h.2.1,λj a b f' e1 e2 e3=>aBT (by
   have:=cG.1 hn a (bC e1);exact this) (h.2.2 j a b f' e1 e2 e3)⟩
theorem aGL {w:World}{A0 A1 NN:Nat->Prop}{r:V cx.ty}{u:Value}(hn:jE r=true)(h:ResV cx w A0 NN r u):ResV cx w A1 NN r u:=by
 obtain⟨fp,h1,h2,h⟩:=h;refine⟨fp,h1,h2,?_⟩
 match r,h,hn with
 | .inl a,h,hn=>exact mO hn h
 | .inr (.inl l),⟨us,fps,hu,hf,h⟩,hn=>exact⟨us,fps,hu,hf,h.1,h.2.1,λj a b f' e1 e2 e3=>mO (cG.1 hn a (bC e1)) (h.2.2 j a b f' e1 e2 e3)⟩
 | .inr (.inr _),h,_=>exact h.elim
def aCU {β:Type}(P:Program)(Kc:FuncId->Option (List (A cx.ty)->Option (Bool×V cx.ty)))(f:FuncId)(vs:List (V cx.ty))(ts:List TypeId)(nm0:Nat)(k:Eff cx.ty->Option β):Option β:=
 match Kc f,P.funcs[f]?,tC P cx ts vs with
 | some F,some fn,some (as,rd)=>if fn.body.isSome&&fn.name != "runtime.NumGoroutine" then
   match F as with
   | some (pre,r)=>bif pre then(if aB3 r&&(rd.isEmpty || jE r)then k (fY (aGh nm0 r) rd)else none)else none
   | none=>none
  else none
 | _,_,_=>none
def aFf {β:Type}(P:Program)(Kc:FuncId->Option (List (A cx.ty)->Option (Bool×V cx.ty)))(slots:List (V cx.ty))(f:FuncId)(args:List Operand)(ts:List TypeId)(nm0:Nat)(k:Eff cx.ty->Option β):Option β:=
 aCU P Kc f (args.map (dU slots)) ts nm0 k
def KOk (P:Program)(cx:Cx)(Kc:FuncId->Option (List (A cx.ty)->Option (Bool×V cx.ty))):Prop:=∀ f F,Kc f=some F->Sat P cx f F
theorem aE7 (ok:cx.Ok){β:Type}{o:Oper}{slots:List (V cx.ty)}{nm0:Nat}{f:FuncId}{vs:List (V cx.ty)}{ts:List TypeId}{Kc:FuncId->Option (List (A cx.ty)->Option (Bool×V cx.ty))}(hK:KOk P cx Kc)
  (hv:∀ (c:Ct cx.ty) (ρ:Operand->Value),(∀ x∈o.op.operands,RepV cx c (dU slots x) (ρ x))->∃ us:List Value,us.length=vs.length/\(∀ (j:Nat) a u,vs[j]?=some a->us[j]?=some u->RepV cx c a u) ∧
   ∀ fn,P.funcs[f]?=some fn->fn.body≠none->¬ fn.name= "runtime.NumGoroutine"->(execOp ρ o).run P c.w=.ok (.enter f us.toArray) c.w)
  {k:Eff cx.ty->Option β} {r:β}
  (h:aCU P Kc f vs ts nm0 k=some r):∃ ef,k ef=some r/\EffOK P cx o slots nm0 ef:=by
 unfold aCU at h;split at h
 ·rename_i F fn as rd hKf hfn hargs;split at h
  ·rename_i hc;simp only[aJ,bne_iff_ne,ne_eq]at hc;obtain⟨hbody,hname⟩:=hc;split at h
   ·rename_i pre res hF;cases pre with
    | false=>simp at h
    | true=>
     simp only[cond_true]at h;split at h
     ·rename_i hfit;simp only[aJ,gL]at hfit;obtain⟨hfit,hro⟩:=hfit;refine⟨_,h,⟨λc ρ hw hop _ hrd hf=>?_⟩⟩;obtain⟨us,hul,hur,hue⟩:=hv c ρ hop;have harep:=sM ok hw ts _ as rd us hargs hul hur hrd;unfold Runs;have hrun:(execOp ρ o).run P c.w=.ok (.enter f us.toArray) c.w:=hue fn hfn (λhbb=>by simp[hbb]at hbody) hname;rw[hrun];have hcase:∃ A0:Nat->Prop,(∀ b,A0 b->b < c.w.heap.size)/\ArgAs cx c.w A0 as (us)/\((∀ b,A0 b->Rd c b)\/jE res=true):=by
       rcases hro with hro | hro
       ·have:rd=[]:=by simpa using hro
        exact⟨Rd c,λb hb=>hb.1,harep.2 this,.inl λ_ h=>h⟩
       ·exact⟨All c,λb hb=>hb.1,harep.1,.inr hro⟩
      obtain⟨A0,hA0,hargs',hmode⟩:=hcase;have hcall:=hK f F hKf c.w A0 as (us) res hA0 hargs' hF;refine hcall.mono λe w' ⟨u,he,hb,hres⟩=>⟨u,he,?_⟩
      have hres':∃ A1:Nat->Prop,ResV cx w' A1 (λb=>c.w.heap.size<=b) res u/\(∀ b,A1 b->Rd c b):=by
       rcases hmode with hm | hm
       ·exact⟨A0,hres,hm⟩
       ·exact⟨λ_=>False,aGL hm hres,λ_ h=>h.elim⟩
      obtain⟨A1,hres',hA1⟩:=hres';obtain⟨fp,N,hnd,hbd,hN⟩:=hres'.bind nm0 hfit;have hbdN:∀ tk∈N,∀ b∈vb tk.u++tk.fp,c.w.heap.size<=b/\b < w'.heap.size:=λtk ht b hb'=>hbd b (by rw[<-hN.fp];exact bB.2 ⟨tk,ht,hb'⟩)
      have hbase:∀ b,c.w.heap.size<=b->c.N b:=by exact hw.size
      have hp:=zV (v:=aGh nm0 res) (r:=rd) hw hb hbdN;have hSR:∀ b,A1 b\/(c.w.heap.size<=b/\b < w'.heap.size/\b∉fp)->Rd (c.nx (fY (aGh nm0 res) rd) w' (N++c.T)) b:=λb hb'=>by
       rcases hb' with hb' | ⟨hb1,hb2,hb3⟩
       ·exact(hp.rd b (hA1 b hb')).1
       ·refine⟨hb2,.inr (by show c.N b;exact hbase b (by omega)),λtk ht hv=>?_⟩;rcases aA.1 ht with ht | ht
        ·exact hb3 (by rw[<-hN.fp];exact bB.2 ⟨tk,ht,aA.2 (.inl hv)⟩)
        ·have:=(hw.bound tk ht b (aA.2 (.inl hv))).2;omega
      refine⟨N++c.T,rD hw hb hbase hN.nm hN.nd (by rw[hN.fp];exact hnd) hbdN hf (λtk ht=>(hN.tok tk ht).2 _ rfl hSR) (hN.rep _ rfl (λtk ht=>⟨aA.2 (.inl ht),?_,?_⟩) hSR)⟩
      ·intro hd;exact hf _ (.inr (.inl hd)) (hN.nm tk ht)
      ·intro hd;exact hf _ (.inr (.inr hd)) (hN.nm tk ht)
     ·simp at h
   ·simp at h
  ·simp at h
 ·simp at h
theorem aB4 (ok:cx.Ok){β:Type}{o:Oper}{slots:List (V cx.ty)}{nm0:Nat}{f:FuncId}{xf:Operand}(hxf:dU slots xf=vv (.func (.func f) #[] #[])){args:Array Operand}{ts:Array TypeId}{Kc:FuncId->Option (List (A cx.ty)->Option (Bool×V cx.ty))}(hK:KOk P cx Kc)
  (ho:o.op=.call { callee:=.value xf,args:=args,argTypes:=ts }) {k:Eff cx.ty->Option β} {r:β}
  (h:aFf P Kc slots f args.toList ts.toList nm0 k=some r):∃ ef,k ef=some r/\EffOK P cx o slots nm0 ef:=by
 refine aE7 ok hK (λc ρ hop=>⟨args.toList.map ρ,by simp,λj a u h1 h2=>?_,λfn hfn hb hname=>?_⟩) h
 ·simp only[aX]at h1 h2;cases hx:args.toList[j]? with
  | none=>simp[hx]at h1
  | some x=>
   simp only[hx,aD,aB]at h1 h2;subst h1;subst h2;exact hop x (by
    have:x∈args:=by simpa using bC hx
    simp[ho,Op.operands,Call.operands,this])
 ·have hfv:=hop xf (by simp[ho,Op.operands,Call.operands]);rw[hxf]at hfv;have hfv:ρ xf=.func (.func f) #[] #[]:=hfv;have hargsEq:(args.toList.map ρ).toArray=args.map ρ:=gO (by simp);rw[hargsEq];unfold execOp;simp[ho,resolve,Deferred.ofValue,invoke,callFunc,hfv,hfn,hb,hname]
def aCY {β:Type}(P:Program)(Kc:FuncId->Option (List (A cx.ty)->Option (Bool×V cx.ty)))(slots:List (V cx.ty))(p:Pt cx.ty)(args:List Operand)(ts:List TypeId)(nm0:Nat)(k:Eff cx.ty->Option β):Option β:=none
theorem aFb (ok:cx.Ok){β:Type}{o:Oper}{slots:List (V cx.ty)}{nm0:Nat}{xf:Operand}{p:Pt cx.ty}(hxf:dU slots xf=.inr (.inr p)){args:Array Operand}{ts:Array TypeId}{Kc:FuncId->Option (List (A cx.ty)->Option (Bool×V cx.ty))}(hK:KOk P cx Kc)
  (ho:o.op=.call { callee:=.value xf,args:=args,argTypes:=ts }) {k:Eff cx.ty->Option β} {r:β}
  (h:aCY P Kc slots p args.toList ts.toList nm0 k=some r):∃ ef,k ef=some r/\EffOK P cx o slots nm0 ef:=by
 unfold aCY at h;cases h
end
section
variable {cx : Cx} {P : Program}
def cS (tk:Tk cx.ty):List Nat:=vb tk.u++tk.fp
theorem dD {c:Ct cx.ty}(h:Wf cx c){t1 t2:Tk cx.ty}(h1:t1∈c.T)(h2:t2∈c.T)(hne:t1.nm≠t2.nm){b:Nat}(hb1:b∈cS t1)(hb2:b∈cS t2):False:=by
 obtain⟨l1,l2,hl⟩:=cO h1;have hn:=h.nodup;rw[hl]at hn h2;simp only[bE,aR]at hn;rcases aA.1 h2 with h3 | h3
 ·exact(aH.1 hn).2.2 b (bB.2 ⟨t2,h3,hb2⟩) b (aA.2 (.inl hb1)) rfl
 ·rcases bS.1 h3 with h3 | h3
  ·exact hne (by rw[h3])
  ·exact(aH.1 (aH.1 hn).2.1).2.2 b hb1 b (bB.2 ⟨t2,h3,hb2⟩) rfl
theorem lZ {fps:List (List Nat)}(h:∀ f∈fps,f=[]):List.flatten fps=[]:=by
 induction fps with
 | nil=>rfl
 | cons a r ih=>rw[dA,h a (bR ..),ih (λf hf=>h f (bG _ hf))];rfl
def aCs {ty:Nat->Type}(nm:Nat)(cells:List (L ty))(off:Nat):V ty:=.inr (.inr { kind:=0,nm:=nm,cells:=cells,s:=ro 0 [],i:=0,off:=off })
theorem kQ (w:World)(o:Obj):Below w.heap.size w (w.alloc o):=(Below.refl _ _).alloc (aK _) o
theorem aD1 {c:Ct cx.ty}(h:Wf cx c){nm0:Nat}(hf:∀ n,Nm c n->¬ (nm0<=n/\n < nm0+64)){cells:List (L cx.ty)}{us:Array Value}{t:TypeId}{r:List Nat}(hc:RepLs cx c cells us.toList) :
  Good cx c (fY (aCs nm0 cells 0) r) nm0 (.pointer (some ⟨c.w.heap.size,0,none⟩)) (c.w.alloc (.cells us t)) ([{ nm:=nm0,u:=.pointer (some ⟨c.w.heap.size,0,none⟩),fp:=[],c:=.inr cells }]++c.T):=by
 have hb:=kQ c.w (.cells us t);have hbd:∀ tk∈[({ nm:=nm0,u:=.pointer (some ⟨c.w.heap.size,0,none⟩),fp:=[],c:=.inr cells }:Tk cx.ty)],∀ b∈vb tk.u++tk.fp,c.w.heap.size<=b/\b < (c.w.alloc (.cells us t)).heap.size:=by
  intro tk ht b hb';simp only[aO]at ht;subst ht;simp[vb]at hb';subst hb';simp
 have hp:=zV (v:=aCs nm0 cells 0) (r:=r) h hb hbd;refine rD h hb h.size (by simp) (by simp) (by simp[vb]) hbd hf (λtk ht=>?_) ?_
 ·simp only[aO]at ht;subst ht;exact⟨rfl,c.w.heap.size,us,t,rfl,heap_alloc_new c.w _,hc.pres cx hp⟩
 ·exact⟨_,aA.2 (.inl (aO.2 rfl)),rfl,rfl,c.w.heap.size,rfl,rfl⟩
theorem aAg {c:Ct cx.ty}(us:List Value):RepLs cx c (us.map lv) us:=by
 refine⟨by simp,λj a u h1 h2=>?_⟩;rw[aX,h2]at h1;simp only[aD,aB]at h1;subst h1
 rfl
def aC3 {β:Type}(P:Program)(t:TypeId)(nm0:Nat)(k:Eff cx.ty->Option β):Option β:=
 match P.info? t with
 | some i=>match i.zero with
  | some z=>k (fY (aCs nm0 (z.cells.toList.map lv) 0) [])
  | none=>none
 | none=>none
theorem aFh {β:Type}{o:Oper}{slots:List (V cx.ty)}{nm0:Nat}{t:TypeId}(ho:o.op=.alloc t){k:Eff cx.ty->Option β}{r:β}
  (h:aC3 P t nm0 k=some r):∃ ef,k ef=some r/\EffOK P cx o slots nm0 ef:=by
 unfold aC3 at h;split at h
 ·rename_i i hi;split at h
  ·rename_i z hz;refine⟨_,h,⟨λc ρ hw hop _ _ hf=>?_⟩⟩;have hrun:(execOp ρ o).run P c.w=.ok (.value (.pointer (some ⟨c.w.heap.size,0,none⟩))) (c.w.alloc (.cells z.cells t)):=by
    unfold execOp;simp[ho,Instr.alloc,zeroValue,typeInfo,hi,hz,newVar,newRow]
   unfold Runs;rw[hrun];exact⟨_,aD1 hw hf (aAg z.cells.toList)⟩
  ·simp at h
 ·simp at h
def oB {ty:Nat->Type}:L ty->Bool
 | none=>false
 | some (.inl (.agg _))=>false
 | some (.inl (.tuple _))=>false
 | _=>true
def pN {ty:Nat->Type}(v:V ty):Option (List (L ty)):=
 match v with
 | .inl (.inl l)=>if oB l then some [l]else none
 | .inl (.inr l)=>some l
 | _=>none
theorem aCD {c:Ct cx.ty}{l:L cx.ty}{u:Value}(h:RepLS cx c l u)(ho:oB l=true):u.cells=#[u]:=by
 match l,h,ho with
 | some (.inl v),h,ho=>
  have h:u=v:=h;subst h;cases u<;>first | rfl | (simp[oB]at ho)
 | some (.inr s),h,_=>
  have:∃ a n cap,u=.slice a n cap:=by
   unfold RepLS at h;by_cases h1:s.own=1
   ·simp only[h1,if_true]at h;exact h.1
   ·simp only[h1,if_false]at h;obtain⟨n,h⟩:=h;obtain⟨a,cap,hu⟩:=RepL_slice h;exact⟨a,_,cap,hu⟩
  obtain⟨a,n,cap,rfl⟩:=this
  rfl
theorem lT {c:Ct cx.ty}{v:V cx.ty}{u:Value}(h:RepV cx c v u){l:List (L cx.ty)}(hl:pN v=some l):RepLs cx c l u.cells.toList:=by
 match v,h,hl with
 | .inl (.inl x),h,hl=>
  simp only[pN]at hl;split at hl
  ·rename_i ho;simp only[aB]at hl;subst hl;have h:RepLS cx c x u:=h;rw[aCD h ho];refine⟨rfl,λj a b h1 h2=>?_⟩;cases j with
   | zero=>
    simp at h1 h2;subst h1;subst h2;exact h
   | succ j=>simp at h1
  ·simp at hl
 | .inl (.inr x),⟨us,hu,h'⟩,hl=>
  simp only[pN,aB]at hl;subst hl;rw[hu];simpa[Value.cells]using h'
def aIK {β:Type}(slots:List (V cx.ty))(x:Operand)(nm0:Nat)(k:Eff cx.ty->Option β):Option β:=
 match pN (dU slots x)with
 | some l=>k (fY (aCs nm0 l 0) [])
 | none=>none
theorem aIJ {β:Type}{o:Oper}{slots:List (V cx.ty)}{nm0:Nat}{t:TypeId}{x:Operand}(ho:o.op=.box t x){k:Eff cx.ty->Option β}{r:β}
  (h:aIK slots x nm0 k=some r):∃ ef,k ef=some r/\EffOK P cx o slots nm0 ef:=by
 unfold aIK at h;split at h
 ·rename_i l hl;refine⟨_,h,⟨λc ρ hw hop _ _ hf=>?_⟩⟩;have hr:=lT (hop x (by simp[ho,Op.operands])) hl;have hrun:(execOp ρ o).run P c.w=.ok (.value (.pointer (some ⟨c.w.heap.size,0,none⟩))) (c.w.alloc (.cells (ρ x).cells t)):=by
   unfold execOp;simp[ho,Instr.box,newVar,newRow]
  unfold Runs;rw[hrun];exact⟨_,aD1 hw hf hr⟩
 ·simp at h
def splice {α:Type}(l:List α)(off:Nat)(p:List α):List α:=l.take off++p++l.drop (off+p.length)
theorem gQ {α:Type}{l p:List α}{off:Nat}(h:off+p.length<=l.length)(j:Nat):(splice l off p)[j]?=if off<=j/\j < off+p.length then p[j-off]? else l[j]?:=by
 unfold splice;have hto:(l.take off).length=off:=by simp;omega
 by_cases h1:j < off
 ·rw[if_neg (by omega),dB,bM (by omega),bK,if_pos h1]
 ·by_cases h2:j < off+p.length
  ·rw[if_pos ⟨by omega,h2⟩,dB,bJ (by omega),bM (by omega),hto]
  ·rw[if_neg (by omega),bJ (by simp;omega),cL];congr 1;simp;omega
theorem gP {α:Type}{l p:List α}{off:Nat}(h:off+p.length<=l.length):(splice l off p).length=l.length:=by
 unfold splice;simp;omega
theorem RepLs.splice {c:Ct cx.ty}{l p:List (L cx.ty)}{us vs:List Value}(h1:RepLs cx c l us)(h2:RepLs cx c p vs){off:Nat}(ho:off+p.length<=l.length):RepLs cx c (splice l off p) (splice us off vs):=by
 have ho':off+vs.length<=us.length:=by rw[h1.1,h2.1];exact ho
 refine⟨by rw[gP ho,gP ho',h1.1],λj a u e1 e2=>?_⟩;rw[gQ ho]at e1;rw[gQ ho',h2.1]at e2;split at e1
 ·rename_i hj;rw[if_pos hj]at e2;exact h2.2 _ a u e1 e2
 ·rename_i hj;rw[if_neg hj]at e2;exact h1.2 _ a u e1 e2
theorem aB1 (off:Nat):∀ (l:List Value) (k:Nat) (cs:Array Value),off+k+l.length<=cs.size->
  ((l.zipIdx k).foldl (λcs (p:Value×Nat)=>cs.setIfInBounds (off+p.2) p.1) cs).toList=VM.splice cs.toList (off+k) l
 | [],k,cs,_=>by simp[VM.splice]
 | v::r,k,cs,h=>by
  simp only[cB]at h;simp only[List.zipIdx_cons,List.foldl_cons];rw[aB1 off r (k+1) _ (by simp;omega)];apply dV;intro j;rw[gQ (by simp;omega),gQ (by simp;omega)];simp only[Array.toList_setIfInBounds,cB];by_cases h1:off+(k+1)<=j/\j < off+(k+1)+r.length
  ·rw[if_pos h1,if_pos ⟨by omega,by omega⟩,show j-(off+k)=(j-(off+(k+1)))+1 by omega,dP]
  ·rw[if_neg h1];by_cases h2:j=off+k
   ·subst h2;rw[if_pos ⟨by omega,by omega⟩,rP,aP,eL (by simp;omega)]
   ·rw[if_neg (by omega),fF (by omega)]
def xF {ty:Nat->Type}(place:Nat->Option (Nat×Nat))(cells:List (L ty)):List (Nat×V ty)->Option (List (L ty))
 | []=>some cells
 | (i,v)::rest=>match place i,pN v with
  | some (off,size),some l=>if l.length == size&&decide (off+l.length<=cells.length)then xF place (splice cells off l) rest else none
  | _,_=>none
theorem oT {c:Ct cx.ty}{place:Nat->Option (Nat×Nat)}:∀ (parts:List (Nat×V cx.ty)) (vals:List (Nat×Value)) (cells:List (L cx.ty)) (us:Array Value) (cells':List (L cx.ty)),RepLs cx c cells us.toList->
  parts.length=vals.length->(∀ (j:Nat) p q,parts[j]?=some p->vals[j]?=some q->p.1=q.1/\RepV cx c p.2 q.2)->xF place cells parts=some cells'->∃ us',Instr.fill place us vals=some us'/\RepLs cx c cells' us'.toList
 | [],[],cells,us,cells',h,_,_,hf=>by
  simp only[xF,aB]at hf;subst hf;exact⟨us,rfl,h⟩
 | [],_::_,_,_,_,_,hl,_,_=>by simp at hl
 | _::_,[],_,_,_,_,hl,_,_=>by simp at hl
 | (i,v)::r,(i',u)::r',cells,us,cells',h,hl,hp,hf=>by
  obtain⟨hi,hr⟩:=hp 0 (i,v) (i',u) rfl rfl;have hi:i=i':=hi;subst hi;simp only[xF]at hf;split at hf
  ·rename_i off size l e1 e2;split at hf
   ·rename_i hc;simp only[aJ,beq_iff_eq,decide_eq_true_eq]at hc;obtain⟨hs,hb⟩:=hc;have hcv:=lT hr e2;have hlen:u.cells.size=l.length:=by simpa using hcv.1
    have hus:us.size=cells.length:=by simpa using h.1
    have hset:(u.cells.zipIdx.foldl (λcs (p:Value×Nat)=>cs.setIfInBounds (off+p.2) p.1) us).toList=VM.splice us.toList off u.cells.toList:=by
     have:=aB1 off u.cells.toList 0 us (by simp;omega);rw[<-Array.foldl_toList];simpa[Array.toList_zipIdx]using this
    have hrep:RepLs cx c (splice cells off l) (u.cells.zipIdx.foldl (λcs (p:Value×Nat)=>cs.setIfInBounds (off+p.2) p.1) us).toList:=by
     rw[hset];exact h.splice hcv hb
    obtain⟨us',h1,h2⟩:=oT r r' _ _ cells' hrep (by simpa using hl) (λj p q e3 e4=>hp (j+1) p q (by simpa using e3) (by simpa using e4)) hf;refine⟨us',?_,h2⟩;simp only[Instr.fill,e1];rw[if_neg (by simp;omega)];exact h1
   ·simp at hf
  ·simp at hf
theorem aDC {α β:Type}{g:α->Sem β}{h:α->β}{w:World}:∀ (l:List α),(∀ x∈l,(g x).run P w=.ok (h x) w)->(l.mapM g).run P w=.ok (l.map h) w
 | [],_=>by simp
 | x::r,hx=>by
  simp only[tD,Sem.run_bind,hx x (bR ..),Result.andThen_ok,aDC r (λy hy=>hx y (bG _ hy)),Sem.run_pure,cU]
theorem aGx {t:TypeId}{fa:Array Field}(hfa:P.underlying t=some (.struct fa))(hall:∀ f∈fa.toList,∃ d,P.underlying f.type=some d){i:TypeInfo}{z:Value}(hi:P.info? t=some i)(hz:i.zero=some z){parts:Array (Nat×Value)}{us':Array Value}
  (hfill:Instr.fill (λj=>(fa.toList[j]?).map (λf=>(f.offset,P.cellsOf f.type))) z.cells parts.toList=some us') (w:World):(Instr.build t parts).run P w=.ok (.agg us') w:=by
 have hmap:(fa.mapM λf:Field=>(do let n <-sizeOf f.type;pure (f.offset,n):Sem (Nat×Nat))).run P w=.ok ((fa.toList.map λf=>(f.offset,P.cellsOf f.type)).toArray) w:=by
  rw[show fa=fa.toList.toArray by simp,List.mapM_toArray,Sem.run_map];rw[aDC (P:=P) (w:=w) (h:=λf=>(f.offset,P.cellsOf f.type)) fa.toList (λf hf=>by
   obtain⟨d,hd⟩:=hall f hf;simp only[Sem.run_bind,eD hd,Result.andThen_ok,Sem.run_pure])]
  simp
 have hz':(zeroValue t).run P w=.ok z w:=by simp[zeroValue,typeInfo,hi,hz]
 have hfun:(λj:Nat=>((fa.toList.map λf=>(f.offset,P.cellsOf f.type)).toArray)[j]?)=(λj=>(fa.toList[j]?).map (λf=>(f.offset,P.cellsOf f.type))):=by
  funext j;simp
 unfold Instr.build;rw[Sem.run_bind,hz',Result.andThen_ok,Sem.run_bind,run_underlying hfa,Result.andThen_ok];dsimp only;rw[Sem.run_bind,hmap,Result.andThen_ok,hfun,hfill]
 rfl
def uJ (P:Program)(t:TypeId):Option (List Field):=
 match P.underlying t with
 | some (.struct fs)=>if fs.toList.all (λf=>(P.underlying f.type).isSome)then some fs.toList else none
 | _=>none
def aC2 {β:Type}(P:Program)(slots:List (V cx.ty))(t:TypeId)(parts:List (Nat×Operand))(k:Eff cx.ty->Option β):Option β:=
 match uJ P t,P.info? t with
 | some fs,some i=>match i.zero with
  | some z=>match xF (λj=>(fs[j]?).map (λf=>(f.offset,P.cellsOf f.type))) (z.cells.toList.map lv) (parts.map λ(j,x)=>(j,dU slots x))with
   | some cells=>k (fY (va cells) [])
   | none=>none
  | none=>none
 | _,_=>none
theorem aFg {β:Type}{o:Oper}{slots:List (V cx.ty)}{nm0:Nat}{t:TypeId}{parts:Array (Nat×Operand)}(ho:o.op=.build t parts){k:Eff cx.ty->Option β}{r:β}
  (h:aC2 P slots t parts.toList k=some r):∃ ef,k ef=some r/\EffOK P cx o slots nm0 ef:=by
 unfold aC2 at h;split at h
 ·rename_i fs i hfs hi;split at h
  ·rename_i z hz;split at h
   ·rename_i cells hcells;unfold uJ at hfs;split at hfs
    ·rename_i fa hfa;split at hfs
     ·rename_i hall;simp only[aB]at hfs;subst hfs;refine⟨_,h,eC λc ρ hw hop _=>?_⟩;obtain⟨us',h1,h2⟩:=oT (parts.toList.map λp=>(p.1,dU slots p.2)) (parts.toList.map λp=>(p.1,ρ p.2)) (z.cells.toList.map lv) z.cells cells (aAg _) (by simp) (λj p q e1 e2=>by
       simp only[aX]at e1 e2;cases hx:parts.toList[j]? with
       | none=>simp[hx]at e1
       | some x=>
        simp only[hx,aD,aB]at e1 e2;subst e1;subst e2;refine⟨rfl,hop x.2 ?_⟩;simp only[ho,Op.operands,kF,aM];exact⟨x,bC hx,rfl⟩) hcells
      refine⟨.agg us',?_,us'.toList,by simp,h2⟩;have hbuild:=aGx hfa (λf hf=>cH.1 (cG.1 hall f hf)) hi hz (parts:=parts.map λp=>(p.1,ρ p.2)) (us':=us') (by simpa using h1) c.w;unfold execOp;simp only[ho,Sem.run_bind];rw[hbuild]
      rfl
     ·simp at hfs
    ·simp at hfs
   ·simp at h
  ·simp at h
 ·simp at h
end
section
variable {cx : Cx} {P : Program}
structure Cx.POk (P:Program) (cx:Cx):Prop where
 zero:∀ e,cx.dom e=true->∃ i z,P.info? e=some i/\i.zero=some z/\i.size=cx.size e/\i.bytes<=100000/\z.cells.size=cx.size e/\0 < cx.size e/\z.cells.toList.map lv=cx.enc e true (cx.dflt e)
 u8:∀ e,cx.dom e=true->P.underlying e=some (.int .u8)->∀ o x,∃ n,cx.enc e o x=[lv (.int .u8 n)]
def dG (cx:Cx)(e:Nat)(xs:List (cx.ty e)):List Value:=(xs.flatMap (cx.enc e true)).filterMap mK
theorem aAh (ok:cx.Ok){e:Nat}(hf:cx.flat e=true)(o:Bool)(xs:List (cx.ty e)):∀ l∈xs.flatMap (cx.enc e o),∃ v,l=lv v/\v.oneCell'=true:=by
 intro l hl;obtain⟨x,_,hx⟩:=bB.1 hl;obtain⟨v,hv⟩:=ok.flat e o x hf l hx;rcases ok.leaf e o x l hx with⟨v',hv',h1⟩ | ⟨s,hs,_⟩
 ·exact⟨v',hv',h1⟩
 ·rw[hv]at hs;simp at hs
theorem sU {ty:Nat->Type}:∀ (l:List (L ty)),(∀ x∈l,∃ v,x=lv v)->l=(l.filterMap mK).map lv
 | [],_=>rfl
 | x::r,h=>by
  obtain⟨v,hv⟩:=h x (bR ..);have:=sU r (λy hy=>h y (bG _ hy));subst hv;rw[List.filterMap_cons];simp only[lv,mK,cU];rw[<-this]
theorem aG3 (ok:cx.Ok){e:Nat}(hf:cx.flat e=true)(x:cx.ty e):cx.enc e false x=cx.enc e true x:=by
 rw[<-ok.weak e true false x];have:∀ l∈cx.enc e true x,weak false l=l:=λl hl=>by
  obtain⟨v,hv⟩:=ok.flat e true x hf l hl;rw[hv];rfl
 conv=>rhs;rw[<-List.map_id (cx.enc e true x)]
 exact nC this
theorem mA (ok:cx.Ok){e:Nat}(hf:cx.flat e=true)(o:Bool)(xs:List (cx.ty e)):xs.flatMap (cx.enc e o)=(dG cx e xs).map lv:=by
 have h1:xs.flatMap (cx.enc e o)=xs.flatMap (cx.enc e true):=by
  cases o with
  | true=>rfl
  | false=>
   have:cx.enc e false=cx.enc e true:=funext (aG3 ok hf);rw[this]
 rw[h1];exact sU _ (λl hl=>by obtain⟨v,hv,_⟩:=aAh ok hf true xs l hl;exact⟨v,hv⟩)
theorem jU (ok:cx.Ok){e:Nat}(hf:cx.flat e=true)(xs:List (cx.ty e)):(dG cx e xs).length=xs.length * cx.size e:=by
 have:=congrArg List.length (mA ok hf true xs);rw[eX _ _ (λx=>ok.len e true x)]at this;simpa using this.symm
theorem vH (ok:cx.Ok){e:Nat}(hf:cx.flat e=true)(xs:List (cx.ty e)):∀ u∈dG cx e xs,u.oneCell'=true:=by
 intro u hu;have:lv u∈xs.flatMap (cx.enc e true):=by
  rw[mA ok hf true xs];exact aM.2 ⟨u,hu,rfl⟩
 obtain⟨v,hv,h1⟩:=aAh ok hf true xs _ this;simp only[lv,aB,Sum.inl.injEq]at hv;rw[hv];exact h1
theorem uP (ok:cx.Ok){w:World}{s:SlD cx.ty}(hf:cx.flat s.e=true){u:Value}(h:w.ownsRow 0 s.e (cx.size s.e) u s.xs.length (dG cx s.e s.xs)):OwnL cx w 1 (some (.inr s)) u u.ownBlock.toList:=by
 have hen:=mA ok hf true s.xs;refine⟨dG cx s.e s.xs,List.replicate (dG cx s.e s.xs).length [],h,?_,by rw[hen];simp,by simp,λj l c f h1 h2 h3=>?_⟩
 ·have:List.flatten (List.replicate (dG cx s.e s.xs).length ([]:List Nat))=[]:=flatten_nil' _;rw[this];simp
 ·rw[hen,aX,h2]at h1;simp only[aD,aB]at h1;subst h1;have:f=[]:=by
   have:=bC h3;exact(jO.1 this).2
  exact⟨rfl,this⟩
where
 flatten_nil':∀ n,List.flatten (List.replicate n ([]:List Nat))=[]
  | 0=>rfl
  | n+1=>by rw[gD,dA,flatten_nil' n];rfl
theorem xD (ok:cx.Ok){w:World}{n:Nat}{s:SlD cx.ty}(hf:cx.flat s.e=true){u:Value}{fp:List Nat}(h:OwnL cx w n (some (.inr s)) u fp):w.ownsRow 0 s.e (cx.size s.e) u s.xs.length (dG cx s.e s.xs)/\fp=u.ownBlock.toList:=by
 cases n with
 | zero=>simp[OwnL]at h
 | succ n=>
  obtain⟨us,fpl,hrow,hfp,hl1,hl2,h⟩:=h;have hen:=mA ok hf true s.xs;have hus:us=dG cx s.e s.xs:=by
   apply dV;intro j;by_cases hj:j < us.length
   ·have hjl:j < (dG cx s.e s.xs).length:=by rw[hl1,hen]at hj;simpa using hj
    have h1:(s.xs.flatMap (cx.enc s.e true))[j]?=some (lv (dG cx s.e s.xs)[j]):=by rw[hen];simp[hjl]
    have h3:fpl[j]?=some fpl[j]:=aC (by omega);have:=h j _ us[j] _ h1 (aC hj) h3;rw[aC hj,aC hjl];cases n<;>(simp only[lv,OwnL]at this;rw[this.1])
   ·rw[bQ (by omega),bQ (by rw[hl1,hen]at hj;simp at hj;omega)]
  have hnil:List.flatten fpl=[]:=by
   have:∀ f∈fpl,f=[]:=λf hf'=>by
    obtain⟨j,hj⟩:=dW hf';have hjf:j < fpl.length:=(aI.1 hj).1;have hju:j < us.length:=by omega
    have hjl:j < (dG cx s.e s.xs).length:=by rw[<-hus];exact hju
    have h1:(s.xs.flatMap (cx.enc s.e true))[j]?=some (lv (dG cx s.e s.xs)[j]):=by rw[hen];simp[hjl]
    have:=h j _ us[j] f h1 (aC hju) hj;cases n<;>(simp only[lv,OwnL]at this;exact this.2)
   exact lZ this
  rw[hnil]at hfp;subst hus;exact⟨hrow,by simpa using hfp⟩
def aDv {ty:Nat->Type}(nm e:Nat)(xs:List (ty e)):V ty:=vs { own:=1,nm:=nm,e:=e,o:=true,xs:=xs }
theorem oO {c:Ct cx.ty}{s:SlD cx.ty}{u:Value}{tk:Tk cx.ty}(h1:s.own=1)(hD:s.nm∉c.D)(hF:s.nm∉c.F)(ht:tk∈c.T)(hn:tk.nm=s.nm)(hc:tk.c=.inl s)(hu:tk.u=u)(hs:∃ a n cap,u=.slice a n cap):RepLS cx c (some (.inr s)) u:=by
 unfold RepLS;simp only[h1,if_true,hD,hF,if_false];exact⟨hs,tk,ht,hn,hc,hu⟩
theorem aFE {c:Ct cx.ty}{nm e:Nat}{xs:List (cx.ty e)}{u:Value}(h:RepLS cx c (some (.inr { own:=1,nm:=nm,e:=e,o:=true,xs:=xs })) u):RepV cx c (aDv nm e xs) u:=h
theorem aD0 (ok:cx.Ok){c:Ct cx.ty}(h:Wf cx c){nm0:Nat}(hf:∀ n,Nm c n->¬ (nm0<=n/\n < nm0+64)){e:Nat}(hflat:cx.flat e=true){xs:List (cx.ty e)}{us:Array Value}{cap:Nat}{r:List Nat}
  (hcap:xs.length<=cap) (hm:cap<=maxLen) (hs:us.size=cap * cx.size e) (ht:us.toList.take (xs.length * cx.size e)=dG cx e xs) :
  ∃ T',Good cx c (fY (aDv nm0 e xs) r) nm0 (.slice (some ⟨c.w.heap.size,0,none⟩) xs.length cap) (c.w.alloc (.cells us e)) T':=by
 have hb:=kQ c.w (.cells us e);refine⟨[{ nm:=nm0,u:=.slice (some ⟨c.w.heap.size,0,none⟩) xs.length cap,fp:=[],c:=.inl { own:=1,nm:=nm0,e:=e,o:=true,xs:=xs } }]++c.T,?_⟩;have hbd:∀ tk∈[({ nm:=nm0,u:=.slice (some ⟨c.w.heap.size,0,none⟩) xs.length cap,fp:=[],c:=.inl { own:=1,nm:=nm0,e:=e,o:=true,xs:=xs } }:Tk cx.ty)],∀ b∈vb tk.u++tk.fp,c.w.heap.size<=b/\b < (c.w.alloc (.cells us e)).heap.size:=by
  intro tk ht b hb';simp only[aO]at ht;subst ht;simp[vb]at hb';subst hb';simp
 refine rD h hb h.size (by simp) (by simp) (by simp[vb]) hbd hf (λtk htk=>?_) ?_
 ·simp only[aO]at htk;subst htk;have hrow:(c.w.alloc (.cells us e)).ownsRow 0 e (cx.size e) (.slice (some ⟨c.w.heap.size,0,none⟩) xs.length cap) xs.length (dG cx e xs):=
   ⟨jU ok hflat xs,.inr ⟨c.w.heap.size,cap,us,rfl,bX _,heap_alloc_new c.w _,hcap,hm,hs,ht⟩⟩
  refine⟨rfl,1,?_⟩;exact uP ok (s:={ own:=1,nm:=nm0,e:=e,o:=true,xs:=xs }) hflat hrow
 ·refine aFE (oO (s:={ own:=1,nm:=nm0,e:=e,o:=true,xs:=xs }) rfl ?_ ?_ (aA.2 (.inl (aO.2 rfl))) rfl rfl rfl ⟨_,_,_,rfl⟩)
  ·exact λhd=>hf _ (.inr (.inl hd)) ⟨aK _,by show nm0 < nm0+64;omega⟩
  ·exact λhd=>hf _ (.inr (.inr hd)) ⟨aK _,by show nm0 < nm0+64;omega⟩
theorem aD2 (ok:cx.Ok){e:Nat}(hf:cx.flat e=true)(x:cx.ty e):∀ n,dG cx e (List.replicate n x)=List.flatten (List.replicate n (dG cx e [x]))
 | 0=>rfl
 | n+1=>by
  rw[gD,gD,dA,<-aD2 ok hf x n];simp[dG,aR]
theorem kD {α:Type}(z:List α)(hz:0 < z.length):∀ (n j:Nat),j < n * z.length->(List.flatten (List.replicate n z))[j]?=z[j % z.length]?
 | 0,j,h=>by omega
 | n+1,j,h=>by
  rw[gD,dA];by_cases hj:j < z.length
  ·rw[bM hj,Nat.mod_eq_of_lt hj]
  ·rw[bJ (by omega),kD z hz n (j-z.length) (by rw[eZ]at h;omega)];congr 1;rw[Nat.mod_eq_sub_mod (a:=j) (by omega)]
theorem aBW {z:Array Value}{k n:Nat}(hz:0 < z.size)(hk:k<=n):(madeCells z (n * z.size)).toList.take (k * z.size)=List.flatten (List.replicate k z.toList):=by
 have hle:k * z.size<=n * z.size:=aQ _ hk;apply dV;intro j;rw[bK];by_cases hj:j < k * z.size
 ·rw[if_pos hj,kD z.toList (by simpa using hz) k j (by simpa using hj)];have hjn:j < n * z.size:=by omega
  have hm:j % z.size < z.size:=wN _ hz;simp[madeCells,hjn,hm]
 ·rw[if_neg hj,bQ];have:∀ k,(List.flatten (List.replicate k z.toList)).length=k * z.size:=by
   intro k
   induction k with
   | zero=>simp
   | succ k ih=>rw[gD,dA,aW,ih,eZ];simp;omega
  rw[this];omega
def aE2 {β:Type}(P:Program)(cx:Cx)(slots:List (V cx.ty))(t:TypeId)(lo co:Operand)(nm0:Nat)(k:Eff cx.ty->Option β):Option β:=
 match dU slots lo,dU slots co,eU P t with
 | .inl (.inl (some (.inl (.int _ l)))),.inl (.inl (some (.inl (.int _ c)))),some e=>
  if cx.flat e&&cx.dom e then
   bif decide (0<=l)&&decide (l<=c)&&decide (c<=1000000000)then k (fY (aDv nm0 e (List.replicate l.toNat (cx.dflt e))) [])else none
  else none
 | _,_,_=>none
theorem aG6 (ok:cx.Ok)(hZ:cx.POk P){β:Type}{o:Oper}{slots:List (V cx.ty)}{nm0:Nat}{t:TypeId}{lo co:Operand}(ho:o.op=.makeSlice t lo co){k:Eff cx.ty->Option β}{r:β}
  (h:aE2 P cx slots t lo co nm0 k=some r):∃ ef,k ef=some r/\EffOK P cx o slots nm0 ef:=by
 unfold aE2 at h;split at h
 ·rename_i kl l kc cc e hl hc he;split at h
  ·rename_i hfd;simp only[aJ]at hfd;obtain⟨hflat,hdom⟩:=hfd;cases hb:(decide (0<=l)&&decide (l<=cc)&&decide (cc<=1000000000))with
   | false=>rw[hb]at h;simp at h
   | true=>
    rw[hb]at h;simp only[aJ,decide_eq_true_eq]at hb;obtain⟨⟨h0,hlc⟩,hcm⟩:=hb;refine⟨_,h,⟨λc ρ hw hop _ _ hf=>?_⟩⟩;have h1:=hop lo (by simp[ho,Op.operands]);rw[hl]at h1;have h1:ρ lo=.int kl l:=h1;have h2:=hop co (by simp[ho,Op.operands]);rw[hc]at h2;have h2:ρ co=.int kc cc:=h2;obtain⟨i,z,hi,hz,hsz,hby,hzs,hpos,henc⟩:=hZ.zero e hdom;have hbytes:(i.bytes:Int) * cc<=281474976710656:=by
     have a1:(i.bytes:Int) * cc<=100000 * cc:=Int.mul_le_mul_of_nonneg_right (by omega) (by omega);omega
    have hrun0:=run_make (P:=P) c.w t e i z (fS he) hi hz kl kc l cc h0 hlc hbytes (by omega);have hrun:(execOp ρ o).run P c.w=.ok (.value (.slice (some ⟨c.w.heap.size,0,none⟩) l.toNat cc.toNat)) (c.w.alloc (.cells (madeCells z.cells (cc.toNat * i.size)) e)):=by
     unfold execOp;simp only[ho,h1,h2,Sem.run_bind,hrun0,Result.andThen_ok,Sem.run_pure]
    unfold Runs;rw[hrun];have hdef:dG cx e [cx.dflt e]=z.cells.toList:=by
     have a1:[cx.dflt e].flatMap (cx.enc e true)=z.cells.toList.map lv:=by simp[henc]
     unfold dG;rw[a1];have:∀ l:List Value,(l.map (lv (ty:=cx.ty))).filterMap mK=l:=by
      intro l
      induction l with
      | nil=>rfl
      | cons a r ih=>
       show a::List.filterMap mK (List.map lv r)=a::r;rw[ih]
     exact this _
    have hg:=aD0 ok hw hf hflat (xs:=List.replicate l.toNat (cx.dflt e)) (us:=madeCells z.cells (cc.toNat * i.size)) (cap:=cc.toNat) (r:=[]) (by simp;omega) (by simp[maxLen];omega) (by simp[size_madeCells,hsz]) (by
     rw[aD2 ok hflat,hdef];simp only[mC];rw[hsz,<-hzs];exact aBW (by rw[hzs];exact hpos) (by omega))
    simpa using hg
  ·simp at h
 ·simp at h
def aFp {ty:Nat->Type}(z:Array Value)(n:Nat):List (L ty):=((Array.range n).map (z[· % z.size]!)).toList.map lv
def pM {β:Type}(P:Program)(cx:Cx)(slots:List (V cx.ty))(t:TypeId)(len:Nat)(parts:List (Nat×Operand))(nm0:Nat)(k:Eff cx.ty->Option β):Option β:=
 match eU P t with
 | some e=>if cx.flat e&&cx.dom e&&tY P cx e&&decide (len * cx.size e<=1000000)then
   match P.info? e with
   | some i=>match i.zero with
    | some z=>match xF (λj=>some (j * cx.size e,cx.size e)) (aFp (if len * cx.size e=0 then #[]else z.cells) (len * cx.size e)) (parts.map λ(j,x)=>(j,dU slots x))with
     | some cells=>match aC5 cx e len cells with
      | some xs=>k (fY (aDv nm0 e xs) [])
      | none=>none
     | none=>none
    | none=>none
   | none=>none
  else none
 | none=>none
theorem xT (ok:cx.Ok)(hZ:cx.POk P){β:Type}{o:Oper}{slots:List (V cx.ty)}{nm0:Nat}{t:TypeId}{len:Nat}{parts:Array (Nat×Operand)}(ho:o.op=.buildSlice t len parts){k:Eff cx.ty->Option β}{r:β}
  (h:pM P cx slots t len parts.toList nm0 k=some r):∃ ef,k ef=some r/\EffOK P cx o slots nm0 ef:=by
 unfold pM at h;split at h
 ·rename_i e he;split at h
  ·rename_i hc;simp only[aJ,decide_eq_true_eq]at hc;obtain⟨⟨⟨hflat,hdom⟩,hel⟩,hlen⟩:=hc;obtain⟨⟨d,hd⟩,hcs⟩:=mB hel;obtain⟨i,z,hi,hz,hsz,hby,hzs,hpos,henc⟩:=hZ.zero e hdom;rw[hi]at h;simp only[hz]at h;split at h
   ·rename_i cells hcells;split at h
    ·rename_i xs hxs;refine⟨_,h,⟨λc ρ hw hop _ _ hf=>?_⟩⟩;obtain⟨us',h1,h2⟩:=oT (c:=c) (parts.toList.map λp=>(p.1,dU slots p.2)) (parts.toList.map λp=>(p.1,ρ p.2)) (aFp (if len * cx.size e=0 then #[]else z.cells) (len * cx.size e)) ((Array.range (len * cx.size e)).map ((if len * cx.size e=0 then #[]else z.cells)[· % (if len * cx.size e=0 then #[]else z.cells).size]!)) cells (aAg _) (by simp) (λj p q e1 e2=>by
      simp only[aX]at e1 e2;cases hx:parts.toList[j]? with
      | none=>simp[hx]at e1
      | some x=>
       simp only[hx,aD,aB]at e1 e2;subst e1;subst e2;refine⟨rfl,hop x.2 ?_⟩;simp only[ho,Op.operands,kF,aM];exact⟨x,bC hx,rfl⟩) hcells
     obtain⟨hxl,hxe⟩:=oX ok true len cells xs hxs;have hus:us'.toList=dG cx e xs:=by
      have hen:=mA ok hflat true xs;rw[<-hxe]at hen;apply dV;intro j;by_cases hj:j < us'.toList.length
      ·have hjc:j < cells.length:=by rw[<-h2.1];exact hj
       have hjf:j < (dG cx e xs).length:=by
        have:=congrArg List.length hen;simp at this;omega
       have h3:=h2.2 j _ _ (aC hjc) (aC hj);have h4:weak true cells[j]=lv (dG cx e xs)[j]:=by
        have:=congrArg (λl=>l[j]?) hen;simpa[hjc,hjf]using this
       rw[aC hj,aC hjf];have h5:cells[j]=lv (dG cx e xs)[j]:=by
        match hcj:cells[j],h4 with
        | none,h4=>simp[weak,lv]at h4
        | some (.inl v),h4=>exact h4
        | some (.inr s),h4=>simp[weak,lv]at h4
       rw[h5]at h3;have h3:us'.toList[j]=(dG cx e xs)[j]:=h3;rw[h3]
      ·rw[bQ (by omega),bQ];have:=congrArg List.length hen;simp at this;have:=h2.1;omega
     have hsize:us'.size=len * cx.size e:=by
      have:=jU ok hflat xs;rw[<-hus,hxl]at this;simpa using this
     have hrun:(execOp ρ o).run P c.w=.ok (.value (.slice (some ⟨c.w.heap.size,0,none⟩) len len)) (c.w.alloc (.cells us' e)):=by
      have hso:(sizeOf e).run P c.w=.ok (cx.size e) c.w:=by rw[eD hd,hcs]
      have hn24:¬ (2 ^ 24 < len * cx.size e):=by omega
      have h1':Instr.fill (λj=>some (j * cx.size e,cx.size e)) ((Array.range (len * cx.size e)).map ((if len * cx.size e=0 then #[]else z.cells)[· % (if len * cx.size e=0 then #[]else z.cells).size]!)) (parts.map λp=>(p.1,ρ p.2)).toList=some us':=by simpa using h1
      have hz':(zeroValue e).run P c.w=.ok z c.w:=by simp[zeroValue,typeInfo,hi,hz]
      have hbuild:(Instr.buildSlice t len (parts.map λp=>(p.1,ρ p.2))).run P c.w=.ok (.slice (some ⟨c.w.heap.size,0,none⟩) len len) (c.w.alloc (.cells us' e)):=by
       unfold Instr.buildSlice;rw[Sem.run_bind,run_underlying (fS he),Result.andThen_ok];dsimp only;rw[Sem.run_bind,hso,Result.andThen_ok];by_cases hz0:len * cx.size e=0
       ·simp only[hz0,if_true]at h1' ⊢;simp at h1';simp[h1',newRow]
       ·simp only[hz0,if_false]at h1' ⊢;simp at h1';simp[hn24,hz',h1',newRow]
      unfold execOp;simp only[ho,Sem.run_bind];rw[hbuild]
      rfl
     unfold Runs;rw[hrun];have hg:=aD0 ok hw hf hflat (xs:=xs) (us:=us') (cap:=len) (r:=[]) (by omega) (by have:=dZ (Nat.le_mul_of_pos_right len hpos) hlen;simp[maxLen];omega) hsize (by
      rw[hxl,<-hus];rw[cT];simp[hsize])
     rw[hxl]at hg;exact hg
    ·simp at h
   ·simp at h
  ·simp at h
 ·simp at h
end
end Go.VM
