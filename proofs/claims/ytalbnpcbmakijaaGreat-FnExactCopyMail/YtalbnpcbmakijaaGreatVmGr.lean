/- A part of the proof of FnExactCopyMail: VmGr, VmGs, VmGt. -/
import Derived.Test.YtalbnpcbmakijaaGreatVmPl
import Derived.WalkKit
import Derived.OwnWalkIn
import Derived.Below
import Derived.WalkMore
import Derived.Test.YtalbnpcbmakijaaGreatVmCb
import Derived.Laws.CopyOwn
set_option linter.unusedSimpArgs false
set_option linter.unusedVariables false
namespace Go
open Go.RowKit
section
variable {P : Program} (w : World)
end
end Go
namespace Go.VM
open Go Go.RowKit
section
variable {cx : Cx}
theorem tA {w:World}{S:Nat->Prop}{n:Nat}{e:Nat}{xs:List (cx.ty e)}{u:Value}(h:RepL cx w S n (some (.inr (ro e xs))) u) :
  ∃ q c,u=.slice q xs.length c/\xs.length<=c/\(xs=[]\/∃ b off,q=some ⟨b,off,none⟩/\S b/\∀ i x,xs[i]?=some x->∀ j l,(cx.enc e false x)[j]?=some l->∃ v m,w.cell? ⟨b,off+(i * cx.size e+j),none⟩=some v/\RepL cx w S m l v):=by
 cases n with
 | zero=>exact h.elim
 | succ n=>
  obtain⟨a,cap,hu,hc,h⟩:=h;refine⟨a,cap,hu,hc,?_⟩;rcases h with h | ⟨b,off,ha,hS,h⟩
  ·exact .inl h
  ·refine .inr ⟨b,off,ha,hS,λi x hx j l hl=>?_⟩;obtain⟨v,h1,h2⟩:=h i x hx j l hl;exact⟨v,n,h1,h2⟩
theorem vQ {α β:Type}(f:α->List β)(k:Nat)(hk:0 < k)(hf:∀ x,(f x).length=k)(xs:List α)(j:Nat)(y:β)(h:(xs.flatMap f)[j]?=some y):∃ x,xs[j / k]?=some x/\(f x)[j % k]?=some y:=by
 have hj:j < (xs.flatMap f).length:=(aD.1 h).1;rw[eP f k hf]at hj;have hi:j / k < xs.length:=Nat.div_lt_of_lt_mul (by rw[gL];exact hj);have hx:=aC hi;refine⟨_,hx,?_⟩;have:=iY f k hf xs (j / k) _ hx (j % k) (tG _ hk);rw[gL,iP]at this;rw[<-this];exact h
theorem aAI (ok:cx.Ok){w:World}{S:Nat->Prop}{n:Nat}{e:Nat}(hf:cx.flat e=true)(hp:0 < cx.size e){xs:List (cx.ty e)}{u:Value}(h:RepL cx w S n (some (.inr (ro e xs))) u) :
  ∃ q c,u=.slice q xs.length c/\xs.length<=c/\(xs=[]\/∃ b off,q=some ⟨b,off,none⟩/\S b/\∀ j v,(bT cx e xs)[j]?=some v->w.cell? ⟨b,off+j,none⟩=some v):=by
 obtain⟨q,c,hu,hc,h⟩:=tA h;refine⟨q,c,hu,hc,?_⟩;rcases h with h | ⟨b,off,ha,hS,h⟩
 ·exact .inl h
 ·refine .inr ⟨b,off,ha,hS,λj v hv=>?_⟩;have hm:(xs.flatMap (cx.enc e false))[j]?=some (lv v):=by
   rw[kX ok hf false,aQ,hv];rfl
  obtain⟨x,hx,hl⟩:=vQ _ _ hp (λx=>ok.len e false x) xs j _ hm;obtain⟨v',m,h1,h2⟩:=h _ x hx _ _ hl;have e1:j / cx.size e * cx.size e+j % cx.size e=j:=by rw[gL];exact iP ..
  rw[e1]at h1;have e2:v'=v:=by
   cases m<;>simpa[RepL,lv]using h2
  rw[h1,e2]
theorem aGC (ok:cx.Ok){w':World}{A0:Nat->Prop}{e:Nat}(hf:cx.flat e=true){xs:List (cx.ty e)}{v:Value}{N:Nat->Prop}(hN:∀ b,v.ownBlock=some b->N b/\b < w'.heap.size)
  (h:w'.ownsRow 0 e (cx.size e) v xs.length (bT cx e xs)):ResV cx w' A0 N (.inl (.inl (ls { own:=2,nm:=0,e:=e,o:=true,xs:=xs }))) v:=by
 refine⟨v.ownBlock.toList,?_,λb hb=>hN b (by simpa using hb),?_⟩
 ·cases v.ownBlock<;>simp
 ·have:=nP (s:={ own:=2,nm:=0,e:=e,o:=true,xs:=xs }) ok hf h;show ResA cx w' (λb=>A0 b\/(N b/\b < w'.heap.size/\b∉v.ownBlock.toList)) (.inl (ls { own:=2,nm:=0,e:=e,o:=true,xs:=xs })) v v.ownBlock.toList;unfold ResA ResL;simp only[ls,if_true];exact⟨trivial,1,this⟩
theorem kT {w:World}{B e size n:Nat}{v:Value}{xs:List Value}(h:w.ownsRow B e size v n xs):w.ownsRow 0 e size v n xs:=
 ⟨h.1,h.2.imp id λ⟨g,cap,cur,h1,_,h3⟩=>⟨g,cap,cur,h1,dZ _,h3⟩⟩
end
end Go.VM
namespace Go
open Go.RowKit
theorem aB8 {P:Program}(w:World)(dT sT ty elem:TypeId)(g o dLen dCap:Nat)(a:Addr)(sLen sCap:Nat)(cur:Array Value)(t:TypeId)(cs:List Value)(K:Nat)
  (hu:P.underlying dT=some (.slice elem)) (hs:(P.info? elem).map (·.size)=some K)
  (hg:w.heap[g]?=some (.cells cur t (0,0))) (hn:cs.length=Nat.min sLen dLen * K)
  (hsrc:∀ j v,cs[j]?=some v->w.cell? (a.add j)=some v) (hfit:o+cs.length<=cur.size) (h1:∀ v∈cs,v.oneCell'=true) :
  (Builtin.copy_ #[dT,sT] ty #[.slice (some ⟨g,o,none⟩) dLen dCap,.slice (some a) sLen sCap]).run P w=
   .ok (goInt (Nat.min sLen dLen:Nat)) (w.setRow g (cur.toList.take o++cs++cur.toList.drop (o+cs.length)).toArray):=by
 have hl:=run_loadCells_list (P:=P) w a cs hsrc;have hst:=run_storeCells_at P g o t cs 0 cur w hg (by simpa using hfit) h1;cases hq:P.info? elem with
 | none=>simp[hq]at hs
 | some i=>
  have hi:i.size=K:=by simpa[hq]using hs
  rw[hn]at hl;simp[Builtin.copy_,run_underlying hu,Builtin.lenOf,Builtin.firstCells,sizeOf,typeInfo,hq,hi,hl,hst]
theorem iN {P:Program}{w:World}{ops:Array Oper}{rest:List Oper}{o:Oper}{a:Act}{Q:Exit->Act->World->Prop}(hgd:o.guard=none)(d s:Operand)(dT sT:TypeId)
  (ho:o.op=.call { callee:=.builtin .copy,args:=#[d,s],argTypes:=#[dT,sT] }) (elem:TypeId) (K:Nat) (hu:P.underlying dT=some (.slice elem)) (hsz:(P.info? elem).map (·.size)=some K)
  (g off dLen dCap:Nat) (ad:Addr) (sLen sCap:Nat) (hd:a.eval d=.slice (some ⟨g,off,none⟩) dLen dCap) (hs:a.eval s=.slice (some ad) sLen sCap)
  (cur:Array Value) (t:TypeId) (hg:w.heap[g]?=some (.cells cur t (0,0))) (cs:List Value) (hn:cs.length=Nat.min sLen dLen * K)
  (hsrc:∀ j v,cs[j]?=some v->w.cell? (ad.add j)=some v) (hfit:off+cs.length<=cur.size) (h1:∀ v∈cs,v.oneCell'=true)
  (h:wpList P ops Q rest (a.put o.dst (goInt (Nat.min sLen dLen:Nat))) (w.setRow g (cur.toList.take off++(cs++cur.toList.drop (off+cs.length))).toArray)):wpList P ops Q (o::rest) a w:=by
 refine wpList_plain hgd λK' hK=>?_
 have hrun:=aB8 (P:=P) w dT sT o.type elem g off dLen dCap ad sLen sCap cur t cs K hu hsz hg hn hsrc hfit h1;unfold Oper.wp;simp[execOp,ho,resolve,invoke,builtin,hd,hs,hrun,Result.andThen];exact hK _ _ h
theorem gD {w:World}{B e K n g cap':Nat}{xs:List Value}(h:w.ownsRow B e K (.slice (some ⟨g,0,none⟩) n cap') n xs) :
  ∃ cur,w.heap[g]?=some (.cells cur e (0,0))/\cur.size=cap' * K/\B<=g/\n<=cap'/\cap'<=maxLen/\xs=cur.toList.take (n * K):=by
 rcases h.2 with⟨hx,_⟩ | ⟨g',cap,cur,hv,hbg,hg,hnc,hcm,hcs,htake⟩
 ·injection hx with h1 h2 h3;cases h1
 ·injection hv with h1 h2 h3
  injection h1 with h1
  injection h1 with h1 h4 h5
  subst h1;subst h3;exact⟨cur,hg,hcs,hbg,hnc,hcm,htake.symm⟩
theorem lX {w:World}{B e K n g cap':Nat}{xs:List Value}(h:w.ownsRow B e K (.slice (some ⟨g,0,none⟩) n cap') n xs)(cur':Array Value)(hs:cur'.size=cap' * K)(xs':List Value)(hx:cur'.toList.take (n * K)=xs')(hl:xs'.length=n * K) :
  (w.setRow g cur').ownsRow B e K (.slice (some ⟨g,0,none⟩) n cap') n xs':=by
 obtain⟨cur,hg,hcs,hbg,hnc,hcm,ht⟩:=gD h;exact⟨hl,.inr ⟨g,cap',cur',rfl,hbg,setRow_heap w g cur cur' e (0,0) hg,hnc,hcm,hs,hx⟩⟩
theorem zL {P:Program}(w:World)(g o:Nat)(t ty:TypeId)(cur:Array Value)(cs:List Value)(hg:w.heap[g]?=some (.cells cur t (0,0)))(hi:(P.info? ty).map (·.size)=some cs.length)
  (hfit:o+cs.length<=cur.size) (h1:∀ v∈cs,v.oneCell'=true) :
  (storeVar ty ⟨g,o,none⟩ (.agg cs.toArray)).run P w=.ok () (w.setRow g (cur.toList.take o++cs++cur.toList.drop (o+cs.length)).toArray):=by
 have:=run_storeCells_at P g o t cs 0 cur w hg (by simpa using hfit) h1;cases hq:P.info? ty with
 | none=>simp[hq]at hi
 | some i=>
  have hs:cs.length=i.size:=by simp[hq]at hi;omega
  simp[storeVar,sizeOf,typeInfo,hq,Value.cells,hs]at this ⊢;simpa[hs]using this
theorem zK {P:Program}{w:World}{ops:Array Oper}{rest:List Oper}{o:Oper}{a:Act}{Q:Exit->Act->World->Prop}(hgd:o.guard=none)(ty:TypeId)(x y:Operand)(ho:o.op=.store ty x y)
  (g off:Nat) (cur:Array Value) (cs:List Value) (t:TypeId) (hx:a.eval x=.pointer (some ⟨g,off,none⟩)) (hy:a.eval y=.agg cs.toArray) (hg:w.heap[g]?=some (.cells cur t (0,0)))
  (hi:(P.info? ty).map (·.size)=some cs.length) (hfit:off+cs.length<=cur.size) (h1:∀ v∈cs,v.oneCell'=true)
  (h:wpList P ops Q rest (a.put o.dst undef) (w.setRow g (cur.toList.take off++cs++cur.toList.drop (off+cs.length)).toArray)):wpList P ops Q (o::rest) a w:=by
 refine wpList_plain hgd λK hK=>?_
 unfold Oper.wp execOp;simp only[ho,hx,hy,Instr.storeAt,Instr.sureAddr,Sem.run_bind,Sem.run_pure,Result.andThen_ok,zL w g off t ty cur cs hg hi hfit h1];exact hK _ _ h
end Go
namespace Go.VM
open Go Go.RowKit
section
variable {cx : Cx}
theorem aJi (ok:cx.Ok){w:World}{S:Nat->Prop}{m e:Nat}{o:Bool}{x:cx.ty e}{l:L cx.ty}(hl:l∈cx.enc e o x){v:Value}(h:RepL cx w S m l v):v.oneCell'=true:=by
 rcases ok.leaf e o x l hl with⟨v',rfl,hv⟩ | ⟨s,rfl,_⟩
 ·have:v=v':=by cases m<;>simpa[RepL]using h
  rw[this];exact hv
 ·cases m with
  | zero=>exact h.elim
  | succ m=>obtain⟨a,cap,hu,_⟩:=h;rw[hu];rfl
theorem aEp (ok:cx.Ok){w:World}{S:Nat->Prop}{n e K:Nat}(hK:cx.size e=K)(hp:0 < K){xs:List (cx.ty e)}{u:Value}(h:RepL cx w S n (some (.inr (ro e xs))) u) :
  ∃ (q:Option Addr) (c:Nat) (us:List Value),u=.slice q xs.length c/\xs.length<=c/\us.length=xs.length * K/\(∀ x∈us,x.oneCell'=true) ∧
   (xs.length≠0->∃ b off,q=some ⟨b,off,none⟩/\S b/\∀ (j:Nat) v,us[j]?=some v->w.cell? ⟨b,off+j,none⟩=some v) ∧
   ∀ (i:Nat) x,xs[i]?=some x->∀ (t:Nat) l,(cx.enc e false x)[t]?=some l->∃ v m,us[i * K+t]?=some v/\RepL cx w S m l v:=by
 obtain⟨q,c,hu,hc,h⟩:=tA h;subst hK;rcases h with rfl | ⟨b,off,rfl,hS,h⟩
 ·exact⟨q,c,[],hu,hc,by simp,by simp,λh=>absurd rfl h,λi x hx=>by simp at hx⟩
 ·have hget:∀ (i:Nat) x,xs[i]?=some x->∀ t,t < cx.size e->i * cx.size e+t < xs.length * cx.size e:=λi x hx t ht=>by
   have hi:i < xs.length:=(aD.1 hx).1;have:(i+1) * cx.size e<=xs.length * cx.size e:=bR _ hi;rw[eS]at this;omega
  have hall:∀ j,j < xs.length * cx.size e->∃ v,w.cell? ⟨b,off+j,none⟩=some v/\v.oneCell'=true:=λj hj=>by
   have hi:j / cx.size e < xs.length:=Nat.div_lt_of_lt_mul (by rw[gL];exact hj);have hx:=aC hi;have hm:j % cx.size e < (cx.enc e false xs[j / cx.size e]).length:=by rw[ok.len];exact tG _ hp
   obtain⟨v,m,h1,h2⟩:=h _ _ hx _ _ (aC hm);have e1:j / cx.size e * cx.size e+j % cx.size e=j:=by rw[gL];exact iP ..
   rw[e1]at h1;exact⟨v,h1,aJi ok (eB hm) h2⟩
  refine⟨_,c,(List.range (xs.length * cx.size e)).map λj=>(w.cell? ⟨b,off+j,none⟩).getD undef,hu,hc,by simp,λx hx=>?_,λ_=>⟨b,off,rfl,hS,λj v hj=>?_⟩,λi x hx t l hl=>?_⟩
  ·obtain⟨j,hj,rfl⟩:=aH.1 hx;obtain⟨v,h1,h2⟩:=hall j (fL.1 hj);rw[h1];exact h2
  ·obtain⟨k,hk,rfl⟩:∃ k,(List.range (xs.length * cx.size e))[j]?=some k/\(w.cell? ⟨b,off+k,none⟩).getD undef=v:=by simpa using hj
   obtain⟨hk1,hk2⟩:=aD.1 hk;simp only[List.length_range]at hk1;simp only[List.getElem_range]at hk2;subst hk2;obtain⟨v,h1,h2⟩:=hall j hk1;rw[h1];rfl
  ·have ht:t < cx.size e:=by
    have:=(aD.1 hl).1
    rwa [ok.len]at this
   obtain⟨v,m,h1,h2⟩:=h i x hx t l hl;refine⟨v,m,?_,h2⟩;have:=hget i x hx t ht;simp[this,h1]
theorem pZ {α β:Type}(f:α->List (List β)):∀ l:List α,(l.flatMap f).flatten=l.flatMap λx=>(f x).flatten
 | []=>rfl
 | a::l=>by simp only[aR,cP,pZ f l]
theorem aEw (ok:cx.Ok){w:World}{e K m:Nat}(hK:cx.size e=K)(hp:0 < K){xs:List (cx.ty e)}{v:Value}{us:List Value}(F:Nat->List (List Nat))(hF:∀ i,(F i).length=K)
  (hrow:w.ownsRow 0 e K v xs.length us)
  (hel:∀ (i:Nat) x,xs[i]?=some x->∀ (t:Nat) l c f,(cx.enc e true x)[t]?=some l->us[i * K+t]?=some c->(F i)[t]?=some f->OwnL cx w m l c f) :
  OwnL cx w (m+1) (some (.inr { own:=2,nm:=0,e:=e,o:=true,xs:=xs })) v (v.ownBlock.toList++(List.range xs.length).flatMap λi=>(F i).flatten):=by
 subst hK;have hl1:(xs.flatMap (cx.enc e true)).length=xs.length * cx.size e:=by rw[eP _ _ (λx=>ok.len e true x)]
 have hl2:((List.range xs.length).flatMap F).length=xs.length * cx.size e:=by rw[eP _ _ hF,List.length_range]
 refine⟨us,(List.range xs.length).flatMap F,hrow,by rw[pZ],by rw[hl1];exact hrow.1,by rw[hl2];exact hrow.1.symm,λj l c f h1 h2 h3=>?_⟩;obtain⟨x,hx,hl⟩:=vQ _ _ hp (λx=>ok.len e true x) xs j _ h1;obtain⟨i,hi,hf⟩:=vQ _ _ hp hF (List.range xs.length) j _ h3;have e1:j / cx.size e * cx.size e+j % cx.size e=j:=by rw[gL];exact iP ..
 have hi2:i=j / cx.size e:=by
  obtain⟨_,h⟩:=aD.1 hi;simpa using h.symm
 subst hi2;exact hel _ x hx _ l c f hl (by rw[e1];exact h2) hf
end
end Go.VM
