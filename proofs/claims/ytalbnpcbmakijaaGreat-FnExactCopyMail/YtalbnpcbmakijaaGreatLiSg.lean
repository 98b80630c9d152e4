/- A part of the proof of FnExactCopyMail: LiSg, LiSh. -/
import Derived.Test.YtalbnpcbmakijaaGreatLiSd
set_option linter.unusedSimpArgs false
set_option linter.unusedVariables false
namespace Go.Proofs.Tryz
open Go Go.VM Go.RowKit
def zN (K:Nat)(D:List (List Value))(us:List Value):List Value:=D.flatten++us.drop (D.length * K)
theorem aBv {K:Nat}:∀ {D:List (List Value)},(∀ d∈D,d.length=K)->D.flatten.length=D.length * K
 | [],_=>by simp
 | d::D,h=>by
  rw[cA,cT,aBv (λd hd=>h d (by simp[hd])),h d (by simp),eA,eS];omega
theorem aJc {K:Nat}{D:List (List Value)}(hD:∀ d∈D,d.length=K)(us:List Value)(t:Nat):(zN K D us)[D.length * K+t]?=us[D.length * K+t]?:=by
 unfold zN;rw[aY (by rw[aBv hD];omega),aBv hD,dW];congr 1;omega
theorem aFm {α:Type}{L A1 A2 ds:List α}{N a k:Nat}(h:L.take N=A1++A2)(h1:A1.length=a)(h2:ds.length=k)(h3:A2.length=N-a)(hk:a+k<=N)(hN:N<=L.length) :
  (L.take a++ds++L.drop (a+k)).take N=A1++ds++A2.drop k:=by
 subst h1;subst h2;have hL:L=A1++A2++L.drop N:=by rw[<-h,cQ]
 generalize L.drop N=R at hL
 subst hL;have e1:(A1++A2++R).take A1.length=A1:=by rw[eC];simp
 have e2:(A1++A2++R).drop (A1.length+ds.length)=A2.drop ds.length++R:=by
  rw[eC,List.drop_append,List.drop_of_length_le (by omega),sU];rw[show A1.length+ds.length-A1.length=ds.length by omega,mM (by omega)]
 rw[e1,e2,<-eC];rw[iZ (by simp;omega)];rw[eL (by simp;omega)]
theorem aHs {w2:World}{B g cap n K e:Nat}{us ds:List Value}{D:List (List Value)}(hD:∀ d∈D,d.length=K)(hl:us.length=n * K)(hlt:D.length < n)(hds:ds.length=K)
  (cur:Array Value) (hbg:B<=g) (hnc:n<=cap) (hcm:cap<=maxLen) (hcs:cur.size=cap * K) (htake:zN K D us=cur.toList.take (n * K)) (hg2:w2.heap[g]?=some (.cells cur e (0,0))) :
  (w2.setRow g (cur.toList.take (D.length * K)++ds++cur.toList.drop (D.length * K+ds.length)).toArray).ownsRow B e K (.slice (some ⟨g,0,none⟩) n cap) n (zN K (D++[ds]) us):=by
 have hle:(D.length+1) * K<=n * K:=bR _ hlt;have hle2:n * K<=cap * K:=bR _ hnc;rw[eS]at hle;have hsp:=aFm (ds:=ds) (k:=ds.length) htake.symm (aBv hD) rfl (by rw[kF,hl]) (by omega) (by simp;omega);have hrow:zN K (D++[ds]) us=D.flatten++ds++(us.drop (D.length * K)).drop ds.length:=by
  unfold zN;rw[cP,jC];congr 2
  ·simp
  ·rw[hds,cT,eS];simp
 refine⟨?_,.inr ⟨g,cap,_,rfl,hbg,setRow_heap w2 g cur _ e (0,0) hg2,hnc,hcm,?_,?_⟩⟩
 ·unfold zN;rw[cT,aBv (K:=K) (λd hd=>by rcases aA.1 hd with h | h;exact hD d h;simp only[aI]at h;rw[h];exact hds),kF,hl,cT,eS];simp;omega
 ·simp;omega
 ·rw[hrow,<-hsp]
end Go.Proofs.Tryz
namespace Go.Proofs.Tryz
open Go Go.VM Go.RowKit
def Gives (f:FuncId)(a:Value)(O:World->Value->List Nat->Prop)(W:World):Prop:=
 Calls prog f #[a] W λe W'=>∃ p m k fp,e=.returned (.slice p m k)/\Below W.heap.size W W'/\fp.Nodup/\(∀ b∈fp,W.heap.size<=b/\b < W'.heap.size)/\O W' (.slice p m k) fp
theorem bBp (W:World)(b:Nat)(v0 v1 v2 v3 u0 u1 u2 u3:Value)(h:W.heap[b]?=some (.cells #[u0,u1,u2,u3] 35 (0,0))) :
  ((((W.setCell ⟨b,0,none⟩ v0).setCell ⟨b,1,none⟩ v1).setCell ⟨b,2,none⟩ v2).setCell ⟨b,3,none⟩ v3).heap[b]?=some (.cells #[v0,v1,v2,v3] 35 (0,0)) ∧
  (∀ k,k≠b->((((W.setCell ⟨b,0,none⟩ v0).setCell ⟨b,1,none⟩ v1).setCell ⟨b,2,none⟩ v2).setCell ⟨b,3,none⟩ v3).heap[k]?=W.heap[k]?) ∧
  ((((W.setCell ⟨b,0,none⟩ v0).setCell ⟨b,1,none⟩ v1).setCell ⟨b,2,none⟩ v2).setCell ⟨b,3,none⟩ v3).heap.size=W.heap.size ∧
  (∀ B w0,B<=b->Below B w0 W->Below B w0 ((((W.setCell ⟨b,0,none⟩ v0).setCell ⟨b,1,none⟩ v1).setCell ⟨b,2,none⟩ v2).setCell ⟨b,3,none⟩ v3)):=by
 have h1:=heap_setCell_same W b 0 _ 35 v0 h;have h2:=heap_setCell_same _ b 1 _ 35 v1 h1;have h3:=heap_setCell_same _ b 2 _ 35 v2 h2;refine⟨heap_setCell_same _ b 3 _ 35 v3 h3,λk hk=>?_,by simp,λB w0 hB h=>(((h.setCell (p:=⟨b,0,none⟩) hB _).setCell (p:=⟨b,1,none⟩) hB _).setCell (p:=⟨b,2,none⟩) hB _).setCell (p:=⟨b,3,none⟩) hB _⟩;rw[heap_setCell_other _ _ _ _ hk,heap_setCell_other _ _ _ _ hk,heap_setCell_other _ _ _ _ hk,heap_setCell_other _ _ _ _ hk]
theorem aWD {w W0 wr w5 w6 w7 Wf:World}{n:Nat}{v0 v1 v2 v3:Value}{D:List (List Value)}{FS:List (List (List Nat))}{f1 f2 f3:List Nat}{us:List Value}(hl:us.length=n * 10)(hDn:D.length=n)(hFD:FS.length=D.length)
  {El:Nat->World->List Value->List (List Nat)->Prop} (hmono:∀ i W W' ds fs,(∀ b∈fs.flatten,W'.heap[b]?=W.heap[b]?)->El i W ds fs->El i W' ds fs)
  {O1 O2 O3:World->Value->List Nat->Prop} (hO1:∀ W W' v f,(∀ b∈f,W'.heap[b]?=W.heap[b]?)->O1 W v f->O1 W' v f) (hO2:∀ W W' v f,(∀ b∈f,W'.heap[b]?=W.heap[b]?)->O2 W v f->O2 W' v f) (hO3:∀ W W' v f,(∀ b∈f,W'.heap[b]?=W.heap[b]?)->O3 W v f->O3 W' v f)
  (hrow:wr.ownsRow W0.heap.size 96 10 v0 n (zN 10 D us)) (hEl:∀ (i:Nat) d f,D[i]?=some d->FS[i]?=some f->El i wr d f) (hnd:(v0.ownBlock.toList++FS.flatten.flatten).Nodup)
  (hbd:∀ b∈FS.flatten.flatten,W0.heap.size<=b/\b < wr.heap.size) (hs0:W0.heap.size=w.heap.size+2) (hB0:Below w.heap.size w W0) (hB:Below W0.heap.size W0 wr) (hb5:Below wr.heap.size wr w5) (hb6:Below w5.heap.size w5 w6) (hb7:Below w6.heap.size w6 w7)
  (hn5:f1.Nodup) (hn6:f2.Nodup) (hn7:f3.Nodup) (hf5:∀ b∈f1,wr.heap.size<=b/\b < w5.heap.size) (hf6:∀ b∈f2,w5.heap.size<=b/\b < w6.heap.size) (hf7:∀ b∈f3,w6.heap.size<=b/\b < w7.heap.size)
  (hO5:O1 w5 v1 f1) (hO6:O2 w6 v2 f2) (hO7:O3 w7 v3 f3) (hoth:∀ k,k≠w.heap.size+1->Wf.heap[k]?=w7.heap[k]?) (hsz:Wf.heap.size=w7.heap.size) (hBf:Below w.heap.size w w7->Below w.heap.size w Wf) :
  Wf.ownsRow w.heap.size 96 10 v0 n D.flatten/\(∀ (i:Nat) d f,D[i]?=some d->FS[i]?=some f->El i Wf d f)/\O1 Wf v1 f1/\O2 Wf v2 f2/\O3 Wf v3 f3 ∧
   (v0.ownBlock.toList++FS.flatten.flatten++f1++f2++f3).Nodup/\(∀ b∈v0.ownBlock.toList++FS.flatten.flatten++f1++f2++f3,w.heap.size<=b/\b < Wf.heap.size)/\Below w.heap.size w Wf:=by
 have s5:=hb5.size;have s6:=hb6.size;have s7:=hb7.size;have sr:=hB.size;have hv:∀ b∈v0.ownBlock.toList,W0.heap.size<=b/\b < wr.heap.size:=λb hb=>iU hrow (by simpa using hb)
 have o7:∀ k,W0.heap.size<=k->k < w7.heap.size->Wf.heap[k]?=w7.heap[k]?:=λk h _=>hoth k (by omega)
 have o6:∀ k,W0.heap.size<=k->k < w6.heap.size->Wf.heap[k]?=w6.heap[k]?:=λk h h2=>(o7 k h (by omega)).trans (hb7.block k h2)
 have o5:∀ k,W0.heap.size<=k->k < w5.heap.size->Wf.heap[k]?=w5.heap[k]?:=λk h h2=>(o6 k h (by omega)).trans (hb6.block k h2)
 have o4:∀ k,W0.heap.size<=k->k < wr.heap.size->Wf.heap[k]?=wr.heap[k]?:=λk h h2=>(o5 k h (by omega)).trans (hb5.block k h2)
 refine⟨?_,λi d f h1 h2=>hmono i wr Wf d f (λb hb=>?_) (hEl i d f h1 h2),hO1 w5 Wf _ _ (λb hb=>?_) hO5,hO2 w6 Wf _ _ (λb hb=>?_) hO6,hO3 w7 Wf _ _ (λb hb=>?_) hO7,?_,λb hb=>?_,hBf ?_⟩
 ·have e1:zN 10 D us=D.flatten:=by
   unfold zN;rw[List.drop_of_length_le (by rw[hl,hDn];omega),eH]
  rw[e1]at hrow;refine uZ hrow λb hb=>?_
  have:=hv b (by simpa using hb);exact⟨by omega,o4 b this.1 this.2⟩
 ·have hm:b∈FS.flatten.flatten:=by
   rw[cH]at hb ⊢;obtain⟨l,hl1,hl2⟩:=hb;exact⟨l,cH.2 ⟨f,aN h2,hl1⟩,hl2⟩
  have:=hbd b hm;exact o4 b this.1 this.2
 ·have:=hf5 b hb;exact o5 b (by omega) this.2
 ·have:=hf6 b hb;exact o6 b (by omega) this.2
 ·have:=hf7 b hb;exact o7 b (by omega) this.2
 ·rw[aF,aF,aF];have h0:∀ b∈v0.ownBlock.toList++FS.flatten.flatten,b < wr.heap.size:=λb hb=>by
   rcases aA.1 hb with h | h
   ·exact(hv b h).2
   ·exact(hbd b h).2
  refine⟨⟨⟨hnd,hn5,λa ha b hb=>?_⟩,hn6,λa ha b hb=>?_⟩,hn7,λa ha b hb=>?_⟩
  ·have:=h0 a ha;have:=hf5 b hb;omega
  ·have h2:=hf6 b hb;rcases aA.1 ha with h | h
   ·have:=h0 a h;omega
   ·have:=hf5 a h;omega
  ·have h2:=hf7 b hb;rcases aA.1 ha with h | h
   ·rcases aA.1 h with h | h
    ·have:=h0 a h;omega
    ·have:=hf5 a h;omega
   ·have:=hf6 a h;omega
 ·rcases aA.1 hb with h | h
  ·rcases aA.1 h with h | h
   ·rcases aA.1 h with h | h
    ·rcases aA.1 h with h | h
     ·have:=hv b h;omega
     ·have:=hbd b h;omega
    ·have:=hf5 b h;omega
   ·have:=hf6 b h;omega
  ·have:=hf7 b h;omega
 ·exact hB0.trans ((((hB.trans (hb5.mono (by omega))).trans (hb6.mono (by omega))).trans (hb7.mono (by omega))).mono (by omega))
section
attribute [local go_sem] Oper.semAt_some
set_option maxRecDepth 100000 in
set_option maxHeartbeats 8000000 in
theorem aIr (q:Option Addr)(n c:Nat)(us:List Value)(hl:us.length=n * 10)(hn:n<=2000000)(h1:∀ x∈us,x.oneCell'=true)(w:World)(B:Nat)(hBw:w.heap.size=B)
  (hq:n≠0->∃ ad,q=some ad/\∀ (j:Nat) x,us[j]?=some x->(ad.add j).block < w.heap.size/\w.cell? (ad.add j)=some x)
  (q1 q2 q3:Option Addr) (n1 n2 n3 c1 c2 c3:Nat)
  (Nd:Nat->List Value)
  (hel:∀ i,i < n->∃ z0 z1 z2 z3 q4 m4 k4 z5 z6 q7 m7 k7 q8 m8 k8 q9 m9 k9,Nd i=[.int .i64 z0,.int .i64 z1,.int .i64 z2,.int .i64 z3,.slice q4 m4 k4,.int .i64 z5,.int .i64 z6,.slice q7 m7 k7,.slice q8 m8 k8,.slice q9 m9 k9] ∧
   ∀ (t:Nat) v,(Nd i)[t]?=some v->us[i * 10+t]?=some v)
  (El:Nat->World->List Value->List (List Nat)->Prop) (hmono:∀ i W W' ds fs,(∀ b∈fs.flatten,W'.heap[b]?=W.heap[b]?)->El i W ds fs->El i W' ds fs)
  (hcall:∀ i,i < n->∀ W,Below B w W->Calls prog 118 #[.agg (Nd i).toArray] W λe W'=>∃ ds fs,e=.returned (.agg ds.toArray)/\Below W.heap.size W W'/\ds.length=10/\fs.length=10/\(∀ x∈ds,x.oneCell'=true) ∧
   fs.flatten.Nodup/\(∀ b∈fs.flatten,W.heap.size<=b/\b < W'.heap.size)/\El i W' ds fs)
  (O1 O2 O3:World->Value->List Nat->Prop)
  (hO1:∀ W W' v f,(∀ b∈f,W'.heap[b]?=W.heap[b]?)->O1 W v f->O1 W' v f) (hO2:∀ W W' v f,(∀ b∈f,W'.heap[b]?=W.heap[b]?)->O2 W v f->O2 W' v f) (hO3:∀ W W' v f,(∀ b∈f,W'.heap[b]?=W.heap[b]?)->O3 W v f->O3 W' v f)
  (h70:∀ W,Below B w W->Gives 70 (.slice q1 n1 c1) O1 W) (h119:∀ W,Below B w W->Gives 119 (.slice q2 n2 c2) O2 W) (h120:∀ W,Below B w W->Gives 120 (.slice q3 n3 c3) O3 W) :
  Calls prog 68 #[.agg #[.slice q n c,.slice q1 n1 c1,.slice q2 n2 c2,.slice q3 n3 c3]] w λe W=>∃ v0 v1 v2 v3 D FS f1 f2 f3,e=.returned (.agg #[v0,v1,v2,v3])/\List.length D=n/\List.length FS=n ∧
   W.ownsRow B 96 10 v0 n D.flatten/\(∀ d∈D,d.length=10)/\(∀ f∈FS,f.length=10)/\(∀ (i:Nat) d f,D[i]?=some d->FS[i]?=some f->El i W d f)/\O1 W v1 f1/\O2 W v2 f2/\O3 W v3 f3 ∧
   (v0.ownBlock.toList++FS.flatten.flatten++f1++f2++f3).Nodup/\(∀ b∈v0.ownBlock.toList++FS.flatten.flatten++f1++f2++f3,B<=b/\b < W.heap.size)/\Below B w W:=by
 subst hBw
 generalize hW0:(w.alloc (.cells #[.slice q n c,.slice q1 n1 c1,.slice q2 n2 c2,.slice q3 n3 c3] 35)).alloc (.cells #[.slice none 0 0,.slice none 0 0,.slice none 0 0,.slice none 0 0] 35)=W0
 have hB0:Below w.heap.size w W0:=by subst hW0;exact(((Below.refl w.heap.size w).alloc (aG _) _).alloc (by simp) _)
 have hq0:n≠0->∃ ad,q=some ad/\∀ (j:Nat) x,us[j]?=some x->(ad.add j).block < W0.heap.size/\W0.cell? (ad.add j)=some x:=λh=>by
  obtain⟨ad,h,h'⟩:=hq h;exact⟨ad,h,λj x hj=>⟨by have:=(h' j x hj).1;have:=hB0.size;omega,(hB0.cell (h' j x hj).1).trans (h' j x hj).2⟩⟩
 have b00:W0.heap[w.heap.size]?=some (.cells #[.slice q n c,.slice q1 n1 c1,.slice q2 n2 c2,.slice q3 n3 c3] 35 (0,0)):=by subst hW0;exact heap_alloc2_old w _ _
 have b01:W0.heap[w.heap.size+1]?=some (.cells #[.slice none 0 0,.slice none 0 0,.slice none 0 0,.slice none 0 0] 35 (0,0)):=by subst hW0;exact heap_alloc2_new w _ _
 have hs0:W0.heap.size=w.heap.size+2:=by subst hW0;simp
 have k00:W0.cell? ⟨w.heap.size,0,none⟩=some (.slice q n c):=(cell_of_row _ _ _ _ 35 (0,0) b00).trans rfl;have h117:=aL4 q n c us hl hn h1 W0 hq0
 go_enter func68,ntmps68
 have hi96:(prog.info? 96).map (·.size)=some 10:=by obtain⟨i,z,hi,_,_,hi2,_⟩:=aGW;rw[hi];simp[hi2]
 go_wp2_with (go_at_call 117;(first | rw[hW0] | skip);refine h117.mono ?_;clear h117;rintro e w1 ⟨v,rfl,hown,hB1⟩;obtain⟨gp,cap,rfl⟩:∃ gp cap,v=.slice gp n cap:=(by rcases hown.2 with⟨hv,hn0⟩ | ⟨g,cap,cur0,hv,_⟩;exact⟨none,0,by rw[hv,hn0]⟩;exact⟨_,_,hv⟩))
 go_loopw [11] (λi wr=>∃ (D:List (List Value)) (FS:List (List (List Nat))),D.length<=n/\FS.length=D.length/\i=.int .i64 D.length/\wr.ownsRow W0.heap.size 96 10 (.slice gp n cap) n (zN 10 D us)/\(∀ d∈D,d.length=10)/\(∀ f∈FS,f.length=10) ∧
  (∀ (i:Nat) d f,D[i]?=some d->FS[i]?=some f->El i wr d f)/\((Value.slice gp n cap).ownBlock.toList++FS.flatten.flatten).Nodup/\(∀ b∈FS.flatten.flatten,W0.heap.size<=b/\b < wr.heap.size)/\Below W0.heap.size W0 wr) (λi _=>n-(intOf i).toNat)
 case atStart=>exact⟨[],[],dZ _,rfl,rfl,by simpa[zN]using hown,by simp,by simp,by simp,by cases gp<;>simp[Value.ownBlock],by simp,hB1⟩
 case round=>
  obtain⟨D,FS,hDn,hFD,rfl,hrow,hD,hF,hEl,hnd,hbd,hB⟩:=hrel;by_cases hlt:D.length < n
  ·obtain⟨z0,z1,z2,z3,q4,m4,k4,z5,z6,q7,m7,k7,q8,m8,k8,q9,m9,k9,hNd,hcs⟩:=hel D.length hlt;have h118:=hcall D.length hlt;rw[hNd]at hcs h118;obtain⟨g,rfl⟩:∃ g,gp=some ⟨g,0,none⟩:=by
    rcases hrow.2 with⟨_,h0⟩ | ⟨g,cap',_,hv,_⟩
    ·omega
    ·injection hv with h _ _;exact⟨g,h⟩
   obtain⟨cur,hg,hcsz,hbg,hnc,hcm,htake⟩:=gD hrow;have hgs:=(iU hrow (b:=g) rfl).2;have hBs:=hB.size;have hk:∀ t v,([.int .i64 z0,.int .i64 z1,.int .i64 z2,.int .i64 z3,.slice q4 m4 k4,.int .i64 z5,.int .i64 z6,.slice q7 m7 k7,.slice q8 m8 k8,.slice q9 m9 k9]:List Value)[t]?=some v->wr.cell? ⟨g,D.length * 10+t,none⟩=some v:=by
    intro t v h;have h2:=hcs t v h;have ht:t < 10:=by have:=(aD.1 h).1;simpa using this
    have:=aJc hD us t;rw[h2,htake,cG,if_pos (by omega)]at this;rw[cell_of_row wr g _ cur 96 _ hg,<-Array.getElem?_toList];exact this
   have k0:=hk 0 _ rfl;rw[iR]at k0;have k1:=hk 1 _ rfl;have k2:=hk 2 _ rfl;have k3:=hk 3 _ rfl;have k4':=hk 4 _ rfl;have k5:=hk 5 _ rfl;have k6:=hk 6 _ rfl;have k7':=hk 7 _ rfl;have k8':=hk 8 _ rfl;have k9':=hk 9 _ rfl;have hold:∀ k,k < wr.heap.size->(wr.alloc (.cells #[.int .i64 z0,.int .i64 z1,.int .i64 z2,.int .i64 z3,.slice q4 m4 k4,.int .i64 z5,.int .i64 z6,.slice q7 m7 k7,.slice q8 m8 k8,.slice q9 m9 k9] 96)).heap[k]?=wr.heap[k]?:=λk hk=>heap_alloc_old wr _ hk
   have hsz2:(wr.alloc (.cells #[.int .i64 z0,.int .i64 z1,.int .i64 z2,.int .i64 z3,.slice q4 m4 k4,.int .i64 z5,.int .i64 z6,.slice q7 m7 k7,.slice q8 m8 k8,.slice q9 m9 k9] 96)).heap.size=wr.heap.size+1:=by simp
   have hbx:(wr.alloc (.cells #[.int .i64 z0,.int .i64 z1,.int .i64 z2,.int .i64 z3,.slice q4 m4 k4,.int .i64 z5,.int .i64 z6,.slice q7 m7 k7,.slice q8 m8 k8,.slice q9 m9 k9] 96)).heap[wr.heap.size]?=some (.cells #[.int .i64 z0,.int .i64 z1,.int .i64 z2,.int .i64 z3,.slice q4 m4 k4,.int .i64 z5,.int .i64 z6,.slice q7 m7 k7,.slice q8 m8 k8,.slice q9 m9 k9] 96 (0,0)):=World.alloc_heap_new wr _;have hB2:Below W0.heap.size W0 (wr.alloc (.cells #[.int .i64 z0,.int .i64 z1,.int .i64 z2,.int .i64 z3,.slice q4 m4 k4,.int .i64 z5,.int .i64 z6,.slice q7 m7 k7,.slice q8 m8 k8,.slice q9 m9 k9] 96)):=hB.alloc (by omega) _
   generalize hW1:(wr.alloc (.cells #[.int .i64 z0,.int .i64 z1,.int .i64 z2,.int .i64 z3,.slice q4 m4 k4,.int .i64 z5,.int .i64 z6,.slice q7 m7 k7,.slice q8 m8 k8,.slice q9 m9 k9] 96))=W1 at hB2 hold hsz2 hbx
   have j0:W1.cell? ⟨wr.heap.size,0,none⟩=some (.int .i64 z0):=(cell_of_row _ _ _ _ 96 (0,0) hbx).trans rfl;have j1:W1.cell? ⟨wr.heap.size,1,none⟩=some (.int .i64 z1):=(cell_of_row _ _ _ _ 96 (0,0) hbx).trans rfl;have j2:W1.cell? ⟨wr.heap.size,2,none⟩=some (.int .i64 z2):=(cell_of_row _ _ _ _ 96 (0,0) hbx).trans rfl;have j3:W1.cell? ⟨wr.heap.size,3,none⟩=some (.int .i64 z3):=(cell_of_row _ _ _ _ 96 (0,0) hbx).trans rfl;have j4:W1.cell? ⟨wr.heap.size,4,none⟩=some (.slice q4 m4 k4):=(cell_of_row _ _ _ _ 96 (0,0) hbx).trans rfl;have j5:W1.cell? ⟨wr.heap.size,5,none⟩=some (.int .i64 z5):=(cell_of_row _ _ _ _ 96 (0,0) hbx).trans rfl;have j6:W1.cell? ⟨wr.heap.size,6,none⟩=some (.int .i64 z6):=(cell_of_row _ _ _ _ 96 (0,0) hbx).trans rfl;have j7:W1.cell? ⟨wr.heap.size,7,none⟩=some (.slice q7 m7 k7):=(cell_of_row _ _ _ _ 96 (0,0) hbx).trans rfl;have j8:W1.cell? ⟨wr.heap.size,8,none⟩=some (.slice q8 m8 k8):=(cell_of_row _ _ _ _ 96 (0,0) hbx).trans rfl;have j9:W1.cell? ⟨wr.heap.size,9,none⟩=some (.slice q9 m9 k9):=(cell_of_row _ _ _ _ 96 (0,0) hbx).trans rfl;have h118:=h118 W1 (hB0.trans (hB2.mono hB0.size))
   go_wp2_with (first
    | (go_at_call 118;(first | rw[hW1] | skip);refine h118.mono ?_;clear h118;rintro e w2 ⟨ds,fs,rfl,hb2,hd10,hf10,hd1,hfn,hfb,hEl2⟩;have hg2:w2.heap[g]?=some (.cells cur 96 (0,0)):=(hb2.block g (by omega)).trans ((hold g hgs).trans hg))
    | (refine zK rfl 96 _ _ rfl g (D.length * 10) cur ds 96 rfl rfl hg2 (by rw[hd10];exact hi96) (by rw[hd10];omega) hd1 ?_))
   have hstep:=aHs (w2:=w2) hD hl hlt hd10 cur hbg hnc hcm hcsz htake hg2;rw[hd10,eC]at hstep
   generalize hW3:w2.setRow g (List.take (D.length * 10) cur.toList++(ds++List.drop (D.length * 10+10) cur.toList)).toArray=W3 at hstep
   have hoth:∀ k,k≠g->W3.heap[k]?=w2.heap[k]?:=λk hk=>by rw[<-hW3];exact setRow_other w2 g k _ hk
   have hsz3:W3.heap.size=w2.heap.size:=by rw[<-hW3];simp
   have hB3:Below W0.heap.size W0 W3:=by rw[<-hW3];exact below_setRow (hB2.trans (hb2.mono (by omega))) hbg _
   have hsz4:=hb2.size;have hne:∀ b,b∈FS.flatten.flatten->b≠g:=λb hb h=>by
    rw[aF]at hnd;exact hnd.2.2 g (by simp[Value.ownBlock]) b hb h.symm
   refine⟨⟨D++[ds],FS++[fs],by simp;omega,by simp[hFD],by simp,hstep,λd hd=>?_,λf hf=>?_,λi d f h1 h2=>?_,?_,λb hb=>?_,hB3⟩,by simp[intOf];omega⟩
   ·rcases aA.1 hd with h | h
    ·exact hD d h
    ·simp only[aI]at h;rw[h];exact hd10
   ·rcases aA.1 hf with h | h
    ·exact hF f h
    ·simp only[aI]at h;rw[h];exact hf10
   ·by_cases hi:i < D.length
    ·rw[bB hi]at h1;rw[bB (by omega)]at h2;refine hmono i wr W3 d f (λb hb=>?_) (hEl i d f h1 h2);have hm:b∈FS.flatten.flatten:=by
      rw[cH]at hb ⊢;obtain⟨l,hl1,hl2⟩:=hb;exact⟨l,cH.2 ⟨f,aN h2,hl1⟩,hl2⟩
     have:=hbd b hm;rw[hoth b (hne b hm),hb2.block b (by omega),hold b this.2]
    ·have hid:i=D.length:=by
      have:=(aD.1 h1).1;simp at this;omega
     subst hid;rw[aY (by omega)]at h1;rw[aY (by omega)]at h2;simp only[mE,aJ,aB,hFD]at h1 h2;subst h1;subst h2;refine hmono _ w2 W3 ds fs (λb hb=>hoth b ?_) hEl2;have:=hfb b hb;omega
   ·rw[cP,cP,<-eC,aF];have e1:[fs].flatten=fs:=by simp
    rw[e1];refine⟨hnd,hfn,λa ha b hb=>?_⟩;have h2:=hfb b hb;rcases aA.1 ha with ha | ha
    ·have:a=g:=by simpa[Value.ownBlock]using ha
     omega
    ·have:=hbd a ha;omega
   ·rw[cP,cP]at hb;rcases aA.1 hb with h | h
    ·have:=hbd b h;omega
    ·have:=hfb b (by simpa using h);omega
  ·have hDn:D.length=n:=by omega
   have hr:∀ W,Below W0.heap.size W0 W->W.cell? ⟨w.heap.size,1,none⟩=some (.slice q1 n1 c1)/\W.cell? ⟨w.heap.size,2,none⟩=some (.slice q2 n2 c2)/\W.cell? ⟨w.heap.size,3,none⟩=some (.slice q3 n3 c3) ∧
     (W.cell? ⟨w.heap.size+1,0,none⟩=some (.slice none 0 0)/\W.cell? ⟨w.heap.size+1,1,none⟩=some (.slice none 0 0)/\W.cell? ⟨w.heap.size+1,2,none⟩=some (.slice none 0 0)/\W.cell? ⟨w.heap.size+1,3,none⟩=some (.slice none 0 0)) ∧
     W.frozen? ⟨w.heap.size+1,0,none⟩=false/\W.frozen? ⟨w.heap.size+1,1,none⟩=false/\W.frozen? ⟨w.heap.size+1,2,none⟩=false/\W.frozen? ⟨w.heap.size+1,3,none⟩=false:=λW h=>by
    have b10:=(h.block w.heap.size (by omega)).trans b00;have b11:=(h.block (w.heap.size+1) (by omega)).trans b01;refine⟨(cell_of_row _ _ _ _ 35 (0,0) b10).trans rfl,(cell_of_row _ _ _ _ 35 (0,0) b10).trans rfl,(cell_of_row _ _ _ _ 35 (0,0) b10).trans rfl,⟨(cell_of_row _ _ _ _ 35 (0,0) b11).trans rfl,(cell_of_row _ _ _ _ 35 (0,0) b11).trans rfl,(cell_of_row _ _ _ _ 35 (0,0) b11).trans rfl,(cell_of_row _ _ _ _ 35 (0,0) b11).trans rfl⟩,frozen_of_row _ _ _ _ 35 b11,frozen_of_row _ _ _ _ 35 b11,frozen_of_row _ _ _ _ 35 b11,frozen_of_row _ _ _ _ 35 b11⟩
   obtain⟨r1,r2,r3,⟨s0,s1,s2,s3⟩,t0,t1,t2,t3⟩:=hr _ hB;have hS:=hB
   go_wp2
   go_region_with (first
    | (go_at_call 70;(first | (refine(h70 _ (hB0.trans (hS.mono hB0.size))).mono ?_;clear h70;rintro e w5 ⟨p1,l1,u1,f1,rfl,hb5,hn5,hf5,hO5⟩;replace hS:=hS.trans (hb5.mono hS.size)) | (refine(h70 _ (hB0.trans (hS.drew.mono hB0.size))).mono ?_;clear h70;rintro e w5 ⟨p1,l1,u1,f1,rfl,hb5,hn5,hf5,hO5⟩;replace hS:=hS.drew.trans (hb5.mono hS.drew.size)));have gb5:Below wr.heap.size wr w5:=(by first | exact hb5 | exact((Below.refl _ _).drew).trans hb5);clear hb5 r1 r2 r3 s0 s1 s2 s3 t0 t1 t2 t3;obtain⟨r1,r2,r3,⟨s0,s1,s2,s3⟩,t0,t1,t2,t3⟩:=hr _ hS)
    | (go_at_call 119;(first | (refine(h119 _ (hB0.trans (hS.mono hB0.size))).mono ?_;clear h119;rintro e w6 ⟨p2,l2,u2,f2,rfl,hb6,hn6,hf6,hO6⟩;replace hS:=hS.trans (hb6.mono hS.size)) | (refine(h119 _ (hB0.trans (hS.drew.mono hB0.size))).mono ?_;clear h119;rintro e w6 ⟨p2,l2,u2,f2,rfl,hb6,hn6,hf6,hO6⟩;replace hS:=hS.drew.trans (hb6.mono hS.drew.size)));have gb6:Below w5.heap.size w5 w6:=(by first | exact hb6 | exact((Below.refl _ _).drew).trans hb6);clear hb6 r1 r2 r3 s0 s1 s2 s3 t0 t1 t2 t3;obtain⟨r1,r2,r3,⟨s0,s1,s2,s3⟩,t0,t1,t2,t3⟩:=hr _ hS)
    | (go_at_call 120;(first | (refine(h120 _ (hB0.trans (hS.mono hB0.size))).mono ?_;clear h120;rintro e w7 ⟨p3,l3,u3,f3,rfl,hb7,hn7,hf7,hO7⟩;replace hS:=hS.trans (hb7.mono hS.size)) | (refine(h120 _ (hB0.trans (hS.drew.mono hB0.size))).mono ?_;clear h120;rintro e w7 ⟨p3,l3,u3,f3,rfl,hb7,hn7,hf7,hO7⟩;replace hS:=hS.drew.trans (hb7.mono hS.drew.size)));have gb7:Below w6.heap.size w6 w7:=(by first | exact hb7 | exact((Below.refl _ _).drew).trans hb7);clear hb7 r1 r2 r3 s0 s1 s2 s3 t0 t1 t2 t3;obtain⟨r1,r2,r3,⟨s0,s1,s2,s3⟩,t0,t1,t2,t3⟩:=hr _ hS))
   all_goals
    obtain⟨y1,y2,y3,y4⟩:=bBp w7 (w.heap.size+1) (.slice gp n cap) (.slice p1 l1 u1) (.slice p2 l2 u2) (.slice p3 l3 u3) _ _ _ _ ((hS.block (w.heap.size+1) (by omega)).trans b01);have hfin:=aWD hl hDn hFD hmono hO1 hO2 hO3 hrow hEl hnd hbd hs0 hB0 hB gb5 gb6 gb7 hn5 hn6 hn7 hf5 hf6 hf7 hO5 hO6 hO7 y2 y3 (λh=>y4 _ _ (by omega) h)
    generalize ((((w7.setCell ⟨w.heap.size+1,0,none⟩ (.slice gp n cap)).setCell ⟨w.heap.size+1,1,none⟩ (.slice p1 l1 u1)).setCell ⟨w.heap.size+1,2,none⟩ (.slice p2 l2 u2)).setCell ⟨w.heap.size+1,3,none⟩ (.slice p3 l3 u3))=Wf at y1 hfin ⊢
    have q0:Wf.cell? ⟨w.heap.size+1,0,none⟩=some (.slice gp n cap):=(cell_of_row _ _ _ _ 35 (0,0) y1).trans rfl;have q1':Wf.cell? ⟨w.heap.size+1,1,none⟩=some (.slice p1 l1 u1):=(cell_of_row _ _ _ _ 35 (0,0) y1).trans rfl;have q2':Wf.cell? ⟨w.heap.size+1,2,none⟩=some (.slice p2 l2 u2):=(cell_of_row _ _ _ _ 35 (0,0) y1).trans rfl;have q3':Wf.cell? ⟨w.heap.size+1,3,none⟩=some (.slice p3 l3 u3):=(cell_of_row _ _ _ _ 35 (0,0) y1).trans rfl;clear r1 r2 r3 s0 s1 s2 s3 t0 t1 t2 t3
    go_wp2
    refine bodyPost_ret (v:=.agg #[.slice gp n cap,.slice p1 l1 u1,.slice p2 l2 u2,.slice p3 l3 u3]) ?_ rfl ⟨_,_,_,_,D,FS,f1,f2,f3,rfl,hDn,hFD.trans hDn,hfin.1,hD,hF,hfin.2⟩;simp[results,show f68.results=#[.cell 2 35] from rfl,go_sem,q0,q1',q2',q3']
end
end Go.Proofs.Tryz
