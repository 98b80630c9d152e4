/- A part of the proof of FnWraps: L2Qf, L2Qh, L2Qg. -/
import Derived.WalkKit
import Derived.OwnWalkIn
import Derived.TacticsInMore
import Derived.LoopNIn
import Derived.LoopIn
import Derived.DefersIn
import Derived.RecoverIn
import Derived.Test.YtaegcoihgnobiaaVmJ
import Derived.Test.YtaegcoihgnobiaaL2Base
import Derived.Test.YtaegcoihgnobiaaL2Ft
set_option linter.unusedSimpArgs false
set_option linter.unusedVariables false
namespace Go.Proofs.Try
open Go Go.VM Go.RowKit
attribute [local go_sem] Oper.semAt_some
theorem yR (w:World)(o:Obj):(w.alloc o).heap[w.heap.size]?=some o:=by
 show(w.heap.push o)[w.heap.size]?=some o;simp
set_option maxRecDepth 100000 in
set_option maxHeartbeats 4000000 in
theorem aDm (code:Int)(w:World)(n:Nat):CallsIn Fence.wide n prog 47 #[.iface 85 (.agg #[.int .i64 code])] w λe w'=>Below w.heap.size w w'/\e=.returned (.int .i64 code):=by
 refine callsIn_of_wp func47 rfl trivial ?_ rfl;simp only[ntmps47,eM,bT,cW,Nat.reduceAdd,Nat.reduceSub,iE,iD,jS,iR,gB,fM];have hta:∀ w:World,(Instr.typeAssert (Value.iface 85 (Value.agg #[Value.int IntKind.i64 code])) 20 85 true).run prog w=.ok (.tuple #[.agg #[.int .i64 code],.bool true]) w:=λw=>by kernel_rfl
 gi_wp2
 exact⟨rfl,.int .i64 code,by kernel_rfl,(Below.refl _ _).alloc (aS _) _,rfl⟩
theorem aIP (w:World)(B:Nat)(a b c d a' b' c' d':Value)(t:TypeId)(h:w.heap[B]?=some (.cells #[a,b,c,d] t (0,0))) :
  Below B w ((((w.setCell ⟨B,0,none⟩ a').setCell ⟨B,1,none⟩ b').setCell ⟨B,2,none⟩ c').setCell ⟨B,3,none⟩ d') ∧
   ((((w.setCell ⟨B,0,none⟩ a').setCell ⟨B,1,none⟩ b').setCell ⟨B,2,none⟩ c').setCell ⟨B,3,none⟩ d').heap[B]?=some (.cells #[a',b',c',d'] t (0,0)):=by
 refine⟨((((Below.refl B w).setCell (p:=⟨B,0,none⟩) (aS _) _).setCell (p:=⟨B,1,none⟩) (aS _) _).setCell (p:=⟨B,2,none⟩) (aS _) _).setCell (p:=⟨B,3,none⟩) (aS _) _,?_⟩;have h1:=heap_setCell_same w B 0 _ t a' h;have h2:=heap_setCell_same _ B 1 _ t b' h1;have h3:=heap_setCell_same _ B 2 _ t c' h2;exact heap_setCell_same _ B 3 _ t d' h3
set_option maxRecDepth 100000 in
set_option maxHeartbeats 4000000 in
theorem aAD (p:Addr)(w:World)(n:Nat) :
  CallsDIn Fence.wide n prog 46 #[.pointer (some p)] .returning w λe u' w'=>e=.returned (.tuple #[])/\u'=.returning/\w'=w:=by
 refine callsDIn_of_wpSIn func46 rfl trivial λc₀ cs hu=>?_
 apply wpSIn_seq;apply wpSIn_region;simp[wpOpsSIn,go_sem,recoverD,hu,ntmps46,Exit.thenS];apply wpSIn_seq;apply wpSIn_region;simp[wpOpsSIn,go_sem,recoverD,hu,ntmps46,Exit.thenS];refine wpSIn_cond (t:=false) (by simp[Act.eval,Array.replicate]) ?_;simp only[cD,if_false];refine wpSIn_of_wpIn rfl (wpIn_skip ?_);cases c₀
 simp_all [bodyPostS,results,results46]
set_option maxRecDepth 100000 in
set_option maxHeartbeats 4000000 in
theorem xT (B:Nat)(code:Int)(older:List PanicEntry)(w:World)(n:Nat)(hB:w.heap[B]?=some (.cells #[.int .i64 0,.int .i64 0,.int .i64 0,.slice none 0 0] 26 (0,0))) :
  CallsDIn Fence.wide (n+1) prog 46 #[.pointer (some ⟨B,0,none⟩)] (.panicking ({ v:=.iface 85 (.agg #[.int .i64 code]),recovered:=false }::older)) w λe u' w'=>e=.returned (.tuple #[])/\u'=.panicking ({ v:=.iface 85 (.agg #[.int .i64 code]),recovered:=true }::older)/\Below B w w'/\w'.heap[B]?=some (.cells #[.int .i64 code,.int .i64 0,.int .i64 0,.slice none 0 0] 26 (0,0)):=by
 refine callsDIn_of_wpSIn func46 rfl trivial λc₀ cs hu=>?_
 apply wpSIn_seq;apply wpSIn_region;simp[wpOpsSIn,go_sem,recoverD,hu,ntmps46,Exit.thenS];apply wpSIn_seq;apply wpSIn_region;simp[wpOpsSIn,go_sem,recoverD,hu,ntmps46,Exit.thenS];refine wpSIn_cond (t:=true) (by simp[Act.eval,Array.replicate]) ?_;simp only[if_true];refine wpSIn_of_wpIn rfl ?_
 gi_wp2
 refine⟨trivial,(aDm code w n).mono ?_⟩;rintro e w1 ⟨hb1,rfl⟩;have hlt:B < w.heap.size:=(bE.1 hB).1;have q1:w1.heap[B]?=some (.cells #[.int .i64 0,.int .i64 0,.int .i64 0,.slice none 0 0] 26 (0,0)):=(hb1.block B hlt).trans hB;have c0:w1.cell? ⟨B,0,none⟩=some (.int .i64 0):=by simp[World.cell?,q1]
 have c1:w1.cell? ⟨B,1,none⟩=some (.int .i64 0):=by simp[World.cell?,q1]
 have c2:w1.cell? ⟨B,2,none⟩=some (.int .i64 0):=by simp[World.cell?,q1]
 have c3:w1.cell? ⟨B,3,none⟩=some (.slice none 0 0):=by simp[World.cell?,q1]
 have f0:w1.frozen? ⟨B,0,none⟩=false:=by simp[World.frozen?,q1]
 have f1:w1.frozen? ⟨B,1,none⟩=false:=by simp[World.frozen?,q1]
 have f2:w1.frozen? ⟨B,2,none⟩=false:=by simp[World.frozen?,q1]
 have f3:w1.frozen? ⟨B,3,none⟩=false:=by simp[World.frozen?,q1]
 gi_wp2
 obtain⟨hk,hn⟩:=aIP w1 B (.int .i64 0) (.int .i64 0) (.int .i64 0) (.slice none 0 0) (.int .i64 code) (.int .i64 0) (.int .i64 0) (.slice none 0 0) 26 q1;exact⟨rfl,_,rfl,.tuple #[],by simp[results,results46],rfl,rfl,(hb1.mono (by omega)).trans hk,hn⟩
def gU:Obj:=.cells #[.int .i64 0,.int .i64 0,.int .i64 0,.slice none 0 0] 26
set_option maxRecDepth 100000 in
set_option maxHeartbeats 8000000 in
theorem xO (u0:Value)(code:Int)(w:World)(n:Nat)
  (h48:CallsIn Fence.wide (n+1) prog 48 #[u0] (w.alloc gU) λe w2=>Below (w.alloc gU).heap.size (w.alloc gU) w2/\e=.panicked [{ v:=.iface 85 (.agg #[.int .i64 code]),recovered:=false }]) :
  CallsIn Fence.wide (n+2) prog 12 #[u0] w λe w'=>Below w.heap.size w w'/\e=.returned (.agg #[.int .i64 code,.int .i64 0,.int .i64 0,.slice none 0 0]):=by
 have hmf:∀ (fn:Fn) (first cap:Array Value) (w:World),(Instr.makeFunc fn first cap).run prog w=.ok (.func fn first cap) w:=λ_ _ _ _=>rfl
 refine callsIn_of_wp_defers func12 rfl trivial ?_;simp only[ntmps12,eM,bT,cW,Nat.reduceAdd,Nat.reduceSub,iE,iD,jS,iR,gB,fM]
 gi_wp2
 refine⟨trivial,h48.mono ?_⟩;rintro e w2 ⟨hb2,rfl⟩;have q2:w2.heap[w.heap.size]?=some gU:=(hb2.block w.heap.size (by simp)).trans (yR w _);refine leavesIn_cons (f:=46) (args:=#[.pointer (some ⟨w.heap.size,0,none⟩)]) (by simp) (λ_=>by omega) (by simp[go_sem]) (λ_ _=>trivial) ?_;refine(xT w.heap.size code [] w2 n q2).mono ?_;rintro e u' w3 ⟨rfl,rfl,hb3,q3⟩;have c0:w3.cell? ⟨w.heap.size,0,none⟩=some (.int .i64 code):=by simp[World.cell?,q3]
 have c1:w3.cell? ⟨w.heap.size,1,none⟩=some (.int .i64 0):=by simp[World.cell?,q3]
 have c2:w3.cell? ⟨w.heap.size,2,none⟩=some (.int .i64 0):=by simp[World.cell?,q3]
 have c3:w3.cell? ⟨w.heap.size,3,none⟩=some (.slice none 0 0):=by simp[World.cell?,q3]
 have hbb:Below w.heap.size w w3:=(((Below.refl _ w).alloc (aS _) _).trans (hb2.mono (by simp))).trans hb3;simp[LeavesIn,settle,results,results12,go_sem,c0,c1,c2,c3,hbb]
theorem aDp (w:World)(B:Nat)(a' b' c' d':Value)(k:Nat)(hk:k≠B) :
  ((((w.setCell ⟨B,0,none⟩ a').setCell ⟨B,1,none⟩ b').setCell ⟨B,2,none⟩ c').setCell ⟨B,3,none⟩ d').heap[k]?=w.heap[k]?:=by
 rw[heap_setCell_other _ _ _ _ hk,heap_setCell_other _ _ _ _ hk,heap_setCell_other _ _ _ _ hk,heap_setCell_other _ _ _ _ hk]
theorem zZ {w w':World}{B:Nat}{o o':Obj}(hB:w.heap[B]?=some o)(hB':w'.heap[B]?=some o')(h:∀ k,k≠B->w'.heap[k]?=w.heap[k]?):w'.heap.size=w.heap.size:=by
 have key:∀ k:Nat,k < w'.heap.size↔k < w.heap.size:=λk=>by
  by_cases hk:k=B
  ·subst hk;exact⟨λ_=>(bE.1 hB).1,λ_=>(bE.1 hB').1⟩
  ·have:=h k hk;constructor
   ·intro h1;rw[dX h1]at this;exact(bE.1 this.symm).1
   ·intro h1;rw[dX h1]at this;exact(bE.1 this).1
 have h1:=key w.heap.size;have h2:=key w'.heap.size;omega
set_option maxRecDepth 100000 in
set_option maxHeartbeats 8000000 in
theorem aBn (u0:Value)(w:World)(n:Nat)(Pq:Int->Int->Int->Option Addr->Nat->Nat->World->Prop)
  (h48:CallsIn Fence.wide (n+1) prog 48 #[u0] (w.alloc gU) λe w2=>Below (w.alloc gU).heap.size (w.alloc gU) w2/\∃ a b c d l m,e=.returned (.agg #[.int .i64 a,.int .i64 b,.int .i64 c,.slice d l m])/\Pq a b c d l m w2) :
  CallsIn Fence.wide (n+2) prog 12 #[u0] w λe w'=>∃ a b c d l m w2,e=.returned (.agg #[.int .i64 a,.int .i64 b,.int .i64 c,.slice d l m])/\Pq a b c d l m w2/\Below (w.alloc gU).heap.size (w.alloc gU) w2/\Below w.heap.size w w'/\w'.heap.size=w2.heap.size/\∀ k,k≠w.heap.size->w'.heap[k]?=w2.heap[k]?:=by
 have hmf:∀ (fn:Fn) (first cap:Array Value) (w:World),(Instr.makeFunc fn first cap).run prog w=.ok (.func fn first cap) w:=λ_ _ _ _=>rfl
 refine callsIn_of_wp_defers func12 rfl trivial ?_;simp only[ntmps12,eM,bT,cW,Nat.reduceAdd,Nat.reduceSub,iE,iD,jS,iR,gB,fM]
 gi_wp2
 refine⟨trivial,h48.mono ?_⟩;rintro e w2 ⟨hb2,a,b,c,d,l,m,rfl,hP⟩;have q2:w2.heap[w.heap.size]?=some gU:=(hb2.block w.heap.size (by simp)).trans (yR w _);have c0:w2.cell? ⟨w.heap.size,0,none⟩=some (.int .i64 0):=by simp[World.cell?,q2,gU]
 have c1:w2.cell? ⟨w.heap.size,1,none⟩=some (.int .i64 0):=by simp[World.cell?,q2,gU]
 have c2:w2.cell? ⟨w.heap.size,2,none⟩=some (.int .i64 0):=by simp[World.cell?,q2,gU]
 have c3:w2.cell? ⟨w.heap.size,3,none⟩=some (.slice none 0 0):=by simp[World.cell?,q2,gU]
 have f0:w2.frozen? ⟨w.heap.size,0,none⟩=false:=by simp[World.frozen?,q2,gU]
 have f1:w2.frozen? ⟨w.heap.size,1,none⟩=false:=by simp[World.frozen?,q2,gU]
 have f2:w2.frozen? ⟨w.heap.size,2,none⟩=false:=by simp[World.frozen?,q2,gU]
 have f3:w2.frozen? ⟨w.heap.size,3,none⟩=false:=by simp[World.frozen?,q2,gU]
 gi_wp2
 obtain⟨hb3,q3⟩:=aIP w2 w.heap.size (.int .i64 0) (.int .i64 0) (.int .i64 0) (.slice none 0 0) (.int .i64 a) (.int .i64 b) (.int .i64 c) (.slice d l m) 26 q2;have hr:=aDp w2 w.heap.size (.int .i64 a) (.int .i64 b) (.int .i64 c) (.slice d l m)
 generalize ((((w2.setCell { block:=w.heap.size,off:=0 } (Value.int IntKind.i64 a)).setCell { block:=w.heap.size,off:=1 } (Value.int IntKind.i64 b)).setCell { block:=w.heap.size,off:=2 } (Value.int IntKind.i64 c)).setCell { block:=w.heap.size,off:=3 } (Value.slice d l m))=w3 at hb3 q3 hr ⊢
 refine leavesIn_cons (f:=46) (args:=#[.pointer (some ⟨w.heap.size,0,none⟩)]) (by simp) (λ_=>by omega) (by simp[go_sem]) (λ_ _=>trivial) ?_;refine(aAD ⟨w.heap.size,0,none⟩ w3 _).mono ?_;rintro e u' w4 ⟨rfl,rfl,rfl⟩;have c0:w4.cell? ⟨w.heap.size,0,none⟩=some (.int .i64 a):=by simp[World.cell?,q3]
 have c1:w4.cell? ⟨w.heap.size,1,none⟩=some (.int .i64 b):=by simp[World.cell?,q3]
 have c2:w4.cell? ⟨w.heap.size,2,none⟩=some (.int .i64 c):=by simp[World.cell?,q3]
 have c3:w4.cell? ⟨w.heap.size,3,none⟩=some (.slice d l m):=by simp[World.cell?,q3]
 have hbb:Below w.heap.size w w4:=(((Below.refl _ w).alloc (aS _) _).trans (hb2.mono (by simp))).trans hb3;have hz:=zZ q2 q3 hr;simp[LeavesIn,settle,results,results12,go_sem,c0,c1,c2,c3];exact⟨a,b,c,d,l,m,⟨rfl,rfl,rfl,rfl,rfl,rfl⟩,w2,hP,by simpa using hb2,hbb,hz,hr⟩
end Go.Proofs.Try
namespace Go.Proofs.Try
open Go Go.VM Go.RowKit
attribute [local go_sem] Oper.semAt_some
end Go.Proofs.Try
namespace Go.Proofs.Try
open Go Go.VM Go.RowKit
theorem aFq {w:World}{A0 N:Nat->Prop}{vs:List Value}{s:SlD bH.ty}{u:Value}(hs:s.own=2)(h:ResV bH w A0 N (.inl (.inr (vs.map lv++[ls s]))) u) :
  ∃ v fp n,u=.agg (vs++[v]).toArray/\fp.Nodup/\(∀ b∈fp,N b/\b < w.heap.size)/\s.o=true/\OwnL bH w n (some (.inr s)) v fp:=by
 obtain⟨fp,hnd,hN,us,fps,hu,hfp,hl,hf,h⟩:=h;have hll:(vs.map lv++[(ls s:L bH.ty)]).length=vs.length+1:=by simp
 rw[hll]at hl hf;have hv:∀ j,j < vs.length->us[j]?=vs[j]?/\fps[j]?=some []:=λj hj=>by
  have e1:(vs.map lv++[(ls s:L bH.ty)])[j]?=some (lv vs[j]):=by
   rw[aQ (by simpa using hj),aL,aC hj];rfl
  have:=h j _ us[j] fps[j] e1 (aC (by omega)) (aC (by omega));obtain⟨h1,h2⟩:=(this:us[j]=vs[j]/\fps[j]=[])
  rw[aC (by omega),aC (by omega:j < fps.length),h1,h2,aC hj];exact⟨rfl,rfl⟩
 have eu:us=vs++[us[vs.length]'(by omega)]:=by
  apply cM;intro j;by_cases hj:j < vs.length
  ·rw[(hv j hj).1,aQ hj]
  ·by_cases hj2:j=vs.length
   ·subst hj2;rw[aT (aS _),lP,aC (by omega)]
    rfl
   ·rw[aX (by omega),aX (by simp;omega)]
 have ef:fps=List.replicate vs.length []++[fps[vs.length]'(by omega)]:=by
  apply cM;intro j;by_cases hj:j < vs.length
  ·rw[(hv j hj).2,aQ (by simpa using hj)];simp[hj]
  ·by_cases hj2:j=vs.length
   ·subst hj2;rw[aT (by simp),fT,lP,aC (by omega)]
    rfl
   ·rw[aX (by omega),aX (by simp;omega)]
 have hfl:fp=fps[vs.length]'(by omega):=by
  rw[hfp]
  conv=>lhs;rw[ef]
  simp
 have e1:(vs.map lv++[(ls s:L bH.ty)])[vs.length]?=some (ls s):=by
  rw[aT (by simp)];simp
 have hlast:=h vs.length _ _ _ e1 (aC (by omega)) (aC (by omega));unfold ResL at hlast;simp only[ls,hs,if_true]at hlast;obtain⟨ho,n,hown⟩:=hlast;exact⟨_,fp,n,by rw[hu,<-eu],hnd,hN,ho,by rw[hfl];exact hown⟩
theorem aEk {w:World}{A0 N:Nat->Prop}{vs:List Value}{s:SlD bH.ty}{v:Value}{fp:List Nat}{n:Nat}(hs:s.own=2)(ho:s.o=true)(hnd:fp.Nodup)(hN:∀ b∈fp,N b/\b < w.heap.size)(hown:OwnL bH w n (some (.inr s)) v fp) :
  ResV bH w A0 N (.inl (.inr (vs.map lv++[ls s]))) (.agg (vs++[v]).toArray):=by
 refine⟨fp,hnd,hN,vs++[v],List.replicate vs.length []++[fp],rfl,by simp,by simp,by simp,λj a u f e1 e2 e3=>?_⟩;by_cases hj:j < vs.length
 ·rw[aQ (by simpa using hj),aL,aC hj]at e1;rw[aQ hj,aC hj]at e2;rw[aQ (by simpa using hj)]at e3;simp[hj]at e3;cases e1;cases e2;exact⟨rfl,e3⟩
 ·have hj2:j=vs.length:=by
   have:=(aG.1 e2).1;simp at this;omega
  subst hj2;rw[aT (by simp)]at e1 e2 e3;simp at e1 e2 e3;subst e1;subst e2;subst e3;unfold ResL;simp only[ls,hs,if_true];exact⟨ho,n,hown⟩
theorem uG (w:World){e:Nat}:OwnL bH w 1 (some (.inr { own:=2,nm:=0,e:=e,o:=true,xs:=[] })) (.slice none 0 0) []:=
 ⟨[],[],World.ownsRow_nil _ _ _ _,rfl,rfl,rfl,λj l c f _ h=>by simp at h⟩
theorem aDv {w:World}{n:Nat}{s:SlD bH.ty}{v:Value}{fp:List Nat}(h:OwnL bH w n (some (.inr s)) v fp):∃ a l m,v=.slice a l m:=by
 cases n with
 | zero=>simp[OwnL]at h
 | succ n=>
  obtain⟨us,fpl,hrow,_⟩:=h;rcases hrow.2 with⟨rfl,_⟩ | ⟨g,cap,cur,rfl,_⟩
  ·exact⟨_,_,_,rfl⟩
  ·exact⟨_,_,_,rfl⟩
theorem aF5 {w w':World}{A0:Nat->Prop}{l:List (A bH.ty)}{us:List Value}(hw:∀ b,A0 b->w'.heap[b]?=w.heap[b]?)(h:ArgAs bH w A0 l us):ArgAs bH w' A0 l us:=
 ⟨h.1,λj a u h1 h2=>ArgA.mono (λ_ hb=>hb) hw (h.2 j a u h1 h2)⟩
theorem aI8:Sat prog bH 12 (c12 mUw):=by
 intro w A0 l us r hA hargs hF;obtain⟨x,t,rfl,hx,rfl⟩:=aAd hF;obtain⟨u0,rfl⟩:∃ u0,us=[u0]:=by
  match us,hargs with
  | [u],h=>exact⟨u,rfl⟩
  | [],h=>exact absurd (show 0=1 from h.1) (by decide)
  | _::_::r,h=>exact absurd (show r.length+2=1 from h.1) (by omega)
 have hsz:(w.alloc gU).heap.size=w.heap.size+1:=by simp
 have hA1:∀ b,A0 b->b < (w.alloc gU).heap.size:=λb hb=>by have:=hA b hb;omega
 have hargs1:ArgAs bH (w.alloc gU) A0 (a48.enc x) [u0]:=aF5 (λb hb=>Below.heap_alloc _ _ _ (hA b hb)) hargs;unfold mUw at hx;split at hx
 ·rename_i hc;cases hx;by_cases hu:aAM x
  ·have hm:sC x=some (false,0,0,nb x 12 4,nb x 16 4,x.drop 24):=by unfold sC;rw[if_pos hc,if_pos hu]
   have hF1:(c48 sC).F (a48.enc x)=some (true,n48 (false,0,0,nb x 12 4,nb x 16 4,x.drop 24)):=by
    show some ((sC x).isSome,n48 ((sC x).getD aDN))=_;rw[hm];rfl
   have h48:=aGl (w.alloc gU) A0 (a48.enc x) [u0] false _ _ hA1 hargs1 hF1;have h:=aBn u0 w 0 (λa b c d l m w2=>∃ fp n,a=0/\b=nb x 12 4/\c=nb x 16 4/\fp.Nodup/\(∀ y∈fp,(w.alloc gU).heap.size<=y/\y < w2.heap.size)/\OwnL bH w2 n (some (.inr { own:=2,nm:=0,e:=5,o:=true,xs:=x.drop 24 })) (.slice d l m) fp)
    ((callsIn_wide.2 h48).mono λe w2 ⟨hb,h⟩=>⟨hb,by
     obtain⟨u,rfl,hv⟩:=h;obtain⟨v,fp,n,rfl,h1,h2,h3,h4⟩:=aFq (vs:=[.int .i64 0,.int .i64 (nb x 12 4),.int .i64 (nb x 16 4)]) rfl hv;obtain⟨d,l,m,rfl⟩:=aDv h4;exact⟨0,nb x 12 4,nb x 16 4,d,l,m,rfl,fp,n,rfl,rfl,rfl,h1,h2,h4⟩⟩)
   refine(callsIn_wide.1 h).mono ?_;rintro e w' ⟨a,b,c,d,l,m,w2,rfl,⟨fp,n,rfl,rfl,rfl,h1,h2,h4⟩,hb2,hb,hz,hr⟩;refine⟨_,rfl,hb,?_⟩;have e:n12 (uw x)=.inl (.inr (List.map lv [.int .i64 0,.int .i64 (nb x 12 4),.int .i64 (nb x 16 4)]++[ls { own:=2,nm:=0,e:=5,o:=true,xs:=x.drop 24 }])):=by
    unfold uw;rw[if_pos hu];rfl
   rw[e];refine aEk rfl rfl h1 (λy hy=>?_) (OwnL_mono bH n _ _ fp (λy hy=>hr y ?_) h4)
   ·have:=h2 y hy;omega
   ·have:=h2 y hy;omega
  ·have hm:sC x=some (true,5,aGP):=by unfold sC;rw[if_pos hc,if_neg hu]
   have hF1:(c48 sC).F (a48.enc x)=some (true,n48 (true,5,aGP)):=by
    show some ((sC x).isSome,n48 ((sC x).getD aDN))=_;rw[hm];rfl
   have h48:=aGl (w.alloc gU) A0 (a48.enc x) [u0] true _ _ hA1 hargs1 hF1;have h:=xO u0 5 w 0 ((callsIn_wide.2 h48).mono λe w2 ⟨hb,h⟩=>⟨hb,h⟩);refine(callsIn_wide.1 h).mono ?_;rintro e w' ⟨hb,rfl⟩;refine⟨_,rfl,hb,?_⟩;have e:n12 (uw x)=.inl (.inr (List.map lv [.int .i64 5,.int .i64 0,.int .i64 0]++[ls { own:=2,nm:=0,e:=5,o:=true,xs:=[] }])):=by
    unfold uw;rw[if_neg hu];rfl
   rw[e];exact aEk rfl rfl pQ (by simp) (uG w')
 ·cases hx
end Go.Proofs.Try
