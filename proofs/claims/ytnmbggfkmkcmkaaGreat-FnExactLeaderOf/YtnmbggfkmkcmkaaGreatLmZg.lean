/- A part of the proof of FnExactLeaderOf: LmZg, LmZh, LmZi. -/
import Derived.Test.YtnmbggfkmkcmkaaGreatLmZd
import Derived.Test.YtnmbggfkmkcmkaaGreatLmFc
import Derived.Test.YtnmbggfkmkcmkaaGreatVmGr
import Derived.Test.YtnmbggfkmkcmkaaGreatVmCb
set_option linter.unusedSimpArgs false
set_option linter.unusedVariables false
set_option maxHeartbeats 0
namespace Go.Proofs.Tryz
open Go Go.VM Go.RowKit
abbrev Er:=Int×List En
instance decEr:DecidableEq Er:=instDecidableEqProd
def agE (c:Cl):Er:=if clF c=0 then(0,sld c.2.2.2)else(clF c,[])
def mAg (c:Cl):Option Er:=if cOk c then some (agE c)else none
theorem aRz:Sat prog cxT 23 (c23 mAg):=s23 hM yF aLf aRd mAg λc t h=>by
 obtain⟨a,b,w,d⟩:=c;unfold mAg at h;split at h
 ·rename_i hc;cases h;refine⟨0,?_⟩;show g23 hM yF 0 a b w d=some (agE (a,b,w,d));unfold g23 G23 agE;rw[show hM (a,b,w,d)=some (clF (a,b,w,d)) from if_pos hc,aP];by_cases hz:clF (a,b,w,d)=0
  ·rw[wO hz,cond_false,if_pos hz,show yF (a,b,w,d)=some (sld d) from if_pos hc,aP]
  ·rw[rI hz,cond_true,if_neg hz]
 ·cases h
theorem aRy:Sat prog cxT 24 (c24 mAg):=s24 hM yG aLe aRe mAg λc t h=>by
 obtain⟨a,b,w,d⟩:=c;unfold mAg at h;split at h
 ·rename_i hc;cases h;obtain⟨_,_,_,hd⟩:=aA0 hc;refine⟨0,?_⟩;show g24 hM yG 0 a b w d=some (agE (a,b,w,d));unfold g24 G24 agE;rw[show hM (a,b,w,d)=some (clF (a,b,w,d)) from if_pos hc,aP];by_cases hz:clF (a,b,w,d)=0
  ·rw[wO hz,cond_false,if_pos hz,show yG d=some (sld d) from if_pos hd,aP]
  ·rw[rI hz,cond_true,if_neg hz]
 ·cases h
def wZ (x:Er×Er):Option Bool:=if x.1.2.length<=1000000000 then some (decide (x.1=x.2))else none
theorem aRx:Sat prog cxT 25 (c25 wZ):=s25 jF aHB wZ λx t h=>by
 obtain⟨⟨a,b⟩,a',b'⟩:=x;unfold wZ at h;split at h
 ·rename_i hc;cases h;refine⟨0,?_⟩;show g25 jF 0 a b a' b'=_;unfold g25 G25;refine gO (λe1=>?_) λe h=>e (congrArg Prod.fst h)
  rw[show jF (b,b')=some (decide (b=b')) from if_pos (by have:b.length<=1000000000:=hc;show b.length<=1000000000000;omega),aP];subst e1;by_cases hb:b=b'
  ·subst hb;simp
  ·simp[hb]
 ·cases h
def vP (x:Er×Int):Option (Int×Er):=if x.1.2.length<=1000000000/\x.2=1 then some (1+9 * (x.1.2.length:Int),x.1.1,oA mkE 9 x.1.2.length 1)else none
theorem aRv:SatW prog cxT 27 (c27 vP).nres (c27 vP).n (c27 vP).F:=s27 eT aHA vP λx t h=>by
 obtain⟨⟨c,o⟩,v⟩:=x;unfold vP at h;split at h
 ·rename_i hc;cases h;obtain⟨h1,rfl⟩:o.length<=1000000000/\v=1:=hc;refine⟨0,?_⟩;show g27 eT 0 c o 1=_;unfold g27 G27;rw[show eT (o,1)=some (1+9 * (o.length:Int),oA mkE 9 o.length 1) from if_pos ⟨h1,by show(0:Int)<=1;omega,by show(1:Int)<=100000000000;omega⟩,aP]
 ·cases h
def xT (x:Er×Int):Option Int:=if hdE (x.1.2,x.2)then some (x.2+9 * (x.1.2.length:Int))else none
theorem aRu:Sat prog cxT 28 (c28 xT):=s28 yE aQ8 xT λx t h=>by
 obtain⟨⟨c,o⟩,v⟩:=x;unfold xT at h;split at h
 ·rename_i hc;cases h;refine⟨0,?_⟩;show g28 yE 0 c o v=_;unfold g28 G28;have h0:0<=v:=hc.2.1;rw[show yE (o,v)=some (v+9 * (o.length:Int)) from if_pos hc,aP,df (by omega),cond_false]
 ·cases h
theorem aK3 {c:Cl}(h:c.2.2.2.length<=1000000000):(agE c).2.length<=1000000000:=by
 unfold agE;split
 ·rw[aFi];exact h
 ·exact dI _
theorem aX0:Sat prog cxT 8 (c8 mL):=s8 gH fK mAg mAg wZ gI vQ vP xT aLi aLh aRz aRy aRx aLg aRw aRv aRu mL λc t h=>by
 unfold mL at h;split at h
 ·rename_i hc;cases h;refine⟨0,?_⟩;have e1:gH (c,1048576)=some (pM 1048576 (szC c)):=if_pos ⟨rfl,hc⟩;obtain⟨a,b,w,d⟩:=c;show g8 gH fK mAg mAg wZ gI vQ vP xT 0 a b w d=_;unfold g8 G8;dsimp only[List.getD_cons_zero];rw[show gH _=some _ from e1,aP];by_cases hz:pM 1048576 (szC (a,b,w,d)) < 0
  ·rw[dt hz];rfl
  have ho:=aK4 hz;have hl:(agE (a,b,w,d)).2.length<=1000000000:=aK3 (aA0 ho).2.2.2;rw[df hz,cond_false,show fK (a,b,w,d)=some (a,b,w,d) from if_pos ho];simp only[aP];rw[show mAg (a,b,w,d)=some (agE (a,b,w,d)) from if_pos ho]
  generalize agE (a,b,w,d)=e at hl
  obtain⟨k,o⟩:=e;have hl:o.length<=1000000000:=hl;simp only[aP];have e25:wZ ((k,o),k,o)=some true:=(if_pos hl).trans (by rw[dt rfl]);have e14:gI ((a,b,w,d),a,b,w,d)=some true:=(if_pos ho).trans (by rw[dt rfl]);have e26:vQ ((a,b,w,d),1)=some (1+wC (a,b,w,d),mkC (a,b,w,d) 1):=if_pos ⟨ho,by show(0:Int)<=1;omega,by show(1:Int)<=50000000;omega⟩;have e27:vP ((k,o),1)=some (1+9 * (o.length:Int),k,oA mkE 9 o.length 1):=if_pos ⟨hl,rfl⟩;have e28:xT ((k,oA mkE 9 o.length 1),1)=some (1+9 * (o.length:Int)):=(if_pos (aSA hl (by omega) (by omega))).trans (by simp only[yC]);have hw:0<=wC (a,b,w,d):=by
   obtain⟨b1,b2,b3,b4,b5,b6⟩:=kV ho;show 0<=dF wD a+dF wM b+2 * (w.length:Int)+10 * (d.length:Int);omega
  rw[e25,aP,cC,cond_false,e14,aP,cC,cond_false,e26,aP,df (by omega),cond_false];simp only[aP,cond_false];rw[e27,aP];simp only[e28,aP];rw[df (show ¬ 1+9 * (o.length:Int) < 0 by omega),cond_false,wO rfl,cond_false]
  rfl
 ·cases h
end Go.Proofs.Tryz
namespace Go.Proofs.Tryz
open Go Go.VM Go.RowKit
def sG (idf tmf rlf:Nat->Int):Nat->Int×Int×Int
 | 0=>(4,0,0)
 | i+1=>if rlf i=2/\tmf i > (sG idf tmf rlf i).2.2 then(0,idf i,tmf i)else sG idf tmf rlf i
theorem aNX (W:World)(b:Nat)(v0 v1 u0 u1:Value)(h:W.heap[b]?=some (.cells #[u0,u1] 47 (0,0))) :
  ((W.setCell ⟨b,0,none⟩ v0).setCell ⟨b,1,none⟩ v1).heap[b]?=some (.cells #[v0,v1] 47 (0,0)) ∧
  (∀ B w0,B<=b->Below B w0 W->Below B w0 ((W.setCell ⟨b,0,none⟩ v0).setCell ⟨b,1,none⟩ v1)):=by
 have h1:=heap_setCell_same W b 0 _ 47 v0 h;exact⟨heap_setCell_same _ b 1 _ 47 v1 h1,λB w0 hB h=>(h.setCell (p:=⟨b,0,none⟩) hB _).setCell (p:=⟨b,1,none⟩) hB _⟩
section
attribute [local go_sem] Oper.semAt_some
set_option maxRecDepth 100000 in
set_option maxHeartbeats 8000000 in
theorem aIo (q:Option Addr)(n c:Nat)(us:List Value)(hl:us.length=n * 10)(hn:n<=1000000000)(h1:∀ x∈us,x.oneCell'=true)(w:World)(B:Nat)(hBw:w.heap.size=B)
  (hq:n≠0->∃ b off,q=some ⟨b,off,none⟩/\∀ (j:Nat) x,us[j]?=some x->b < w.heap.size/\w.cell? ⟨b,off+j,none⟩=some x)
  (q1 q2 q3:Option Addr) (n1 n2 n3 c1 c2 c3:Nat) (idf tmf rlf:Nat->Int)
  (hel:∀ i,i < n->∃ z1 z3 q4 m4 k4 z6 q7 m7 k7 q8 m8 k8 q9 m9 k9,
   ∀ (t:Nat) v,([.int .i64 (idf i),.int .i64 z1,.int .i64 (tmf i),.int .i64 z3,.slice q4 m4 k4,.int .i64 (rlf i),.int .i64 z6,.slice q7 m7 k7,.slice q8 m8 k8,.slice q9 m9 k9]:List Value)[t]?=some v->us[i * 10+t]?=some v)
  (h42:∀ W,Below B w W->Calls prog 42 #[.agg #[.slice q n c,.slice q1 n1 c1,.slice q2 n2 c2,.slice q3 n3 c3]] W λe W'=>e=.returned (.int .i64 0)/\Below W.heap.size W W') :
  Calls prog 30 #[.agg #[.slice q n c,.slice q1 n1 c1,.slice q2 n2 c2,.slice q3 n3 c3]] w λe W=>e=.returned (.agg #[.int .i64 (sG idf tmf rlf n).1,.int .i64 (sG idf tmf rlf n).2.1])/\Below B w W:=by
 subst hBw
 generalize hW0:(w.alloc (.cells #[.slice q n c,.slice q1 n1 c1,.slice q2 n2 c2,.slice q3 n3 c3] 35)).alloc (.cells #[.int .i64 0,.int .i64 0] 47)=W0
 have hB0:Below w.heap.size w W0:=by subst hW0;exact(((Below.refl w.heap.size w).alloc (aH _) _).alloc (by simp) _)
 have hq0:n≠0->∃ b off,q=some ⟨b,off,none⟩/\∀ (j:Nat) x,us[j]?=some x->b < W0.heap.size/\W0.cell? ⟨b,off+j,none⟩=some x:=λh=>by
  obtain⟨b,off,h,h'⟩:=hq h;exact⟨b,off,h,λj x hj=>⟨by have:=(h' j x hj).1;have:=hB0.size;omega,(hB0.cell (h' j x hj).1).trans (h' j x hj).2⟩⟩
 have b00:W0.heap[w.heap.size]?=some (.cells #[.slice q n c,.slice q1 n1 c1,.slice q2 n2 c2,.slice q3 n3 c3] 35 (0,0)):=by subst hW0;exact heap_alloc2_old w _ _
 have b01:W0.heap[w.heap.size+1]?=some (.cells #[.int .i64 0,.int .i64 0] 47 (0,0)):=by subst hW0;exact heap_alloc2_new w _ _
 have hs0:W0.heap.size=w.heap.size+2:=by subst hW0;simp
 have k00:W0.cell? ⟨w.heap.size,0,none⟩=some (.slice q n c):=(cell_of_row _ _ _ _ 35 (0,0) b00).trans rfl;have k01:W0.cell? ⟨w.heap.size,1,none⟩=some (.slice q1 n1 c1):=(cell_of_row _ _ _ _ 35 (0,0) b00).trans rfl;have k02:W0.cell? ⟨w.heap.size,2,none⟩=some (.slice q2 n2 c2):=(cell_of_row _ _ _ _ 35 (0,0) b00).trans rfl;have k03:W0.cell? ⟨w.heap.size,3,none⟩=some (.slice q3 n3 c3):=(cell_of_row _ _ _ _ 35 (0,0) b00).trans rfl;have h42':=h42 W0 hB0
 go_enter func30,ntmps30
 go_wp2_with (go_at_call 42;(first | rw[hW0] | skip);refine h42'.mono ?_;clear h42';rintro e w1 ⟨rfl,hB1⟩;have k20:(w1.alloc (.cells #[.int .i64 4,.int .i64 0] 47)).cell? ⟨w.heap.size,0,none⟩=some (.slice q n c):=(((hB1.alloc hB1.size _).cell (by show w.heap.size < _;omega)).trans k00))
 have hs1:=hB1.size
 go_loopw [5,18] (λt i wr=>∃ j:Nat,j<=n/\i=.int .i64 j/\t=.int .i64 (sG idf tmf rlf j).2.2/\wr.heap[w1.heap.size]?=some (.cells #[.int .i64 (sG idf tmf rlf j).1,.int .i64 (sG idf tmf rlf j).2.1] 47 (0,0))/\Below W0.heap.size W0 wr) (λ_ i _=>n-(intOf i).toNat)
 case atStart=>exact⟨0,dI _,rfl,rfl,World.alloc_heap_new w1 _,hB1.alloc hB1.size _⟩
 case round=>
  obtain⟨j,hj,rfl,rfl,hg,hB⟩:=hrel;by_cases hlt:j < n
  ·obtain⟨z1,z3,q4,m4,k4,z6,q7,m7,k7,q8,m8,k8,q9,m9,k9,hcs⟩:=hel j hlt;obtain⟨sb,so,rfl,had⟩:=hq0 (by omega);have hk:∀ t v,([.int .i64 (idf j),.int .i64 z1,.int .i64 (tmf j),.int .i64 z3,.slice q4 m4 k4,.int .i64 (rlf j),.int .i64 z6,.slice q7 m7 k7,.slice q8 m8 k8,.slice q9 m9 k9]:List Value)[t]?=some v->wr.cell? ⟨sb,so+j * 10+t,none⟩=some v:=λt v h=>by
    have:=had _ _ (hcs t v h);rw[<-gJ]at this;exact(hB.cell this.1).trans this.2
   have k0:=hk 0 _ rfl;rw[iW]at k0;have k1:=hk 1 _ rfl;have k2:=hk 2 _ rfl;have k3:=hk 3 _ rfl;have k4':=hk 4 _ rfl;have k5:=hk 5 _ rfl;have k6:=hk 6 _ rfl;have k7':=hk 7 _ rfl;have k8':=hk 8 _ rfl;have k9':=hk 9 _ rfl;have ea:(⟨sb,so,none⟩:Addr).add (j * 10)=⟨sb,so+j * 10,none⟩:=Addr.add_lit ..
   have hgw:w1.heap.size < wr.heap.size:=by
    have:=(bU.1 hg).1;exact this
   have hgn:w1.heap.size≠wr.heap.size:=by omega
   have hgn':wr.heap.size≠w1.heap.size:=by omega
   by_cases hrl:rlf j=2
   ·rw[hrl]at k5;have hold:∀ k,k < wr.heap.size->(wr.alloc (.cells #[.int .i64 (idf j),.int .i64 z1,.int .i64 (tmf j),.int .i64 z3,.slice q4 m4 k4,.int .i64 2,.int .i64 z6,.slice q7 m7 k7,.slice q8 m8 k8,.slice q9 m9 k9] 73)).heap[k]?=wr.heap[k]?:=λk hk=>heap_alloc_old wr _ hk
    have hbx:(wr.alloc (.cells #[.int .i64 (idf j),.int .i64 z1,.int .i64 (tmf j),.int .i64 z3,.slice q4 m4 k4,.int .i64 2,.int .i64 z6,.slice q7 m7 k7,.slice q8 m8 k8,.slice q9 m9 k9] 73)).heap[wr.heap.size]?=some (.cells #[.int .i64 (idf j),.int .i64 z1,.int .i64 (tmf j),.int .i64 z3,.slice q4 m4 k4,.int .i64 2,.int .i64 z6,.slice q7 m7 k7,.slice q8 m8 k8,.slice q9 m9 k9] 73 (0,0)):=World.alloc_heap_new wr _;have hB2:Below W0.heap.size W0 (wr.alloc (.cells #[.int .i64 (idf j),.int .i64 z1,.int .i64 (tmf j),.int .i64 z3,.slice q4 m4 k4,.int .i64 2,.int .i64 z6,.slice q7 m7 k7,.slice q8 m8 k8,.slice q9 m9 k9] 73)):=hB.alloc hB.size _
    go_wp2
    ·generalize hW1:(wr.alloc (.cells #[.int .i64 (idf j),.int .i64 z1,.int .i64 (tmf j),.int .i64 z3,.slice q4 m4 k4,.int .i64 2,.int .i64 z6,.slice q7 m7 k7,.slice q8 m8 k8,.slice q9 m9 k9] 73))=W1 at hB2 hold hbx
     have hg1:=(hold _ hgw).trans hg;have j0:W1.cell? ⟨wr.heap.size,0,none⟩=some (.int .i64 (idf j)):=(cell_of_row _ _ _ _ 73 (0,0) hbx).trans rfl;have j2:W1.cell? ⟨wr.heap.size,2,none⟩=some (.int .i64 (tmf j)):=(cell_of_row _ _ _ _ 73 (0,0) hbx).trans rfl;have l0:W1.cell? ⟨w1.heap.size,0,none⟩=some (.int .i64 (sG idf tmf rlf j).1):=(cell_of_row _ _ _ _ 47 (0,0) hg1).trans rfl;have l1:W1.cell? ⟨w1.heap.size,1,none⟩=some (.int .i64 (sG idf tmf rlf j).2.1):=(cell_of_row _ _ _ _ 47 (0,0) hg1).trans rfl;have f0:W1.frozen? ⟨w1.heap.size,0,none⟩=false:=frozen_of_row _ _ _ _ 47 hg1;have f1:W1.frozen? ⟨w1.heap.size,1,none⟩=false:=frozen_of_row _ _ _ _ 47 hg1
     go_region_with (fail)
     all_goals
      go_wp2
     all_goals
      have e:sG idf tmf rlf (j+1)=(0,idf j,tmf j):=if_pos ⟨hrl,by omega⟩;obtain⟨y1,y2⟩:=aNX W1 w1.heap.size (.int .i64 0) (.int .i64 (idf j)) _ _ hg1;exact⟨⟨j+1,by omega,by simp,by rw[e],by rw[e];exact y1,(y2 W0.heap.size W0 (by omega) hB2).drew⟩,by simp[intOf];omega⟩
    ·have e:sG idf tmf rlf (j+1)=sG idf tmf rlf j:=if_neg λh=>by omega
     exact⟨⟨j+1,by omega,by simp,by rw[e],by rw[e];exact(heap_alloc_old wr _ hgw).trans hg,hB.alloc hB.size _⟩,by simp[intOf];omega⟩
   ·go_wp2
    have e:sG idf tmf rlf (j+1)=sG idf tmf rlf j:=if_neg λh=>hrl h.1
    exact⟨⟨j+1,by omega,by simp,by rw[e],by rw[e];exact(heap_alloc_old wr _ hgw).trans hg,hB.alloc hB.size _⟩,by simp[intOf];omega⟩
  ·obtain rfl:j=n:=by omega
   have r1:wr.heap[w.heap.size+1]?=some (.cells #[.int .i64 0,.int .i64 0] 47 (0,0)):=(hB.block _ (by omega)).trans b01;have l0:wr.cell? ⟨w1.heap.size,0,none⟩=some (.int .i64 (sG idf tmf rlf j).1):=(cell_of_row _ _ _ _ 47 (0,0) hg).trans rfl;have l1:wr.cell? ⟨w1.heap.size,1,none⟩=some (.int .i64 (sG idf tmf rlf j).2.1):=(cell_of_row _ _ _ _ 47 (0,0) hg).trans rfl;have r10:wr.cell? ⟨w.heap.size+1,0,none⟩=some (.int .i64 0):=(cell_of_row _ _ _ _ 47 (0,0) r1).trans rfl;have r11:wr.cell? ⟨w.heap.size+1,1,none⟩=some (.int .i64 0):=(cell_of_row _ _ _ _ 47 (0,0) r1).trans rfl;have f0:wr.frozen? ⟨w.heap.size+1,0,none⟩=false:=frozen_of_row _ _ _ _ 47 r1;have f1:wr.frozen? ⟨w.heap.size+1,1,none⟩=false:=frozen_of_row _ _ _ _ 47 r1
   go_wp2
   obtain⟨y1,y2⟩:=aNX wr (w.heap.size+1) (.int .i64 (sG idf tmf rlf j).1) (.int .i64 (sG idf tmf rlf j).2.1) _ _ r1;have y3:=y2 w.heap.size w (by omega) (hB0.trans (hB.mono hB0.size))
   generalize ((wr.setCell ⟨w.heap.size+1,0,none⟩ (.int .i64 (sG idf tmf rlf j).1)).setCell ⟨w.heap.size+1,1,none⟩ (.int .i64 (sG idf tmf rlf j).2.1))=Wf at y1 y3 ⊢
   have z0:Wf.cell? ⟨w.heap.size+1,0,none⟩=some (.int .i64 (sG idf tmf rlf j).1):=(cell_of_row _ _ _ _ 47 (0,0) y1).trans rfl;have z1:Wf.cell? ⟨w.heap.size+1,1,none⟩=some (.int .i64 (sG idf tmf rlf j).2.1):=(cell_of_row _ _ _ _ 47 (0,0) y1).trans rfl;refine bodyPost_ret (v:=.agg #[.int .i64 (sG idf tmf rlf j).1,.int .i64 (sG idf tmf rlf j).2.1]) ?_ rfl ⟨rfl,y3⟩;simp[results,show f30.results=#[.cell 2 47] from rfl,go_sem,z0,z1]
set_option maxRecDepth 100000 in
set_option maxHeartbeats 8000000 in
theorem aGY (q:Option Addr)(n c:Nat)(w:World)(B:Nat)(hBw:w.heap.size=B)(k:Int)(hk0:k≠0)
  (q1 q2 q3:Option Addr) (n1 n2 n3 c1 c2 c3:Nat)
  (h42:∀ W,Below B w W->Calls prog 42 #[.agg #[.slice q n c,.slice q1 n1 c1,.slice q2 n2 c2,.slice q3 n3 c3]] W λe W'=>e=.returned (.int .i64 k)/\Below W.heap.size W W') :
  Calls prog 30 #[.agg #[.slice q n c,.slice q1 n1 c1,.slice q2 n2 c2,.slice q3 n3 c3]] w λe W=>e=.returned (.agg #[.int .i64 k,.int .i64 0])/\Below B w W:=by
 subst hBw
 generalize hW0:(w.alloc (.cells #[.slice q n c,.slice q1 n1 c1,.slice q2 n2 c2,.slice q3 n3 c3] 35)).alloc (.cells #[.int .i64 0,.int .i64 0] 47)=W0
 have hB0:Below w.heap.size w W0:=by subst hW0;exact(((Below.refl w.heap.size w).alloc (aH _) _).alloc (by simp) _)
 have b00:W0.heap[w.heap.size]?=some (.cells #[.slice q n c,.slice q1 n1 c1,.slice q2 n2 c2,.slice q3 n3 c3] 35 (0,0)):=by subst hW0;exact heap_alloc2_old w _ _
 have b01:W0.heap[w.heap.size+1]?=some (.cells #[.int .i64 0,.int .i64 0] 47 (0,0)):=by subst hW0;exact heap_alloc2_new w _ _
 have hs0:W0.heap.size=w.heap.size+2:=by subst hW0;simp
 have k00:W0.cell? ⟨w.heap.size,0,none⟩=some (.slice q n c):=(cell_of_row _ _ _ _ 35 (0,0) b00).trans rfl;have k01:W0.cell? ⟨w.heap.size,1,none⟩=some (.slice q1 n1 c1):=(cell_of_row _ _ _ _ 35 (0,0) b00).trans rfl;have k02:W0.cell? ⟨w.heap.size,2,none⟩=some (.slice q2 n2 c2):=(cell_of_row _ _ _ _ 35 (0,0) b00).trans rfl;have k03:W0.cell? ⟨w.heap.size,3,none⟩=some (.slice q3 n3 c3):=(cell_of_row _ _ _ _ 35 (0,0) b00).trans rfl;have h42':=h42 W0 hB0
 go_enter func30,ntmps30
 go_wp2_with (go_at_call 42;(first | rw[hW0] | skip);refine h42'.mono ?_;clear h42';rintro e w1 ⟨rfl,hB1⟩;have r1:w1.heap[w.heap.size+1]?=some (.cells #[.int .i64 0,.int .i64 0] 47 (0,0)):=(hB1.block _ (by omega)).trans b01;have r10:w1.cell? ⟨w.heap.size+1,0,none⟩=some (.int .i64 0):=(cell_of_row _ _ _ _ 47 (0,0) r1).trans rfl;have r11:w1.cell? ⟨w.heap.size+1,1,none⟩=some (.int .i64 0):=(cell_of_row _ _ _ _ 47 (0,0) r1).trans rfl;have f0:w1.frozen? ⟨w.heap.size+1,0,none⟩=false:=frozen_of_row _ _ _ _ 47 r1;have f1:w1.frozen? ⟨w.heap.size+1,1,none⟩=false:=frozen_of_row _ _ _ _ 47 r1)
 obtain⟨y1,y2⟩:=aNX w1 (w.heap.size+1) (.int .i64 k) (.int .i64 0) _ _ r1;have y3:=y2 w.heap.size w (by omega) (hB0.trans (hB1.mono hB0.size))
 generalize ((w1.setCell ⟨w.heap.size+1,0,none⟩ (.int .i64 k)).setCell ⟨w.heap.size+1,1,none⟩ (.int .i64 0))=Wf at y1 y3 ⊢
 have z0:Wf.cell? ⟨w.heap.size+1,0,none⟩=some (.int .i64 k):=(cell_of_row _ _ _ _ 47 (0,0) y1).trans rfl;have z1:Wf.cell? ⟨w.heap.size+1,1,none⟩=some (.int .i64 0):=(cell_of_row _ _ _ _ 47 (0,0) y1).trans rfl;refine bodyPost_ret (v:=.agg #[.int .i64 k,.int .i64 0]) ?_ rfl ⟨rfl,y3⟩;simp[results,show f30.results=#[.cell 2 47] from rfl,go_sem,z0,z1]
end
end Go.Proofs.Tryz
set_option maxHeartbeats 0
namespace Go.Proofs.Tryz
open Go Go.VM Go.RowKit
def idC (a:List Nd)(i:Nat):Int:=(a.getD i dN).1
def uD (a:List Nd)(i:Nat):Int:=(a.getD i dN).2.2.1
def vU (a:List Nd)(i:Nat):Int:=(a.getD i dN).2.2.2.2.2.1
def ldC (c:Cl):Int×Int:=if clF c=0 then((sG (idC c.1) (uD c.1) (vU c.1) c.1.length).1,(sG (idC c.1) (uD c.1) (vU c.1) c.1.length).2.1)else(clF c,0)
def mLd (c:Cl):Option (Int×Int):=if cOk c then some (ldC c)else none
theorem aJv {w:World}{A0:Nat->Prop}{a:A cxT.ty}{u:Value}(h:ArgA cxT w A0 a u):ArgAs cxT w A0 [a] [u]:=by
 refine⟨rfl,λj b v h1 h2=>?_⟩;cases j with
 | zero=>cases h1;cases h2;exact h
 | succ j=>simp at h1
theorem aFr {W:World}{A0 N:Nat->Prop}(x y:Int):ResV cxT W A0 N (.inl (.inr [lv (.int .i64 x),lv (.int .i64 y)])) (.agg #[.int .i64 x,.int .i64 y]):=by
 refine⟨[],tA,by simp,[.int .i64 x,.int .i64 y],[[],[]],rfl,by simp,rfl,rfl,λj a u f e1 e2 e3=>?_⟩
 match j with
 | 0=>cases e1;cases e2;cases e3;exact⟨rfl,rfl⟩
 | 1=>cases e1;cases e2;cases e3;exact⟨rfl,rfl⟩
 | j+2=>simp at e2
theorem aRs:Sat prog cxT 30 (c30 mLd):=by
 intro w A0 l us r hA hargs hF;obtain⟨x,t,rfl,hx,rfl⟩:=uY hF;obtain⟨xn,xm,xw,xs⟩:=x;obtain⟨u,rfl,hu⟩:=aFD (show ArgAs cxT w A0 [.inr [ls (ro 73 xn),ls (ro 96 xm),ls (ro 64 xw),ls (ro 104 xs)]] us from hargs);unfold mLd at hx;split at hx
 ·rename_i hc;cases hx;obtain⟨hn,_,_,_⟩:=aA0 hc;replace hn:xn.length<=1000000000:=hn;have hu':=hu;obtain⟨vs,rfl,hlen,hv⟩:=hu;obtain⟨u0,u1,u2,u3,rfl⟩:∃ a b c d,vs=[a,b,c,d]:=by
   match vs,hlen with
   | [a,b,c,d],_=>exact⟨a,b,c,d,rfl⟩
  obtain⟨_,n0,h0⟩:=(show(ro 73 xn:SlD cxT.ty).own=0/\∃ n,RepL cxT w A0 n (some (.inr (ro 73 xn))) u0 from hv 0 _ _ rfl rfl)
  obtain⟨_,n1,h1⟩:=(show(ro 96 xm:SlD cxT.ty).own=0/\∃ n,RepL cxT w A0 n (some (.inr (ro 96 xm))) u1 from hv 1 _ _ rfl rfl)
  obtain⟨_,n2,h2⟩:=(show(ro 64 xw:SlD cxT.ty).own=0/\∃ n,RepL cxT w A0 n (some (.inr (ro 64 xw))) u2 from hv 2 _ _ rfl rfl)
  obtain⟨_,n3,h3⟩:=(show(ro 104 xs:SlD cxT.ty).own=0/\∃ n,RepL cxT w A0 n (some (.inr (ro 104 xs))) u3 from hv 3 _ _ rfl rfl)
  obtain⟨q,c,cs,rfl,hcap,hl,ho,hq,hel⟩:=aHQ (K:=10) bC (rfl:cxT.size 73=10) (by decide) h0;replace hl:cs.length=(xn:List N10).length * 10:=hl;obtain⟨q1,c1,rfl,_,_⟩:=uI h1;obtain⟨q2,c2,rfl,_,_⟩:=uI h2;obtain⟨q3,c3,rfl,_,_⟩:=uI h3;have h42:∀ W,Below w.heap.size w W->Calls prog 42 #[.agg #[.slice q xn.length c,.slice q1 xm.length c1,.slice q2 xw.length c2,.slice q3 xs.length c3]] W λe W'=>e=.returned (.int .i64 (clF (xn,xm,xw,xs)))/\Below W.heap.size W W':=λW hB=>by
   have hBs:=hB.size;have mono:=λ(l:L cxT.ty) u (n:Nat) (h:RepL cxT w A0 n l u)=>RepL_mono cxT (w':=W) (λb hb=>hB.block b (hA b hb)) (λ_ h=>h) n l u h
   refine(aLe W A0 (a42.enc (xn,xm,xw,xs)) [.agg #[.slice q xn.length c,.slice q1 xm.length c1,.slice q2 xw.length c2,.slice q3 xs.length c3]] (n42 (clF (xn,xm,xw,xs))) (λb hb=>by have:=hA b hb;omega) (aJv (a:=.inr [ls (ro 73 xn),ls (ro 96 xm),ls (ro 64 xw),ls (ro 104 xs)]) ⟨_,rfl,by simp,λj l v e1 e2=>?_⟩) ?_).mono ?_
   ·match j with
    | 0=>cases e1;cases e2;exact⟨rfl,n0,mono _ _ _ h0⟩
    | 1=>cases e1;cases e2;exact⟨rfl,n1,mono _ _ _ h1⟩
    | 2=>cases e1;cases e2;exact⟨rfl,n2,mono _ _ _ h2⟩
    | 3=>cases e1;cases e2;exact⟨rfl,n3,mono _ _ _ h3⟩
    | j+4=>simp at e1
   ·show some ((hM (xn,xm,xw,xs)).isSome,n42 ((hM (xn,xm,xw,xs)).getD aPm))=_;rw[show hM (xn,xm,xw,xs)=some (clF (xn,xm,xw,xs)) from if_pos hc]
    rfl
   ·rintro e' W' ⟨u,rfl,hb,hr⟩;exact⟨by rw[aFC (show ResV cxT W' A0 _ (.inl (.inl (lv (.int .i64 (clF (xn,xm,xw,xs)))))) u from hr)],hb⟩
  by_cases hz:clF (xn,xm,xw,xs)=0
  ·rw[hz]at h42;have hq':xn.length≠0->∃ b off,q=some ⟨b,off,none⟩/\∀ (j:Nat) x,cs[j]?=some x->b < w.heap.size/\w.cell? ⟨b,off+j,none⟩=some x:=λh=>by
    obtain⟨b,off,rfl,hS,h⟩:=hq h;exact⟨b,off,rfl,λj v hj=>⟨hA b hS,h j v hj⟩⟩
   refine(aIo q xn.length c cs hl hn ho w w.heap.size rfl hq' q1 q2 q3 xm.length xw.length xs.length c1 c2 c3 (idC xn) (uD xn) (vU xn) (λi hi=>?_) h42).mono ?_
   ·have hy:xn[i]?=some xn[i]:=aC hi;have hg:xn.getD i dN=xn[i]:=yU dN hi;have hpl:∀ (t:Nat) v,(cxT.enc 73 false xn[i])[t]?=some (lv v)->cs[i * 10+t]?=some v:=λt v h=>by
     obtain⟨u,m,k1,k2⟩:=hel i _ hy t _ h;have h5:u=v:=by cases m<;>simpa[RepL,lv]using k2
     rw[k1,h5]
    have hrw:∀ (t e:Nat) (ys:List (cxT.ty e)),(cxT.enc 73 false xn[i])[t]?=some (ls (ro e ys))->∃ q c,cs[i * 10+t]?=some (.slice q ys.length c):=λt e ys h=>by
     obtain⟨u,m,k1,k2⟩:=hel i _ hy t _ h;obtain⟨q,c,hu,_⟩:=uI k2;exact⟨q,c,by rw[k1,hu]⟩
    obtain⟨q4,k4,e4⟩:=hrw 4 102 _ rfl;obtain⟨q7,k7,e7⟩:=hrw 7 2 _ rfl;obtain⟨q8,k8,e8⟩:=hrw 8 2 _ rfl;obtain⟨q9,k9,e9⟩:=hrw 9 2 _ rfl;refine⟨xn[i].2.1,xn[i].2.2.2.1,q4,xn[i].2.2.2.2.1.length,k4,xn[i].2.2.2.2.2.2.1,q7,xn[i].2.2.2.2.2.2.2.1.length,k7,q8,xn[i].2.2.2.2.2.2.2.2.1.length,k8,q9,xn[i].2.2.2.2.2.2.2.2.2.length,k9,λt v h=>?_⟩;unfold idC uD vU at h;rw[hg]at h
    match t with
    | 0=>cases h;exact hpl 0 _ rfl
    | 1=>cases h;exact hpl 1 _ rfl
    | 2=>cases h;exact hpl 2 _ rfl
    | 3=>cases h;exact hpl 3 _ rfl
    | 4=>cases h;exact e4
    | 5=>cases h;exact hpl 5 _ rfl
    | 6=>cases h;exact hpl 6 _ rfl
    | 7=>cases h;exact e7
    | 8=>cases h;exact e8
    | 9=>cases h;exact e9
    | t+10=>simp at h
   ·rintro e W ⟨rfl,hB⟩;refine⟨_,rfl,hB,?_⟩;have e1:ldC (xn,xm,xw,xs)=((sG (idC xn) (uD xn) (vU xn) xn.length).1,(sG (idC xn) (uD xn) (vU xn) xn.length).2.1):=if_pos hz;rw[e1];exact aFr _ _
  ·refine(aGY q xn.length c w w.heap.size rfl _ hz q1 q2 q3 xm.length xw.length xs.length c1 c2 c3 h42).mono ?_;rintro e W ⟨rfl,hB⟩;refine⟨_,rfl,hB,?_⟩;have e1:ldC (xn,xm,xw,xs)=(clF (xn,xm,xw,xs),0):=if_neg hz;rw[e1];exact aFr _ _
 ·cases hx
def vG (tm rl:Nat->Int):Nat->Int
 | 0=>-1
 | i+1=>if rl i=2 then(if vG tm rl i < 0 then(i:Int)else if tm i > tm (vG tm rl i).toNat then(i:Int)else vG tm rl i)else vG tm rl i
theorem aNp (tm rl:Nat->Int):∀ i,-1<=vG tm rl i/\vG tm rl i < (i:Int)
 | 0=>⟨iH _,by show(-1:Int) < 0;omega⟩
 | i+1=>by
  have ih:=aNp tm rl i;show -1<=(if _ then _ else _)/\(if _ then _ else _) < _;split
  ·split
   ·omega
   ·split<;>omega
  ·omega
theorem aJn {id tm rl:Nat->Int}:∀ n,(∀ i,i < n->rl i=2->0 < tm i)->(vG tm rl n=-1/\sG id tm rl n=(4,0,0))\/∃ b:Nat,b < n/\vG tm rl n=(b:Int)/\sG id tm rl n=(0,id b,tm b)
 | 0,_=>.inl ⟨rfl,rfl⟩
 | n+1,h=>by
  have hs:vG tm rl (n+1)=if rl n=2 then(if vG tm rl n < 0 then(n:Int)else if tm n > tm (vG tm rl n).toNat then(n:Int)else vG tm rl n)else vG tm rl n:=rfl
  have hl:sG id tm rl (n+1)=if rl n=2/\tm n > (sG id tm rl n).2.2 then(0,id n,tm n)else sG id tm rl n:=rfl
  rw[hs,hl];by_cases hr:rl n=2
  ·have ht:=h n (by omega) hr;rcases aJn n (id:=id) (λi hi=>h i (by omega))with⟨h1,h2⟩ | ⟨b,hb,h1,h2⟩
   ·rw[h1,h2,if_pos hr,if_pos (by omega),if_pos ⟨hr,ht⟩];exact .inr ⟨n,by omega,rfl,rfl⟩
   ·rw[h1,h2,if_pos hr,if_neg (by omega),bB];by_cases hg:tm n > tm b
    ·rw[if_pos hg,if_pos ⟨hr,hg⟩];exact .inr ⟨n,by omega,rfl,rfl⟩
    ·rw[if_neg hg,if_neg λh=>hg h.2];exact .inr ⟨b,by omega,rfl,rfl⟩
  ·rw[if_neg hr,if_neg λh=>hr h.1];rcases aJn n (id:=id) (λi hi=>h i (by omega))with⟨h1,h2⟩ | ⟨b,hb,h1,h2⟩
   ·exact .inl ⟨h1,h2⟩
   ·exact .inr ⟨b,by omega,h1,h2⟩
theorem aKc {x:Nd}(h:ndF x=0)(hr:x.2.2.2.2.2.1=2):0 < x.2.2.1:=by
 have h0:=(aHZ h).1.1;by_cases ht:x.2.2.1=0
 ·unfold ndF at h;have h1:=bz (bz h (by decide)).2 (by decide);have h2:=bz h1.2 (by decide);have h3:=bz h2.2 (by decide);have h4:=bz h3.2 (by decide);have h5:=bzl h4.2;have h6:=bz h5 (by decide);have h7:=bz h6.2 (by decide);have h8:=(bz h7.2 (by decide)).2
  generalize pP (aFG x) x.2.2.2.2.2.2.2.2.1.length 0=b at h8
  cases b
  ·cases h8
  ·have h9:aJa x=0:=h8;unfold aJa at h9;rw[hr,ht]at h9;cases hv:(x.2.2.2.1 != x.1)<;>rw[hv]at h9<;>cases h9
 ·omega
theorem aT8 (L:Nat)(a:List Nd)(b:List Ml)(w:List Wn)(d:List Sl)(ha:a.length<=1000000000)(K:Int->Int->Int->Option (Int×Int)):∀ n i,i<=a.length->a.length < n+i->qS hM L a b w d n a b w d 0 0 (vG (uD a) (vU a) i) (i:Int) K=K 0 0 (vG (uD a) (vU a) a.length)
 | 0,i,h1,h2=>by omega
 | n+1,i,h1,h2=>by
  show B29_0 (λx=>x) (λv0 v1 v2 v3 u0 u1 x y=>qS hM L a b w d n v0 v1 v2 v3 u0 u1 x y K) K hM a b w d a b w d 0 0 (vG (uD a) (vU a) i) (i:Int)=_;unfold B29_0;by_cases hi:i < a.length
  ·have ih:=aT8 L a b w d ha K n (i+1) (by omega) (by omega);have hs:vG (uD a) (vU a) (i+1)=if vU a i=2 then(if vG (uD a) (vU a) i < 0 then(i:Int)else if uD a i > uD a (vG (uD a) (vU a) i).toNat then(i:Int)else vG (uD a) (vU a) i)else vG (uD a) (vU a) i:=rfl
   have hb:=aNp (uD a) (vU a) i;rw[dt (show(i:Int) < (a.length:Int)by omega),cond_true,dt (show(0:Int)<=(i:Int)by omega),bM,cond_true,wi (by omega) (by omega),bB];show(bif vU a i == 2 then(bif decide (vG (uD a) (vU a) i < 0)then qS hM L a b w d n a b w d 0 0 (i:Int) ((i:Int)+1) K else bif true then(bif (decide (0<=vG (uD a) (vU a) i)&&decide (vG (uD a) (vU a) i < (a.length:Int)))then(bif decide (uD a i > uD a (vG (uD a) (vU a) i).toNat)then qS hM L a b w d n a b w d 0 0 (i:Int) ((i:Int)+1) K else qS hM L a b w d n a b w d 0 0 (vG (uD a) (vU a) i) ((i:Int)+1) K)else none)else none)else qS hM L a b w d n a b w d 0 0 (vG (uD a) (vU a) i) ((i:Int)+1) K)=_;rw[hs]at ih;by_cases hr:vU a i=2
   ·rw[if_pos hr]at ih;rw[hr,show((2:Int) == 2)=true from rfl,cond_true];by_cases hn:vG (uD a) (vU a) i < 0
    ·rw[if_pos hn]at ih;rw[dt hn,cond_true];exact ih
    ·rw[if_neg hn]at ih;rw[df hn,cond_false,cond_true,dt (by omega),dt (by omega),bM,cond_true];by_cases hg:uD a i > uD a (vG (uD a) (vU a) i).toNat
     ·rw[if_pos hg]at ih;rw[dt hg,cond_true];exact ih
     ·rw[if_neg hg]at ih;rw[df hg,cond_false];exact ih
   ·rw[if_neg hr]at ih;rw[aE9 hr,cond_false];exact ih
  ·rw[df (by omega),cond_false,show i=a.length by omega]
theorem aRt:Sat prog cxT 29 (c29 mLd):=s29 hM aLf mLd λc t h=>by
 obtain⟨a,b,w,d⟩:=c;unfold mLd at h;split at h
 ·rename_i hc;cases h;obtain⟨ha,_,_,_⟩:=aA0 hc;have ha:a.length<=1000000000:=ha;refine⟨a.length+1,?_⟩;show g29 hM (a.length+1) a b w d=some (ldC (a,b,w,d));unfold g29 G29 ldC;rw[show hM (a,b,w,d)=some (clF (a,b,w,d)) from if_pos hc,aP];by_cases hz:clF (a,b,w,d)=0
  ·rw[wO hz,cond_false,if_pos hz];refine(aT8 (a.length+1) a b w d ha _ (a.length+1) 0 (dI _) (by omega)).trans ?_;unfold A29_0;have hf:=(aVf hz).1;rcases aJn (id:=idC a) (tm:=uD a) (rl:=vU a) a.length (λi hi hr=>aKc (hf i hi).1 hr)with⟨h1,h2⟩ | ⟨k,hk,h1,h2⟩
   ·rw[h1,h2];rfl
   ·rw[h1,h2,df (by omega),cond_false];have:idC a k=(k:Int):=(hf k hk).2;rw[this]
  ·rw[rI hz,cond_true,if_neg hz]
 ·cases h
def zZ (x:(Int×Int)×(Int×Int)):Option Bool:=some (decide (x.1=x.2))
theorem aRr:Sat prog cxT 31 (c31 zZ):=s31 zZ λx t h=>by
 obtain⟨⟨a,b⟩,a',b'⟩:=x;cases h;refine⟨0,?_⟩;show g31 0 a b a' b'=_;unfold g31 G31;refine gO (λe1=>gO (λe2=>?_) λe h=>e (congrArg Prod.snd h)) λe h=>e (congrArg Prod.fst h)
 subst e1 e2;rw[dt rfl]
theorem aXZ:Sat prog cxT 9 (c9 mL):=s9 gH fK mLd mLd zZ gI aLi aLh aRt aRs aRr aLg mL λc t h=>by
 unfold mL at h;split at h
 ·rename_i hc;cases h;refine⟨0,?_⟩;have e1:gH (c,1048576)=some (pM 1048576 (szC c)):=if_pos ⟨rfl,hc⟩;obtain⟨a,b,w,d⟩:=c;show g9 gH fK mLd mLd zZ gI 0 a b w d=_;unfold g9 G9;dsimp only[List.getD_cons_zero];rw[show gH _=some _ from e1,aP];by_cases hz:pM 1048576 (szC (a,b,w,d)) < 0
  ·rw[dt hz];rfl
  have ho:=aK4 hz;rw[df hz,cond_false,show fK (a,b,w,d)=some (a,b,w,d) from if_pos ho];simp only[aP];rw[show mLd (a,b,w,d)=some (ldC (a,b,w,d)) from if_pos ho];simp only[aP];rw[show zZ _=some true from by show some (decide _)=_;rw[dt rfl],aP,cC,cond_false,show gI ((a,b,w,d),(a,b,w,d))=some (decide ((a,b,w,d)=(a,b,w,d))) from if_pos ho,aP,dt rfl]
  rfl
 ·cases h
theorem sats2:Sat prog cxT 8 (c8 mL)/\Sat prog cxT 9 (c9 mL):=⟨aX0,aXZ⟩
end Go.Proofs.Tryz
