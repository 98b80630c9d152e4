/- A part of the proof of FnExactApplyCmd: LpKi. -/
import Derived.Test.YtfncedbejffggaaGreatLpPj
set_option linter.unusedSimpArgs false
set_option linter.unusedVariables false
namespace Go.Proofs.Tryz
open Go.IntKind (wrap)
open Go Go.VM Go.RowKit
def oa1:Oper:={ dst:=some 52,op:=Op.buildSlice 30 0 #[],type:=30,pos:= "l05_config.go:200",after:=#[],guard:=none }
def oa8:Oper:={ dst:=some 59,op:=Op.call { callee:=Callee.builtin Builtin.append,args:=#[Operand.tmp 52,Operand.tmp 58],argTypes:=#[30,30] },type:=30,pos:= "l05_config.go:200",after:=#[{ on:=1,ground:=Ground.data },{ on:=7,ground:=Ground.data }],guard:=none }
def aGK:Oper:={ dst:=some 61,op:=Op.buildSlice 30 1 #[(0,Operand.tmp 60)],type:=30,pos:= "l05_config.go:200",after:=#[{ on:=9,ground:=Ground.data }],guard:=none }
def aGJ:Oper:={ dst:=some 62,op:=Op.call { callee:=Callee.builtin Builtin.append,args:=#[Operand.tmp 59,Operand.tmp 61],argTypes:=#[30,30] },type:=30,pos:= "l05_config.go:200",after:=#[{ on:=8,ground:=Ground.data },{ on:=10,ground:=Ground.data },{ on:=8,ground:=Ground.chain }],guard:=none }
def aGI:Oper:={ dst:=some 69,op:=Op.call { callee:=Callee.builtin Builtin.append,args:=#[Operand.tmp 62,Operand.tmp 68],argTypes:=#[30,30] },type:=30,pos:= "l05_config.go:200",after:=#[{ on:=11,ground:=Ground.data },{ on:=17,ground:=Ground.data },{ on:=11,ground:=Ground.chain }],guard:=none }
def aGH:Oper:={ dst:=some 70,op:=Op.nilCheck (Operand.tmp 51),type:=0,pos:= "l05_config.go:200",after:=#[{ on:=0,ground:=Ground.data },{ on:=0,ground:=Ground.phase },{ on:=1,ground:=Ground.phase },{ on:=2,ground:=Ground.phase },{ on:=3,ground:=Ground.phase },{ on:=4,ground:=Ground.phase },{ on:=5,ground:=Ground.phase },{ on:=6,ground:=Ground.phase },{ on:=7,ground:=Ground.phase },{ on:=8,ground:=Ground.phase },{ on:=9,ground:=Ground.phase },{ on:=10,ground:=Ground.phase },{ on:=11,ground:=Ground.phase },{ on:=12,ground:=Ground.phase },{ on:=13,ground:=Ground.phase },{ on:=14,ground:=Ground.phase },{ on:=15,ground:=Ground.phase },{ on:=16,ground:=Ground.phase },{ on:=17,ground:=Ground.phase },{ on:=18,ground:=Ground.phase }],guard:=none }
def aGG:Oper:={ dst:=some 71,op:=Op.fieldAddr 32 (Operand.tmp 70) 2,type:=0,pos:= "l05_config.go:200",after:=#[{ on:=19,ground:=Ground.data },{ on:=0,ground:=Ground.phase },{ on:=1,ground:=Ground.phase },{ on:=2,ground:=Ground.phase },{ on:=3,ground:=Ground.phase },{ on:=4,ground:=Ground.phase },{ on:=5,ground:=Ground.phase },{ on:=6,ground:=Ground.phase },{ on:=7,ground:=Ground.phase },{ on:=8,ground:=Ground.phase },{ on:=9,ground:=Ground.phase },{ on:=10,ground:=Ground.phase },{ on:=11,ground:=Ground.phase },{ on:=12,ground:=Ground.phase },{ on:=13,ground:=Ground.phase },{ on:=14,ground:=Ground.phase },{ on:=15,ground:=Ground.phase },{ on:=16,ground:=Ground.phase },{ on:=17,ground:=Ground.phase },{ on:=18,ground:=Ground.phase }],guard:=none }
def aGF:Oper:={ dst:=none,op:=Op.store 30 (Operand.tmp 71) (Operand.tmp 69),type:=0,pos:= "l05_config.go:200",after:=#[{ on:=20,ground:=Ground.data },{ on:=18,ground:=Ground.data },{ on:=18,ground:=Ground.chain },{ on:=0,ground:=Ground.phase },{ on:=1,ground:=Ground.phase },{ on:=2,ground:=Ground.phase },{ on:=3,ground:=Ground.phase },{ on:=4,ground:=Ground.phase },{ on:=5,ground:=Ground.phase },{ on:=6,ground:=Ground.phase },{ on:=7,ground:=Ground.phase },{ on:=8,ground:=Ground.phase },{ on:=9,ground:=Ground.phase },{ on:=10,ground:=Ground.phase },{ on:=11,ground:=Ground.phase },{ on:=12,ground:=Ground.phase },{ on:=13,ground:=Ground.phase },{ on:=14,ground:=Ground.phase },{ on:=15,ground:=Ground.phase },{ on:=16,ground:=Ground.phase },{ on:=17,ground:=Ground.phase },{ on:=18,ground:=Ground.phase }],guard:=none }
section
attribute [local go_sem] Oper.semAt_some
set_option maxRecDepth 100000 in
set_option maxHeartbeats 8000000 in
theorem aH7 (g:Nat)(t:TypeId)(a ex nm ad nu pr at':Int)(q q2:Option Addr)(n cap n2 cap2 p:Nat)(us:List Value)(w:World)
  (hg:w.heap[g]?=some (.cells #[.int .i64 a,.slice q n cap,.slice q2 n2 cap2] t (0,0))) (hn2:n2<=100) (hp:p<=n2)
  (h75:∀ W,Below w.heap.size w W->Calls prog 75 #[.pointer (some ⟨g,0,none⟩),.agg #[.int .i64 5,.int .i64 ex,.int .i64 nm,.int .i64 ad,.int .i64 nu,.int .i64 pr]] W λe W'=>e=.returned (.int .i64 at')/\Below W.heap.size W W')
  (hrow:w.ownsRow 0 76 4 (.slice q2 n2 cap2) n2 us) (h1us:∀ u∈us,u.oneCell'=true) (hgb:∀ b,Value.ownBlock (.slice q2 n2 cap2)=some b->b≠g)
  (h73:∀ i,i < n2->∃ gv x y z s,q2=some ⟨gv,0,none⟩/\gv < w.heap.size/\w.cell? ⟨gv,i * 4,none⟩=some (.int .i64 x)/\w.cell? ⟨gv,i * 4+1,none⟩=some (.int .i64 y)/\w.cell? ⟨gv,i * 4+2,none⟩=some (.int .i64 z)/\w.cell? ⟨gv,i * 4+3,none⟩=some s ∧
   ∃ b:Bool,(b=true↔i < p)/\(i<=p->∀ W,Below w.heap.size w W->Calls prog 73 #[.agg #[.int .i64 x,.int .i64 y,.int .i64 z,s],.agg #[.int .i64 ad,.int .i64 nu,.int .i64 pr,.slice none 0 0]] W λe W'=>e=.returned (.bool b)/\Below W.heap.size W W'))
  (G:Ending->World->Prop)
  (hG7:0<=at'->∀ W,Below w.heap.size w W->G (.returned (.int .i64 7)) W)
  (hG2:at' < 0->4<=n2->∀ W,Below w.heap.size w W->G (.returned (.int .i64 2)) W)
  (hG0:at' < 0->n2 < 4->∀ W b cp,Below w.heap.size w W->w.heap.size<=b->W.ownsRow 0 76 4 (.slice (some ⟨b,0,none⟩) (n2+1) cp) (n2+1) (us.take (p * 4)++[.int .i64 ad,.int .i64 nu,.int .i64 pr,.slice none 0 0]++us.drop (p * 4))->G (.returned (.int .i64 0)) (W.setCell ⟨g,2,none⟩ (.slice (some ⟨b,0,none⟩) (n2+1) cp))) :
  Calls prog 41 #[.pointer (some ⟨g,0,none⟩),.agg #[.int .i64 5,.int .i64 ex,.int .i64 nm,.int .i64 ad,.int .i64 nu,.int .i64 pr]] w G:=by
 have hgw:g < w.heap.size:=(aL.1 hg).1
 generalize hW0:w.alloc (.cells #[.int .i64 5,.int .i64 ex,.int .i64 nm,.int .i64 ad,.int .i64 nu,.int .i64 pr] 37)=W0
 have hB0:Below w.heap.size w W0:=by subst hW0;exact(Below.refl w.heap.size w).alloc (aK _) _
 have b0:W0.heap[w.heap.size]?=some (.cells #[.int .i64 5,.int .i64 ex,.int .i64 nm,.int .i64 ad,.int .i64 nu,.int .i64 pr] 37 (0,0)):=by subst hW0;exact World.alloc_heap_new w _
 have hs0:W0.heap.size=w.heap.size+1:=by subst hW0;simp
 have hr:∀ W,Below W0.heap.size W0 W->(W.cell? ⟨g,2,none⟩=some (.slice q2 n2 cap2)/\W.frozen? ⟨g,2,none⟩=false)/\W.cell? ⟨w.heap.size,0,none⟩=some (.int .i64 5)/\W.cell? ⟨w.heap.size,1,none⟩=some (.int .i64 ex)/\W.cell? ⟨w.heap.size,2,none⟩=some (.int .i64 nm)/\W.cell? ⟨w.heap.size,3,none⟩=some (.int .i64 ad)/\W.cell? ⟨w.heap.size,4,none⟩=some (.int .i64 nu)/\W.cell? ⟨w.heap.size,5,none⟩=some (.int .i64 pr):=λW h=>by
  have c1:=(h.block g (by omega)).trans ((hB0.block g hgw).trans hg);have c2:=(h.block w.heap.size (by omega)).trans b0;exact⟨⟨(cell_of_row _ _ _ _ t (0,0) c1).trans rfl,frozen_of_row _ _ _ _ t c1⟩,(cell_of_row _ _ _ _ 37 (0,0) c2).trans rfl,(cell_of_row _ _ _ _ 37 (0,0) c2).trans rfl,(cell_of_row _ _ _ _ 37 (0,0) c2).trans rfl,(cell_of_row _ _ _ _ 37 (0,0) c2).trans rfl,(cell_of_row _ _ _ _ 37 (0,0) c2).trans rfl,(cell_of_row _ _ _ _ 37 (0,0) c2).trans rfl⟩
 have hS:=Below.refl W0.heap.size W0;obtain⟨⟨k1,f1⟩,k2,k3,k4,k5,k6,k7⟩:=hr _ hS;have h75':=h75 W0 hB0;have mixed:prog.follows .mixedOrders=true:=by kernel_rfl
 go_enter func41,ntmps41
 go_upto_region 2 with(go_at_call 75;(first | rw[hW0] | skip);refine h75'.mono ?_;clear h75';rintro e w1 ⟨rfl,hB1⟩)
 have hS1:Below W0.heap.size W0 w1:=hB1;clear k1 f1 k2 k3 k4 k5 k6 k7;obtain⟨⟨k1,f1⟩,k2,k3,k4,k5,k6,k7⟩:=hr _ hS1;have hBw:Below w.heap.size w w1:=hB0.trans (hS1.mono hB0.size);by_cases hneg:at' < 0
 ·have hneg2:¬ 0<=at':=by omega
  by_cases h4:4<=n2
  ·have h4i:(4:Int)<=(n2:Int):=by omega
   go_wp2
   exact hG2 hneg h4 _ hBw
  ·have h4i:¬ (4:Int)<=(n2:Int):=by omega
   have h4n:n2 < 4:=by omega
   go_upto_region 8 with fail
   generalize hW2:w1.alloc (.cells #[.int .i64 ad,.int .i64 nu,.int .i64 pr,.slice none 0 0] 76)=W2
   have hB2:Below w1.heap.size w1 W2:=by subst hW2;exact(Below.refl w1.heap.size w1).alloc (aK _) _
   have v2:W2.heap[w1.heap.size]?=some (.cells #[.int .i64 ad,.int .i64 nu,.int .i64 pr,.slice none 0 0] 76 (0,0)):=by subst hW2;exact World.alloc_heap_new w1 _
   have hs2:W2.heap.size=w1.heap.size+1:=by subst hW2;simp
   have hwW:w.heap.size<=w1.heap.size:=hBw.size;clear k1 f1 k2 k3 k4 k5 k6 k7
   go_cut [7] (λs7 wx=>s7=.int .i64 0/\wx=W2)
   case first=>go_wp2_with fail;go_meet;exact⟨rfl,rfl⟩
   case rest=>
    obtain⟨rfl,hwc⟩:=hcut;rw[hwc];clear hwc wc;refine ‹∀ (a:Act) (w:World),Code.wp prog _ _ a w->_› _ _ ?_;refine wp_seq_k λK hK=>?_
    go_cut [7] from 31 to 50 (λs7 wx=>s7=.int .i64 p/\Below W2.heap.size W2 wx)
    case first=>
     clear hK hG0 hG2 hG7 h75;have hW2w:Below w.heap.size w W2:=hBw.trans (hB2.mono hwW);have hW2s:w.heap.size<=W2.heap.size:=hW2w.size
     go_wp2
     go_loopw [7] (λi wr=>∃ j:Nat,j<=p/\i=.int .i64 j/\Below W2.heap.size W2 wr) (λi _=>p+1-(intOf i).toNat)
     case atStart=>exact⟨0,bX _,rfl,Below.refl _ _⟩
     case round=>
      obtain⟨j,hj,rfl,hSr⟩:=hrel;have e1:=(hSr.block g (by omega)).trans ((hW2w.block g hgw).trans hg);have e2:=(hSr.block w1.heap.size (by omega)).trans v2;have k1:wr.cell? ⟨g,2,none⟩=some (.slice q2 n2 cap2):=(cell_of_row _ _ _ _ t (0,0) e1).trans rfl;have m0:wr.cell? ⟨w1.heap.size,0,none⟩=some (.int .i64 ad):=(cell_of_row _ _ _ _ 76 (0,0) e2).trans rfl;have m1:wr.cell? ⟨w1.heap.size,1,none⟩=some (.int .i64 nu):=(cell_of_row _ _ _ _ 76 (0,0) e2).trans rfl;have m2:wr.cell? ⟨w1.heap.size,2,none⟩=some (.int .i64 pr):=(cell_of_row _ _ _ _ 76 (0,0) e2).trans rfl;have m3:wr.cell? ⟨w1.heap.size,3,none⟩=some (.slice none 0 0):=(cell_of_row _ _ _ _ 76 (0,0) e2).trans rfl;by_cases hlt:j < n2
      ·have hlti:(j:Int) < (n2:Int):=by omega
       obtain⟨gv,x,y,zz,sv,rfl,hgvw,l0,l1,l2,l3,bb,hbb,h73'⟩:=h73 j hlt;have up:∀ o,w.cell? ⟨gv,o,none⟩=wr.cell? ⟨gv,o,none⟩:=λo=>((hSr.cell (p:=⟨gv,o,none⟩) (by show gv < _;omega)).trans (hW2w.cell (p:=⟨gv,o,none⟩) hgvw)).symm
       rw[up]at l0 l1 l2 l3;have ea:(⟨gv,0,none⟩:Addr).add (j * 4)=⟨gv,j * 4,none⟩:=by rw[Addr.add_lit,cX]
       have hBr:Below w.heap.size w wr:=hW2w.trans (hSr.mono hW2s);have h73a:=h73' hj wr hBr;have h73b:=h73' hj wr.drew hBr.drew
       go_wp2
       go_region_with (go_at_call 73;(first | (refine h73a.mono ?_;rintro e w3 ⟨rfl,hB3⟩;have hS3:Below W2.heap.size W2 w3:=hSr.trans (hB3.mono hSr.size)) | (refine h73b.mono ?_;rintro e w3 ⟨rfl,hB3⟩;have hS3:Below W2.heap.size W2 w3:=hSr.drew.trans (hB3.mono hSr.drew.size))))
       all_goals (
        have hw64:wrap .i64 ((j:Int)+1)=((j+1:Nat):Int):=by rw[IntKind.wrap_i64];omega
        by_cases hjp:j < p
        ·obtain rfl:bb=true:=hbb.2 hjp
         go_wp2
         refine⟨⟨j+1,by omega,by simp,hS3⟩,?_⟩;simp only[intOf];omega
        ·obtain rfl:bb=false:=by
          cases bb
          ·rfl
          ·exact absurd (hbb.1 rfl) hjp
         obtain rfl:j=p:=by omega
         go_wp2_with fail
         go_meet
         exact⟨rfl,hS3⟩)
      ·obtain rfl:j=n2:=by omega
       have hlti:¬ (j:Int) < (j:Int):=by omega
       go_wp2
       first | go_region | go_region_with fail
       all_goals (
        obtain rfl:j=p:=by omega
        go_wp2_with fail
        go_meet
        exact⟨rfl,hSr.drew⟩)
    case rest=>
     obtain⟨rfl,hSl⟩:=hcut;refine hK _ _ ?_;refine wp_seq_k λK2 hK2=>?_
     go_cut [] from 51 to 71 (λwx=>∃ W b cp,wx=W.setCell ⟨g,2,none⟩ (.slice (some ⟨b,0,none⟩) (n2+1) cp)/\Below w.heap.size w W/\w.heap.size<=b/\W.ownsRow 0 76 4 (.slice (some ⟨b,0,none⟩) (n2+1) cp) (n2+1) (us.take (p * 4)++[.int .i64 ad,.int .i64 nu,.int .i64 pr,.slice none 0 0]++us.drop (p * 4)))
     case first=>
      obtain⟨y1,y2,hs1,hs2,hsl⟩:=kW hrow hp
      generalize hV0:wc.drew=V0
      have hBB0:Below W2.heap.size W2 V0:=hV0▸hSl.drew;have hW2w:Below w.heap.size w W2:=hBw.trans (hB2.mono hwW);have hW2s:w.heap.size<=W2.heap.size:=hW2w.size;have hSo:∀ V,Below W2.heap.size W2 V->V.cell? ⟨g,2,none⟩=some (.slice q2 n2 cap2)/\V.cell? ⟨w1.heap.size,0,none⟩=some (.int .i64 ad)/\V.cell? ⟨w1.heap.size,1,none⟩=some (.int .i64 nu)/\V.cell? ⟨w1.heap.size,2,none⟩=some (.int .i64 pr)/\V.cell? ⟨w1.heap.size,3,none⟩=some (.slice none 0 0):=λV h=>by
       have c1:=(h.block g (by omega)).trans ((hW2w.block g hgw).trans hg);have c2:=(h.block w1.heap.size (by omega)).trans v2;exact⟨(cell_of_row _ _ _ _ t (0,0) c1).trans rfl,(cell_of_row _ _ _ _ 76 (0,0) c2).trans rfl,(cell_of_row _ _ _ _ 76 (0,0) c2).trans rfl,(cell_of_row _ _ _ _ 76 (0,0) c2).trans rfl,(cell_of_row _ _ _ _ 76 (0,0) c2).trans rfl⟩
      clear hK hK2 h75 hr h73 hG0 hG2 hG7;obtain⟨i0,z,hi0,hz,hz1,hz2,hz3⟩:=rZ;have hul:us.length=n2 * 4:=hrow.1;have hlA:(us.take (p * 4)).length=p * 4:=by rw[bA,hul];omega
      have hlB:(us.drop (p * 4)).length=(n2-p) * 4:=by rw[bL,hul];omega
      have hsl2:∀ V,Below W2.heap.size W2 V->Srcs V y1 p (us.take (p * 4))/\Srcs V y2 (n2-p) (us.drop (p * 4)):=λV h=>hsl V λb hb=>((h.mono hW2s).block b (gA hrow hb)).trans (hW2w.block b (gA hrow hb))
      have hsV0:W2.heap.size<=V0.heap.size:=hBB0.size;have hBE:Below W2.heap.size W2 (V0.alloc (.cells #[] 76)):=hBB0.alloc hsV0 _;have hBV:Below W2.heap.size W2 (V0.alloc (.cells #[.int .i64 ad,.int .i64 nu,.int .i64 pr,.slice none 0 0] 76)):=hBB0.alloc hsV0 _;have hBEV:Below W2.heap.size W2 ((V0.alloc (.cells #[] 76)).alloc (.cells #[.int .i64 ad,.int .i64 nu,.int .i64 pr,.slice none 0 0] 76)):=hBE.alloc hBE.size _;have hBVE:Below W2.heap.size W2 ((V0.alloc (.cells #[.int .i64 ad,.int .i64 nu,.int .i64 pr,.slice none 0 0] 76)).alloc (.cells #[] 76)):=hBV.alloc hBV.size _;have hsE:(V0.alloc (.cells #[] 76)).heap.size=V0.heap.size+1:=by simp
      have hsV:(V0.alloc (.cells #[.int .i64 ad,.int .i64 nu,.int .i64 pr,.slice none 0 0] 76)).heap.size=V0.heap.size+1:=by simp
      have ownE:(V0.alloc (.cells #[] 76)).ownsRow 0 76 4 (.slice (some ⟨V0.heap.size,0,none⟩) 0 0) 0 []:=aGD V0;have ownEV:((V0.alloc (.cells #[] 76)).alloc (.cells #[.int .i64 ad,.int .i64 nu,.int .i64 pr,.slice none 0 0] 76)).ownsRow 0 76 4 (.slice (some ⟨V0.heap.size,0,none⟩) 0 0) 0 []:=fM ownE λb hb=>((Below.refl _ _).alloc (aK _) _).block b (gA ownE hb)
      have ownVE:((V0.alloc (.cells #[.int .i64 ad,.int .i64 nu,.int .i64 pr,.slice none 0 0] 76)).alloc (.cells #[] 76)).ownsRow 0 76 4 (.slice (some ⟨V0.heap.size+1,0,none⟩) 0 0) 0 []:=hsV▸aGD (V0.alloc (.cells #[.int .i64 ad,.int .i64 nu,.int .i64 pr,.slice none 0 0] 76));have vEV:((V0.alloc (.cells #[] 76)).alloc (.cells #[.int .i64 ad,.int .i64 nu,.int .i64 pr,.slice none 0 0] 76)).heap[V0.heap.size+1]?=some (.cells #[.int .i64 ad,.int .i64 nu,.int .i64 pr,.slice none 0 0] 76 (0,0)):=hsE▸World.alloc_heap_new (V0.alloc (.cells #[] 76)) (.cells #[.int .i64 ad,.int .i64 nu,.int .i64 pr,.slice none 0 0] 76);have vVE:((V0.alloc (.cells #[.int .i64 ad,.int .i64 nu,.int .i64 pr,.slice none 0 0] 76)).alloc (.cells #[] 76)).heap[V0.heap.size]?=some (.cells #[.int .i64 ad,.int .i64 nu,.int .i64 pr,.slice none 0 0] 76 (0,0)):=(((Below.refl _ _).alloc (aK _) _).block _ (by rw[hsV];omega)).trans (World.alloc_heap_new V0 (.cells #[.int .i64 ad,.int .i64 nu,.int .i64 pr,.slice none 0 0] 76));have hsrcV:∀ (V:World) (vb:Nat),V.heap[vb]?=some (.cells #[.int .i64 ad,.int .i64 nu,.int .i64 pr,.slice none 0 0] 76 (0,0))->Srcs V (.slice (some ⟨vb,0,none⟩) 1 1) 1 [.int .i64 ad,.int .i64 nu,.int .i64 pr,.slice none 0 0]:=λV vb h=>aGu h (λj u hj=>by rw[cX,<-Array.getElem?_toList];exact hj) 1
      refine lV (S:=λw'=>w'.cell? ⟨g,2,none⟩=some (.slice q2 n2 cap2)/\w'.cell? ⟨w1.heap.size,0,none⟩=some (.int .i64 ad)/\w'.cell? ⟨w1.heap.size,1,none⟩=some (.int .i64 nu)/\w'.cell? ⟨w1.heap.size,2,none⟩=some (.int .i64 pr)/\w'.cell? ⟨w1.heap.size,3,none⟩=some (.slice none 0 0)) (d:=21) (by kernel_rfl) ?_;rw[hV0]
      change iW _ _ _ _ _ _ 22 _ _ _
      refine bD (i:=0) (v:=(.pointer (some ⟨g,0,none⟩))) rfl (by kernel_rfl) (by kernel_rfl) (by kernel_rfl) (by kernel_rfl) (λ_ _ _ h=>h) (by rfl) (λw hw=>by obtain⟨h1,h2,h3,h4,h5⟩:=hw;go_simp) (hSo _ hBB0) ?_
      try simp only[Act.put,List.setIfInBounds_toArray,aF,aG]
      refine bD (i:=2) (v:=(.pointer (some ⟨g,0,none⟩))) rfl (by kernel_rfl) (by kernel_rfl) (by kernel_rfl) (by kernel_rfl) (λ_ _ _ h=>h) (by rfl) (λw hw=>by obtain⟨h1,h2,h3,h4,h5⟩:=hw;go_simp) (hSo _ hBB0) ?_
      try simp only[Act.put,List.setIfInBounds_toArray,aF,aG]
      refine bD (i:=3) (v:=(.pointer (some ⟨g,0,none⟩))) rfl (by kernel_rfl) (by kernel_rfl) (by kernel_rfl) (by kernel_rfl) (λ_ _ _ h=>h) (by rfl) (λw hw=>by obtain⟨h1,h2,h3,h4,h5⟩:=hw;go_simp) (hSo _ hBB0) ?_
      try simp only[Act.put,List.setIfInBounds_toArray,aF,aG]
      refine bD (i:=4) (v:=(.pointer (some ⟨g,2,none⟩))) rfl (by kernel_rfl) (by kernel_rfl) (by kernel_rfl) (by kernel_rfl) (λ_ _ _ h=>h) (by rfl) (λw hw=>by obtain⟨h1,h2,h3,h4,h5⟩:=hw;go_simp) (hSo _ hBB0) ?_
      try simp only[Act.put,List.setIfInBounds_toArray,aF,aG]
      refine bD (i:=5) (v:=(.slice q2 n2 cap2)) rfl (by kernel_rfl) (by kernel_rfl) (by kernel_rfl) (by kernel_rfl) (λ_ _ _ h=>h) (by rfl) (λw hw=>by obtain⟨h1,h2,h3,h4,h5⟩:=hw;go_simp) (hSo _ hBB0) ?_
      try simp only[Act.put,List.setIfInBounds_toArray,aF,aG]
      refine bD (i:=6) (v:=(.int .i64 p)) rfl (by kernel_rfl) (by kernel_rfl) (by kernel_rfl) (by kernel_rfl) (λ_ _ _ h=>h) (by rfl) (λw hw=>by obtain⟨h1,h2,h3,h4,h5⟩:=hw;go_simp) (hSo _ hBB0) ?_
      try simp only[Act.put,List.setIfInBounds_toArray,aF,aG]
      refine bD (i:=7) (v:=y1) rfl (by kernel_rfl) (by kernel_rfl) (by kernel_rfl) (by kernel_rfl) (λ_ _ _ h=>h) (by rfl) (λw _=>by have:=hs1 w;simp[execOp,Act.eval,this]) (hSo _ hBB0) ?_
      try simp only[Act.put,List.setIfInBounds_toArray,aF,aG]
      refine bD (i:=9) (v:=(.agg #[.int .i64 ad,.int .i64 nu,.int .i64 pr,.slice none 0 0])) rfl (by kernel_rfl) (by kernel_rfl) (by kernel_rfl) (by kernel_rfl) (λ_ _ _ h=>h) (by rfl) (λw hw=>by obtain⟨h1,h2,h3,h4,h5⟩:=hw;go_simp) (hSo _ hBB0) ?_
      try simp only[Act.put,List.setIfInBounds_toArray,aF,aG]
      refine bD (i:=12) (v:=(.pointer (some ⟨g,0,none⟩))) rfl (by kernel_rfl) (by kernel_rfl) (by kernel_rfl) (by kernel_rfl) (λ_ _ _ h=>h) (by rfl) (λw hw=>by obtain⟨h1,h2,h3,h4,h5⟩:=hw;go_simp) (hSo _ hBB0) ?_
      try simp only[Act.put,List.setIfInBounds_toArray,aF,aG]
      refine bD (i:=13) (v:=(.pointer (some ⟨g,0,none⟩))) rfl (by kernel_rfl) (by kernel_rfl) (by kernel_rfl) (by kernel_rfl) (λ_ _ _ h=>h) (by rfl) (λw hw=>by obtain⟨h1,h2,h3,h4,h5⟩:=hw;go_simp) (hSo _ hBB0) ?_
      try simp only[Act.put,List.setIfInBounds_toArray,aF,aG]
      refine bD (i:=14) (v:=(.pointer (some ⟨g,2,none⟩))) rfl (by kernel_rfl) (by kernel_rfl) (by kernel_rfl) (by kernel_rfl) (λ_ _ _ h=>h) (by rfl) (λw hw=>by obtain⟨h1,h2,h3,h4,h5⟩:=hw;go_simp) (hSo _ hBB0) ?_
      try simp only[Act.put,List.setIfInBounds_toArray,aF,aG]
      refine bD (i:=15) (v:=(.slice q2 n2 cap2)) rfl (by kernel_rfl) (by kernel_rfl) (by kernel_rfl) (by kernel_rfl) (λ_ _ _ h=>h) (by rfl) (λw hw=>by obtain⟨h1,h2,h3,h4,h5⟩:=hw;go_simp) (hSo _ hBB0) ?_
      try simp only[Act.put,List.setIfInBounds_toArray,aF,aG]
      refine bD (i:=16) (v:=(.int .i64 p)) rfl (by kernel_rfl) (by kernel_rfl) (by kernel_rfl) (by kernel_rfl) (λ_ _ _ h=>h) (by rfl) (λw hw=>by obtain⟨h1,h2,h3,h4,h5⟩:=hw;go_simp) (hSo _ hBB0) ?_
      try simp only[Act.put,List.setIfInBounds_toArray,aF,aG]
      refine bD (i:=17) (v:=y2) rfl (by kernel_rfl) (by kernel_rfl) (by kernel_rfl) (by kernel_rfl) (λ_ _ _ h=>h) (by rfl) (λw _=>by have:=hs2 w;simp[execOp,Act.eval,this]) (hSo _ hBB0) ?_
      try simp only[Act.put,List.setIfInBounds_toArray,aF,aG]
      refine zE (i:=1) (j:=10) (o:=oa1) (o':=aGK) (by kernel_rfl) rfl rfl ?_ ?_
      ·intro K hK;unfold oa1
       go_simp
       refine hK _ _ ⟨λ_=>hSo _ hBE,?_⟩;clear hK K
       try simp only[Act.put,List.setIfInBounds_toArray,aF,aG]
       refine zE (i:=8) (j:=10) (o:=oa8) (o':=aGK) (by kernel_rfl) rfl rfl ?_ ?_
       ·intro K hK;unfold oa8;refine gK rfl _ _ 30 rfl 0 76 i0 z 4 48 underlying30 hi0 hz hz2 hz3 hz1 (by decide) (.slice (some ⟨V0.heap.size,0,none⟩) 0 0) 0 [] rfl ownE ⟨_,_,rfl⟩ y1 p (us.take (p * 4)) rfl (hsl2 _ hBE).1 hlA (λu hu=>h1us u (eB hu)) (by unfold maxLen;omega) (by omega) (bX _) ?_;intro b1 cp1 w2 ho1 hg1 hl1;simp only[cX,eO]at ho1 ⊢;have hB_w2:Below W2.heap.size W2 w2:=eY hBE hg1 (λb e=>by have e:some (V0.heap.size)=some b:=e;cases e;omega) hBE.size;have hb1:W2.heap.size<=b1:=by
         have h1:=hBE.size;have h2:=hBB0.size;rcases hl1 with e | e
         ·have e:b1=V0.heap.size:=by simpa[Value.ownBlock]using e
          omega
         ·omega
        refine hK _ _ ⟨λ_=>hSo _ hB_w2,?_⟩;clear hK K
        try simp only[Act.put,List.setIfInBounds_toArray,aF,aG]
        refine cD (i:=10) (o:=aGK) (by kernel_rfl) rfl ?_;intro K hK;unfold aGK;have hBw2V:Below W2.heap.size W2 (w2.alloc (.cells #[.int .i64 ad,.int .i64 nu,.int .i64 pr,.slice none 0 0] 76)):=hB_w2.alloc hB_w2.size _
        go_simp
        refine hK _ _ ⟨λ_=>hSo _ hBw2V,?_⟩;clear hK K
        try simp only[Act.put,List.setIfInBounds_toArray,aF,aG]
        refine cD (i:=11) (o:=aGJ) (by kernel_rfl) rfl ?_;intro K hK;unfold aGJ;have ho1a:=fM (W':=w2.alloc (.cells #[.int .i64 ad,.int .i64 nu,.int .i64 pr,.slice none 0 0] 76)) ho1 λb hb=>((Below.refl _ _).alloc (aK _) _).block b (gA ho1 hb)
        refine gK rfl _ _ 30 rfl 0 76 i0 z 4 48 underlying30 hi0 hz hz2 hz3 hz1 (by decide) (.slice (some ⟨b1,0,none⟩) p cp1) p (us.take (p * 4)) rfl ho1a ⟨_,_,rfl⟩ _ 1 [.int .i64 ad,.int .i64 nu,.int .i64 pr,.slice none 0 0] rfl (hsrcV _ w2.heap.size (World.alloc_heap_new w2 _)) rfl (by intro u hu;simp only[bS,kE,or_false]at hu;rcases hu with rfl | rfl | rfl | rfl<;>rfl) (by unfold maxLen;omega) (by omega) (bX _) ?_;intro b2 cp2 w3 ho2 hg2 hl2;have hB_w3:Below W2.heap.size W2 w3:=eY hBw2V hg2 (λb e=>by cases e;exact hb1) hBw2V.size;have hb2:W2.heap.size<=b2:=by
         have h1:=hBw2V.size;rcases hl2 with e | e
         ·have e:b2=b1:=by simpa[Value.ownBlock]using e
          omega
         ·omega
        refine hK _ _ ⟨λ_=>hSo _ hB_w3,?_⟩;clear hK K
        try simp only[Act.put,List.setIfInBounds_toArray,aF,aG]
        refine cD (i:=18) (o:=aGI) (by kernel_rfl) rfl ?_;intro K hK;unfold aGI;refine gK rfl _ _ 30 rfl 0 76 i0 z 4 48 underlying30 hi0 hz hz2 hz3 hz1 (by decide) (.slice (some ⟨b2,0,none⟩) (p+1) cp2) (p+1) (us.take (p * 4)++[.int .i64 ad,.int .i64 nu,.int .i64 pr,.slice none 0 0]) rfl ho2 ⟨_,_,rfl⟩ y2 (n2-p) (us.drop (p * 4)) rfl (hsl2 _ hB_w3).2 hlB (λu hu=>h1us u (cC hu)) (by unfold maxLen;omega) (by omega) (bX _) ?_;intro b3 cp3 w4 ho3 hg3 hl3;have hB_w4:Below W2.heap.size W2 w4:=eY hB_w3 hg3 (λb e=>by cases e;exact hb2) hB_w3.size;have hb3:W2.heap.size<=b3:=by
         have h1:=hB_w3.size;rcases hl3 with e | e
         ·have e:b3=b2:=by simpa[Value.ownBlock]using e
          omega
         ·omega
        refine hK _ _ ⟨λ_=>hSo _ hB_w4,?_⟩;clear hK K
        try simp only[Act.put,List.setIfInBounds_toArray,aF,aG]
        refine cD (i:=19) (o:=aGH) (by kernel_rfl) rfl ?_;intro K hK;unfold aGH
        go_simp
        refine hK _ _ ⟨λ_=>hSo _ hB_w4,?_⟩;clear hK K
        try simp only[Act.put,List.setIfInBounds_toArray,aF,aG]
        refine cD (i:=20) (o:=aGG) (by kernel_rfl) rfl ?_;intro K hK;unfold aGG
        go_simp
        refine hK _ _ ⟨λ_=>hSo _ hB_w4,?_⟩;clear hK K
        try simp only[Act.put,List.setIfInBounds_toArray,aF,aG]
        refine cD (i:=21) (o:=aGF) (by kernel_rfl) rfl ?_;intro K hK;unfold aGF;obtain⟨c1,c2,c3,c4,c5⟩:=hSo _ hB_w4;have f1:w4.frozen? ⟨g,2,none⟩=false:=frozen_of_row _ _ _ _ t ((hB_w4.block g (by omega)).trans ((hW2w.block g hgw).trans hg))
        go_simp
        refine hK _ _ ⟨λh=>absurd rfl h,?_⟩;clear hK K
        try simp only[Act.put,List.setIfInBounds_toArray,aF,aG]
        refine jP (by kernel_rfl) ?_ _
        go_wp2_with fail
        go_meet
        exact⟨w4,b3,cp3,by rw[show p+1+(n2-p)=n2+1 by omega],hW2w.trans (hB_w4.mono hW2s),by omega,by rw[show n2+1=p+1+(n2-p)by omega];exact ho3⟩
       ·intro K hK;unfold aGK
        go_simp
        refine hK _ _ ⟨λ_=>hSo _ hBEV,?_⟩;clear hK K
        try simp only[Act.put,List.setIfInBounds_toArray,aF,aG]
        refine cD (i:=8) (o:=oa8) (by kernel_rfl) rfl ?_;intro K hK;unfold oa8;refine gK rfl _ _ 30 rfl 0 76 i0 z 4 48 underlying30 hi0 hz hz2 hz3 hz1 (by decide) (.slice (some ⟨V0.heap.size,0,none⟩) 0 0) 0 [] rfl ownEV ⟨_,_,rfl⟩ y1 p (us.take (p * 4)) rfl (hsl2 _ hBEV).1 hlA (λu hu=>h1us u (eB hu)) (by unfold maxLen;omega) (by omega) (bX _) ?_;intro b1 cp1 w2 ho1 hg1 hl1;simp only[cX,eO]at ho1 ⊢;have hB_w2:Below W2.heap.size W2 w2:=eY hBEV hg1 (λb e=>by have e:some (V0.heap.size)=some b:=e;cases e;omega) hBEV.size;have hb1:W2.heap.size<=b1:=by
         have h1:=hBEV.size;have h2:=hBB0.size;rcases hl1 with e | e
         ·have e:b1=V0.heap.size:=by simpa[Value.ownBlock]using e
          omega
         ·omega
        refine hK _ _ ⟨λ_=>hSo _ hB_w2,?_⟩;clear hK K
        try simp only[Act.put,List.setIfInBounds_toArray,aF,aG]
        refine cD (i:=11) (o:=aGJ) (by kernel_rfl) rfl ?_;intro K hK;unfold aGJ;have vb2:w2.heap[V0.heap.size+1]?=some (.cells #[.int .i64 ad,.int .i64 nu,.int .i64 pr,.slice none 0 0] 76 (0,0)):=(hg1.block _ (by simp) (by simp[Value.ownBlock])).trans vEV;refine gK rfl _ _ 30 rfl 0 76 i0 z 4 48 underlying30 hi0 hz hz2 hz3 hz1 (by decide) (.slice (some ⟨b1,0,none⟩) p cp1) p (us.take (p * 4)) rfl ho1 ⟨_,_,rfl⟩ _ 1 [.int .i64 ad,.int .i64 nu,.int .i64 pr,.slice none 0 0] rfl (hsrcV _ _ vb2) rfl (by intro u hu;simp only[bS,kE,or_false]at hu;rcases hu with rfl | rfl | rfl | rfl<;>rfl) (by unfold maxLen;omega) (by omega) (bX _) ?_;intro b2 cp2 w3 ho2 hg2 hl2;have hB_w3:Below W2.heap.size W2 w3:=eY hB_w2 hg2 (λb e=>by cases e;exact hb1) hB_w2.size;have hb2:W2.heap.size<=b2:=by
         have h1:=hB_w2.size;rcases hl2 with e | e
         ·have e:b2=b1:=by simpa[Value.ownBlock]using e
          omega
         ·omega
        refine hK _ _ ⟨λ_=>hSo _ hB_w3,?_⟩;clear hK K
        try simp only[Act.put,List.setIfInBounds_toArray,aF,aG]
        refine cD (i:=18) (o:=aGI) (by kernel_rfl) rfl ?_;intro K hK;unfold aGI;refine gK rfl _ _ 30 rfl 0 76 i0 z 4 48 underlying30 hi0 hz hz2 hz3 hz1 (by decide) (.slice (some ⟨b2,0,none⟩) (p+1) cp2) (p+1) (us.take (p * 4)++[.int .i64 ad,.int .i64 nu,.int .i64 pr,.slice none 0 0]) rfl ho2 ⟨_,_,rfl⟩ y2 (n2-p) (us.drop (p * 4)) rfl (hsl2 _ hB_w3).2 hlB (λu hu=>h1us u (cC hu)) (by unfold maxLen;omega) (by omega) (bX _) ?_;intro b3 cp3 w4 ho3 hg3 hl3;have hB_w4:Below W2.heap.size W2 w4:=eY hB_w3 hg3 (λb e=>by cases e;exact hb2) hB_w3.size;have hb3:W2.heap.size<=b3:=by
         have h1:=hB_w3.size;rcases hl3 with e | e
         ·have e:b3=b2:=by simpa[Value.ownBlock]using e
          omega
         ·omega
        refine hK _ _ ⟨λ_=>hSo _ hB_w4,?_⟩;clear hK K
        try simp only[Act.put,List.setIfInBounds_toArray,aF,aG]
        refine cD (i:=19) (o:=aGH) (by kernel_rfl) rfl ?_;intro K hK;unfold aGH
        go_simp
        refine hK _ _ ⟨λ_=>hSo _ hB_w4,?_⟩;clear hK K
        try simp only[Act.put,List.setIfInBounds_toArray,aF,aG]
        refine cD (i:=20) (o:=aGG) (by kernel_rfl) rfl ?_;intro K hK;unfold aGG
        go_simp
        refine hK _ _ ⟨λ_=>hSo _ hB_w4,?_⟩;clear hK K
        try simp only[Act.put,List.setIfInBounds_toArray,aF,aG]
        refine cD (i:=21) (o:=aGF) (by kernel_rfl) rfl ?_;intro K hK;unfold aGF;obtain⟨c1,c2,c3,c4,c5⟩:=hSo _ hB_w4;have f1:w4.frozen? ⟨g,2,none⟩=false:=frozen_of_row _ _ _ _ t ((hB_w4.block g (by omega)).trans ((hW2w.block g hgw).trans hg))
        go_simp
        refine hK _ _ ⟨λh=>absurd rfl h,?_⟩;clear hK K
        try simp only[Act.put,List.setIfInBounds_toArray,aF,aG]
        refine jP (by kernel_rfl) ?_ _
        go_wp2_with fail
        go_meet
        exact⟨w4,b3,cp3,by rw[show p+1+(n2-p)=n2+1 by omega],hW2w.trans (hB_w4.mono hW2s),by omega,by rw[show n2+1=p+1+(n2-p)by omega];exact ho3⟩
      ·intro K hK;unfold aGK
       go_simp
       refine hK _ _ ⟨λ_=>hSo _ hBV,?_⟩;clear hK K
       try simp only[Act.put,List.setIfInBounds_toArray,aF,aG]
       refine cD (i:=1) (o:=oa1) (by kernel_rfl) rfl ?_;intro K hK;unfold oa1
       go_simp
       refine hK _ _ ⟨λ_=>hSo _ hBVE,?_⟩;clear hK K
       try simp only[Act.put,List.setIfInBounds_toArray,aF,aG]
       refine cD (i:=8) (o:=oa8) (by kernel_rfl) rfl ?_;intro K hK;unfold oa8;refine gK rfl _ _ 30 rfl 0 76 i0 z 4 48 underlying30 hi0 hz hz2 hz3 hz1 (by decide) (.slice (some ⟨(V0.heap.size+1),0,none⟩) 0 0) 0 [] rfl ownVE ⟨_,_,rfl⟩ y1 p (us.take (p * 4)) rfl (hsl2 _ hBVE).1 hlA (λu hu=>h1us u (eB hu)) (by unfold maxLen;omega) (by omega) (bX _) ?_;intro b1 cp1 w2 ho1 hg1 hl1;simp only[cX,eO]at ho1 ⊢;have hB_w2:Below W2.heap.size W2 w2:=eY hBVE hg1 (λb e=>by have e:some ((V0.heap.size+1))=some b:=e;cases e;omega) hBVE.size;have hb1:W2.heap.size<=b1:=by
        have h1:=hBVE.size;have h2:=hBB0.size;rcases hl1 with e | e
        ·have e:b1=(V0.heap.size+1):=by simpa[Value.ownBlock]using e
         omega
        ·omega
       refine hK _ _ ⟨λ_=>hSo _ hB_w2,?_⟩;clear hK K
       try simp only[Act.put,List.setIfInBounds_toArray,aF,aG]
       refine cD (i:=11) (o:=aGJ) (by kernel_rfl) rfl ?_;intro K hK;unfold aGJ;have vb2:w2.heap[V0.heap.size]?=some (.cells #[.int .i64 ad,.int .i64 nu,.int .i64 pr,.slice none 0 0] 76 (0,0)):=(hg1.block _ (by simp;omega) (by simp[Value.ownBlock])).trans vVE;refine gK rfl _ _ 30 rfl 0 76 i0 z 4 48 underlying30 hi0 hz hz2 hz3 hz1 (by decide) (.slice (some ⟨b1,0,none⟩) p cp1) p (us.take (p * 4)) rfl ho1 ⟨_,_,rfl⟩ _ 1 [.int .i64 ad,.int .i64 nu,.int .i64 pr,.slice none 0 0] rfl (hsrcV _ _ vb2) rfl (by intro u hu;simp only[bS,kE,or_false]at hu;rcases hu with rfl | rfl | rfl | rfl<;>rfl) (by unfold maxLen;omega) (by omega) (bX _) ?_;intro b2 cp2 w3 ho2 hg2 hl2;have hB_w3:Below W2.heap.size W2 w3:=eY hB_w2 hg2 (λb e=>by cases e;exact hb1) hB_w2.size;have hb2:W2.heap.size<=b2:=by
        have h1:=hB_w2.size;rcases hl2 with e | e
        ·have e:b2=b1:=by simpa[Value.ownBlock]using e
         omega
        ·omega
       refine hK _ _ ⟨λ_=>hSo _ hB_w3,?_⟩;clear hK K
       try simp only[Act.put,List.setIfInBounds_toArray,aF,aG]
       refine cD (i:=18) (o:=aGI) (by kernel_rfl) rfl ?_;intro K hK;unfold aGI;refine gK rfl _ _ 30 rfl 0 76 i0 z 4 48 underlying30 hi0 hz hz2 hz3 hz1 (by decide) (.slice (some ⟨b2,0,none⟩) (p+1) cp2) (p+1) (us.take (p * 4)++[.int .i64 ad,.int .i64 nu,.int .i64 pr,.slice none 0 0]) rfl ho2 ⟨_,_,rfl⟩ y2 (n2-p) (us.drop (p * 4)) rfl (hsl2 _ hB_w3).2 hlB (λu hu=>h1us u (cC hu)) (by unfold maxLen;omega) (by omega) (bX _) ?_;intro b3 cp3 w4 ho3 hg3 hl3;have hB_w4:Below W2.heap.size W2 w4:=eY hB_w3 hg3 (λb e=>by cases e;exact hb2) hB_w3.size;have hb3:W2.heap.size<=b3:=by
        have h1:=hB_w3.size;rcases hl3 with e | e
        ·have e:b3=b2:=by simpa[Value.ownBlock]using e
         omega
        ·omega
       refine hK _ _ ⟨λ_=>hSo _ hB_w4,?_⟩;clear hK K
       try simp only[Act.put,List.setIfInBounds_toArray,aF,aG]
       refine cD (i:=19) (o:=aGH) (by kernel_rfl) rfl ?_;intro K hK;unfold aGH
       go_simp
       refine hK _ _ ⟨λ_=>hSo _ hB_w4,?_⟩;clear hK K
       try simp only[Act.put,List.setIfInBounds_toArray,aF,aG]
       refine cD (i:=20) (o:=aGG) (by kernel_rfl) rfl ?_;intro K hK;unfold aGG
       go_simp
       refine hK _ _ ⟨λ_=>hSo _ hB_w4,?_⟩;clear hK K
       try simp only[Act.put,List.setIfInBounds_toArray,aF,aG]
       refine cD (i:=21) (o:=aGF) (by kernel_rfl) rfl ?_;intro K hK;unfold aGF;obtain⟨c1,c2,c3,c4,c5⟩:=hSo _ hB_w4;have f1:w4.frozen? ⟨g,2,none⟩=false:=frozen_of_row _ _ _ _ t ((hB_w4.block g (by omega)).trans ((hW2w.block g hgw).trans hg))
       go_simp
       refine hK _ _ ⟨λh=>absurd rfl h,?_⟩;clear hK K
       try simp only[Act.put,List.setIfInBounds_toArray,aF,aG]
       refine jP (by kernel_rfl) ?_ _
       go_wp2_with fail
       go_meet
       exact⟨w4,b3,cp3,by rw[show p+1+(n2-p)=n2+1 by omega],hW2w.trans (hB_w4.mono hW2s),by omega,by rw[show n2+1=p+1+(n2-p)by omega];exact ho3⟩
     case rest=>
      obtain⟨W,b,cp,rfl,q1,q2',q3⟩:=hcut;refine hK2 _ _ ?_
      go_wp2
      exact hG0 hneg h4n W b cp q1 q2' q3
 ·have hneg2:0<=at':=by omega
  go_wp2
  exact hG7 hneg2 _ hBw
end
end Go.Proofs.Tryz
