/- A part of the proof of FnExactApplyCmd: LpKj, LpOf. -/
import Derived.Test.YtfncedbejffggaaGreatLpPj
import Derived.Test.YtfncedbejffggaaGreatLpKi
set_option linter.unusedSimpArgs false
set_option linter.unusedVariables false
namespace Go.Proofs.Tryz
open Go.IntKind (wrap)
open Go Go.VM Go.RowKit
def qQ:Oper:={ dst:=some 110,op:=Op.buildSlice 30 0 #[],type:=30,pos:= "l05_config.go:208",after:=#[],guard:=none }
def qP:Oper:={ dst:=some 117,op:=Op.call { callee:=Callee.builtin Builtin.append,args:=#[Operand.tmp 110,Operand.tmp 116],argTypes:=#[30,30] },type:=30,pos:= "l05_config.go:208",after:=#[{ on:=1,ground:=Ground.data },{ on:=7,ground:=Ground.data }],guard:=none }
def nM:Oper:={ dst:=some 125,op:=Op.call { callee:=Callee.builtin Builtin.append,args:=#[Operand.tmp 117,Operand.tmp 124],argTypes:=#[30,30] },type:=30,pos:= "l05_config.go:208",after:=#[{ on:=8,ground:=Ground.data },{ on:=15,ground:=Ground.data },{ on:=8,ground:=Ground.chain }],guard:=none }
def nL:Oper:={ dst:=some 126,op:=Op.nilCheck (Operand.tmp 109),type:=0,pos:= "l05_config.go:208",after:=#[{ on:=0,ground:=Ground.data },{ on:=0,ground:=Ground.phase },{ on:=1,ground:=Ground.phase },{ on:=2,ground:=Ground.phase },{ on:=3,ground:=Ground.phase },{ on:=4,ground:=Ground.phase },{ on:=5,ground:=Ground.phase },{ on:=6,ground:=Ground.phase },{ on:=7,ground:=Ground.phase },{ on:=8,ground:=Ground.phase },{ on:=9,ground:=Ground.phase },{ on:=10,ground:=Ground.phase },{ on:=11,ground:=Ground.phase },{ on:=12,ground:=Ground.phase },{ on:=13,ground:=Ground.phase },{ on:=14,ground:=Ground.phase },{ on:=15,ground:=Ground.phase },{ on:=16,ground:=Ground.phase }],guard:=none }
def nK:Oper:={ dst:=some 127,op:=Op.fieldAddr 32 (Operand.tmp 126) 2,type:=0,pos:= "l05_config.go:208",after:=#[{ on:=17,ground:=Ground.data },{ on:=0,ground:=Ground.phase },{ on:=1,ground:=Ground.phase },{ on:=2,ground:=Ground.phase },{ on:=3,ground:=Ground.phase },{ on:=4,ground:=Ground.phase },{ on:=5,ground:=Ground.phase },{ on:=6,ground:=Ground.phase },{ on:=7,ground:=Ground.phase },{ on:=8,ground:=Ground.phase },{ on:=9,ground:=Ground.phase },{ on:=10,ground:=Ground.phase },{ on:=11,ground:=Ground.phase },{ on:=12,ground:=Ground.phase },{ on:=13,ground:=Ground.phase },{ on:=14,ground:=Ground.phase },{ on:=15,ground:=Ground.phase },{ on:=16,ground:=Ground.phase }],guard:=none }
def nJ:Oper:={ dst:=none,op:=Op.store 30 (Operand.tmp 127) (Operand.tmp 125),type:=0,pos:= "l05_config.go:208",after:=#[{ on:=18,ground:=Ground.data },{ on:=16,ground:=Ground.data },{ on:=16,ground:=Ground.chain },{ on:=0,ground:=Ground.phase },{ on:=1,ground:=Ground.phase },{ on:=2,ground:=Ground.phase },{ on:=3,ground:=Ground.phase },{ on:=4,ground:=Ground.phase },{ on:=5,ground:=Ground.phase },{ on:=6,ground:=Ground.phase },{ on:=7,ground:=Ground.phase },{ on:=8,ground:=Ground.phase },{ on:=9,ground:=Ground.phase },{ on:=10,ground:=Ground.phase },{ on:=11,ground:=Ground.phase },{ on:=12,ground:=Ground.phase },{ on:=13,ground:=Ground.phase },{ on:=14,ground:=Ground.phase },{ on:=15,ground:=Ground.phase },{ on:=16,ground:=Ground.phase }],guard:=none }
section
attribute [local go_sem] Oper.semAt_some
set_option maxRecDepth 100000 in
set_option maxHeartbeats 8000000 in
theorem aJS (g:Nat)(t:TypeId)(a ex nm ad nu pr at':Int)(q q2:Option Addr)(n cap n2 cap2:Nat)(us:List Value)(w:World)
  (hg:w.heap[g]?=some (.cells #[.int .i64 a,.slice q n cap,.slice q2 n2 cap2] t (0,0))) (hn2:n2<=4)
  (h75:∀ W,Below w.heap.size w W->Calls prog 75 #[.pointer (some ⟨g,0,none⟩),.agg #[.int .i64 6,.int .i64 ex,.int .i64 nm,.int .i64 ad,.int .i64 nu,.int .i64 pr]] W λe W'=>e=.returned (.int .i64 at')/\Below W.heap.size W W')
  (hat:at' < n2) (hat1:at' < 0->at'=-1) (hrow:w.ownsRow 0 76 4 (.slice q2 n2 cap2) n2 us) (h1us:∀ u∈us,u.oneCell'=true)
  (G:Ending->World->Prop)
  (hG4:at' < 0->∀ W,Below w.heap.size w W->G (.returned (.int .i64 4)) W)
  (hG0:0<=at'->∀ W b cp,Below w.heap.size w W->w.heap.size<=b->W.ownsRow 0 76 4 (.slice (some ⟨b,0,none⟩) (n2-1) cp) (n2-1) (us.take (at'.toNat * 4)++us.drop ((at'.toNat+1) * 4))->G (.returned (.int .i64 0)) (W.setCell ⟨g,2,none⟩ (.slice (some ⟨b,0,none⟩) (n2-1) cp))) :
  Calls prog 41 #[.pointer (some ⟨g,0,none⟩),.agg #[.int .i64 6,.int .i64 ex,.int .i64 nm,.int .i64 ad,.int .i64 nu,.int .i64 pr]] w G:=by
 have hgw:g < w.heap.size:=(aL.1 hg).1
 generalize hW0:w.alloc (.cells #[.int .i64 6,.int .i64 ex,.int .i64 nm,.int .i64 ad,.int .i64 nu,.int .i64 pr] 37)=W0
 have hB0:Below w.heap.size w W0:=by subst hW0;exact(Below.refl w.heap.size w).alloc (aK _) _
 have b0:W0.heap[w.heap.size]?=some (.cells #[.int .i64 6,.int .i64 ex,.int .i64 nm,.int .i64 ad,.int .i64 nu,.int .i64 pr] 37 (0,0)):=by subst hW0;exact World.alloc_heap_new w _
 have hs0:W0.heap.size=w.heap.size+1:=by subst hW0;simp
 have hr:∀ W,Below W0.heap.size W0 W->(W.cell? ⟨g,2,none⟩=some (.slice q2 n2 cap2)/\W.frozen? ⟨g,2,none⟩=false)/\W.cell? ⟨w.heap.size,0,none⟩=some (.int .i64 6)/\W.cell? ⟨w.heap.size,1,none⟩=some (.int .i64 ex)/\W.cell? ⟨w.heap.size,2,none⟩=some (.int .i64 nm)/\W.cell? ⟨w.heap.size,3,none⟩=some (.int .i64 ad)/\W.cell? ⟨w.heap.size,4,none⟩=some (.int .i64 nu)/\W.cell? ⟨w.heap.size,5,none⟩=some (.int .i64 pr):=λW h=>by
  have c1:=(h.block g (by omega)).trans ((hB0.block g hgw).trans hg);have c2:=(h.block w.heap.size (by omega)).trans b0;exact⟨⟨(cell_of_row _ _ _ _ t (0,0) c1).trans rfl,frozen_of_row _ _ _ _ t c1⟩,(cell_of_row _ _ _ _ 37 (0,0) c2).trans rfl,(cell_of_row _ _ _ _ 37 (0,0) c2).trans rfl,(cell_of_row _ _ _ _ 37 (0,0) c2).trans rfl,(cell_of_row _ _ _ _ 37 (0,0) c2).trans rfl,(cell_of_row _ _ _ _ 37 (0,0) c2).trans rfl,(cell_of_row _ _ _ _ 37 (0,0) c2).trans rfl⟩
 have hS:=Below.refl W0.heap.size W0;obtain⟨⟨k1,f1⟩,k2,k3,k4,k5,k6,k7⟩:=hr _ hS;have h75':=h75 W0 hB0;have mixed:prog.follows .mixedOrders=true:=by kernel_rfl
 go_enter func41,ntmps41
 go_upto_region 2 with(go_at_call 75;(first | rw[hW0] | skip);refine h75'.mono ?_;clear h75';rintro e w1 ⟨rfl,hB1⟩)
 have hS1:Below W0.heap.size W0 w1:=hB1;clear k1 f1 k2 k3 k4 k5 k6 k7;obtain⟨⟨k1,f1⟩,k2,k3,k4,k5,k6,k7⟩:=hr _ hS1;by_cases hneg:at' < 0
 ·obtain rfl:=hat1 hneg
  go_wp2
  go_region
  all_goals (go_wp2;exact hG4 (by decide) _ (by first | exact hB0.trans (hS1.mono hB0.size) | exact(hB0.trans (hS1.mono hB0.size)).drew))
 ·clear hat1;have hBw:Below w.heap.size w w1:=hB0.trans (hS1.mono hB0.size);obtain⟨gv,cur,rfl,hgv,hcs,hus⟩:∃ gv cur,q2=some ⟨gv,0,none⟩/\w.heap[gv]?=some (.cells cur 76 (0,0))/\cur.size=cap2 * 4/\us=cur.toList.take (n2 * 4):=by
   rcases hrow.2 with⟨h0,h00⟩ | ⟨gv,cp,cur,h0,_,hb,hn,_,hs,ht⟩
   ·omega
   ·cases h0;exact⟨gv,cur,rfl,hb,hs,ht.symm⟩
  have hn0:n2≠0:=by omega
  have hcap:n2<=cap2:=by
   rcases hrow.2 with⟨h0,h00⟩ | ⟨_,_,_,h0,_,_,hn,_⟩
   ·cases h0
   ·cases h0;exact hn
  obtain⟨i0,z,hi0,hz,hz1,hz2,hz3⟩:=rZ;have hul:us.length=n2 * 4:=hrow.1;rcases(show at'=0\/at'=1\/at'=2\/at'=3 by omega)with rfl | rfl | rfl | rfl
  ·obtain⟨y1,y0,hs1',_,hsl1⟩:=kW (p:=0) hrow (by omega);obtain⟨y3,y2,_,hs2',hsl2⟩:=kW (p:=1) hrow (by omega);have hs1:∀ W,(Instr.sliceAt 30 (.slice (some ⟨gv,0,none⟩) n2 cap2) none (some (.int .i64 0)) none).run prog W=.ok y1 W:=hs1';have hs2:∀ W,(Instr.sliceAt 30 (.slice (some ⟨gv,0,none⟩) n2 cap2) (some (.int .i64 1)) none none).run prog W=.ok y2 W:=hs2';have hw1:IntKind.i64.wrap ((0:Int)+1)=1:=by decide
   have hw2:IntKind.i64.wrap (1:Int)=1:=by decide
   have hlA:(us.take (0 * 4)).length=0 * 4:=by rw[bA,hul];omega
   have hlB:(us.drop (1 * 4)).length=(n2-1) * 4:=by rw[bL,hul];omega
   go_wp2
   go_region
   all_goals go_wp2
   generalize hV0:w1.drew.drew=V0
   have hBB0:Below w.heap.size w V0:=hV0▸hBw.drew.drew;have hsV0:w.heap.size<=V0.heap.size:=hBB0.size;have hSo:∀ V,Below w.heap.size w V->V.cell? ⟨g,2,none⟩=some (.slice (some ⟨gv,0,none⟩) n2 cap2):=λV h=>(cell_of_row _ _ _ _ t (0,0) ((h.block g hgw).trans hg)).trans rfl
   have hBE:Below w.heap.size w (V0.alloc (.cells #[] 76)):=hBB0.alloc hsV0 _;have ownE:(V0.alloc (.cells #[] 76)).ownsRow 0 76 4 (.slice (some ⟨V0.heap.size,0,none⟩) 0 0) 0 []:=aGD V0;have hslA:∀ V,Below w.heap.size w V->Srcs V y1 0 (us.take (0 * 4)):=λV h=>(hsl1 V λb hb=>h.block b (gA hrow hb)).1
   have hslB:∀ V,Below w.heap.size w V->Srcs V y2 (n2-1) (us.drop (1 * 4)):=λV h=>(hsl2 V λb hb=>h.block b (gA hrow hb)).2
   clear h75 hr k1 f1 k2 k3 k4 k5 k6 k7;refine lV (S:=λw'=>w'.cell? ⟨g,2,none⟩=some (.slice (some ⟨gv,0,none⟩) n2 cap2)) (d:=19) (by kernel_rfl) ?_;rw[hV0]
   change iW _ _ _ _ _ _ 20 _ _ _
   refine bD (i:=0) (v:=(.pointer (some ⟨g,0,none⟩))) rfl (by kernel_rfl) (by kernel_rfl) (by kernel_rfl) (by kernel_rfl) (λ_ _ _ h=>h) (by rfl) (λw hw=>by go_simp) (hSo _ hBB0) ?_
   try simp only[Act.put,List.setIfInBounds_toArray,aF,aG]
   refine bD (i:=2) (v:=(.pointer (some ⟨g,0,none⟩))) rfl (by kernel_rfl) (by kernel_rfl) (by kernel_rfl) (by kernel_rfl) (λ_ _ _ h=>h) (by rfl) (λw hw=>by go_simp) (hSo _ hBB0) ?_
   try simp only[Act.put,List.setIfInBounds_toArray,aF,aG]
   refine bD (i:=3) (v:=(.pointer (some ⟨g,0,none⟩))) rfl (by kernel_rfl) (by kernel_rfl) (by kernel_rfl) (by kernel_rfl) (λ_ _ _ h=>h) (by rfl) (λw hw=>by go_simp) (hSo _ hBB0) ?_
   try simp only[Act.put,List.setIfInBounds_toArray,aF,aG]
   refine bD (i:=4) (v:=(.pointer (some ⟨g,2,none⟩))) rfl (by kernel_rfl) (by kernel_rfl) (by kernel_rfl) (by kernel_rfl) (λ_ _ _ h=>h) (by rfl) (λw hw=>by go_simp) (hSo _ hBB0) ?_
   try simp only[Act.put,List.setIfInBounds_toArray,aF,aG]
   refine bD (i:=5) (v:=(.slice (some ⟨gv,0,none⟩) n2 cap2)) rfl (by kernel_rfl) (by kernel_rfl) (by kernel_rfl) (by kernel_rfl) (λ_ _ _ h=>h) (by rfl) (λw hw=>by go_simp) (hSo _ hBB0) ?_
   try simp only[Act.put,List.setIfInBounds_toArray,aF,aG]
   refine bD (i:=6) (v:=(.int .i64 0)) rfl (by kernel_rfl) (by kernel_rfl) (by kernel_rfl) (by kernel_rfl) (λ_ _ _ h=>h) (by rfl) (λw hw=>by go_simp) (hSo _ hBB0) ?_
   try simp only[Act.put,List.setIfInBounds_toArray,aF,aG]
   refine bD (i:=7) (v:=y1) rfl (by kernel_rfl) (by kernel_rfl) (by kernel_rfl) (by kernel_rfl) (λ_ _ _ h=>h) (by rfl) (λw _=>by have:=hs1 w;simp[execOp,Act.eval,this]) (hSo _ hBB0) ?_
   try simp only[Act.put,List.setIfInBounds_toArray,aF,aG]
   refine bD (i:=9) (v:=(.pointer (some ⟨g,0,none⟩))) rfl (by kernel_rfl) (by kernel_rfl) (by kernel_rfl) (by kernel_rfl) (λ_ _ _ h=>h) (by rfl) (λw hw=>by go_simp) (hSo _ hBB0) ?_
   try simp only[Act.put,List.setIfInBounds_toArray,aF,aG]
   refine bD (i:=10) (v:=(.pointer (some ⟨g,0,none⟩))) rfl (by kernel_rfl) (by kernel_rfl) (by kernel_rfl) (by kernel_rfl) (λ_ _ _ h=>h) (by rfl) (λw hw=>by go_simp) (hSo _ hBB0) ?_
   try simp only[Act.put,List.setIfInBounds_toArray,aF,aG]
   refine bD (i:=11) (v:=(.pointer (some ⟨g,2,none⟩))) rfl (by kernel_rfl) (by kernel_rfl) (by kernel_rfl) (by kernel_rfl) (λ_ _ _ h=>h) (by rfl) (λw hw=>by go_simp) (hSo _ hBB0) ?_
   try simp only[Act.put,List.setIfInBounds_toArray,aF,aG]
   refine bD (i:=12) (v:=(.slice (some ⟨gv,0,none⟩) n2 cap2)) rfl (by kernel_rfl) (by kernel_rfl) (by kernel_rfl) (by kernel_rfl) (λ_ _ _ h=>h) (by rfl) (λw hw=>by go_simp) (hSo _ hBB0) ?_
   try simp only[Act.put,List.setIfInBounds_toArray,aF,aG]
   refine bD (i:=13) (v:=(.int .i64 0)) rfl (by kernel_rfl) (by kernel_rfl) (by kernel_rfl) (by kernel_rfl) (λ_ _ _ h=>h) (by rfl) (λw hw=>by go_simp) (hSo _ hBB0) ?_
   try simp only[Act.put,List.setIfInBounds_toArray,aF,aG]
   refine bD (i:=14) (v:=(.int .i64 1)) rfl (by kernel_rfl) (by kernel_rfl) (by kernel_rfl) (by kernel_rfl) (λ_ _ _ h=>h) (by rfl) (λw hw=>by go_simp) (hSo _ hBB0) ?_
   try simp only[Act.put,List.setIfInBounds_toArray,aF,aG]
   refine bD (i:=15) (v:=y2) rfl (by kernel_rfl) (by kernel_rfl) (by kernel_rfl) (by kernel_rfl) (λ_ _ _ h=>h) (by rfl) (λw _=>by have:=hs2 w;simp[execOp,Act.eval,this]) (hSo _ hBB0) ?_
   try simp only[Act.put,List.setIfInBounds_toArray,aF,aG]
   refine cD (i:=1) (o:=qQ) (by kernel_rfl) rfl ?_;intro K' hK';unfold qQ
   go_simp
   refine hK' _ _ ⟨λ_=>hSo _ hBE,?_⟩;clear hK' K'
   try simp only[Act.put,List.setIfInBounds_toArray,aF,aG]
   refine cD (i:=8) (o:=qP) (by kernel_rfl) rfl ?_;intro K' hK';unfold qP;refine gK rfl _ _ 30 rfl 0 76 i0 z 4 48 underlying30 hi0 hz hz2 hz3 hz1 (by decide) (.slice (some ⟨V0.heap.size,0,none⟩) 0 0) 0 [] rfl ownE ⟨_,_,rfl⟩ y1 0 (us.take (0 * 4)) rfl (hslA _ hBE) hlA (λu hu=>h1us u (eB hu)) (by unfold maxLen;omega) (by omega) (bX _) ?_;intro b1 cp1 w2 ho1 hg1 hl1;simp only[cX,eO]at ho1 ⊢;have hB2:Below w.heap.size w w2:=eY hBE hg1 (λb e=>by have e:some V0.heap.size=some b:=e;cases e;exact hsV0) hBE.size;have hb1:w.heap.size<=b1:=by
    have h1:=hBE.size;rcases hl1 with e | e
    ·have e:b1=V0.heap.size:=by simpa[Value.ownBlock]using e
     omega
    ·omega
   refine hK' _ _ ⟨λ_=>hSo _ hB2,?_⟩;clear hK' K'
   try simp only[Act.put,List.setIfInBounds_toArray,aF,aG]
   refine cD (i:=16) (o:=nM) (by kernel_rfl) rfl ?_;intro K' hK';unfold nM;refine gK rfl _ _ 30 rfl 0 76 i0 z 4 48 underlying30 hi0 hz hz2 hz3 hz1 (by decide) (.slice (some ⟨b1,0,none⟩) 0 cp1) 0 (us.take (0 * 4)) rfl ho1 ⟨_,_,rfl⟩ y2 (n2-1) (us.drop (1 * 4)) rfl (hslB _ hB2) hlB (λu hu=>h1us u (cC hu)) (by unfold maxLen;omega) (by omega) (bX _) ?_;intro b2 cp2 w3 ho2 hg2 hl2;rw[show 0+(n2-1)=n2-1 by omega]at ho2 ⊢;have hB3:Below w.heap.size w w3:=eY hB2 hg2 (λb e=>by have e:some b1=some b:=e;cases e;exact hb1) hB2.size;have hb2:w.heap.size<=b2:=by
    have h1:=hB2.size;rcases hl2 with e | e
    ·have e:b2=b1:=by simpa[Value.ownBlock]using e
     omega
    ·omega
   refine hK' _ _ ⟨λ_=>hSo _ hB3,?_⟩;clear hK' K'
   try simp only[Act.put,List.setIfInBounds_toArray,aF,aG]
   refine cD (i:=17) (o:=nL) (by kernel_rfl) rfl ?_;intro K' hK';unfold nL
   go_simp
   refine hK' _ _ ⟨λ_=>hSo _ hB3,?_⟩;clear hK' K'
   try simp only[Act.put,List.setIfInBounds_toArray,aF,aG]
   refine cD (i:=18) (o:=nK) (by kernel_rfl) rfl ?_;intro K' hK';unfold nK
   go_simp
   refine hK' _ _ ⟨λ_=>hSo _ hB3,?_⟩;clear hK' K'
   try simp only[Act.put,List.setIfInBounds_toArray,aF,aG]
   refine cD (i:=19) (o:=nJ) (by kernel_rfl) rfl ?_;intro K' hK';unfold nJ;have c1:=hSo _ hB3;have f1:w3.frozen? ⟨g,2,none⟩=false:=frozen_of_row _ _ _ _ t ((hB3.block g hgw).trans hg)
   go_simp
   refine hK' _ _ ⟨λh=>absurd rfl h,?_⟩;clear hK' K'
   try simp only[Act.put,List.setIfInBounds_toArray,aF,aG]
   refine jP (by kernel_rfl) ?_ _
   go_wp2
   exact hG0 (by omega) w3 b2 cp2 hB3 hb2 ho2
  ·obtain⟨y1,y0,hs1',_,hsl1⟩:=kW (p:=1) hrow (by omega);obtain⟨y3,y2,_,hs2',hsl2⟩:=kW (p:=2) hrow (by omega);have hs1:∀ W,(Instr.sliceAt 30 (.slice (some ⟨gv,0,none⟩) n2 cap2) none (some (.int .i64 1)) none).run prog W=.ok y1 W:=hs1';have hs2:∀ W,(Instr.sliceAt 30 (.slice (some ⟨gv,0,none⟩) n2 cap2) (some (.int .i64 2)) none none).run prog W=.ok y2 W:=hs2';have hw1:IntKind.i64.wrap ((1:Int)+1)=2:=by decide
   have hw2:IntKind.i64.wrap (2:Int)=2:=by decide
   have hlA:(us.take (1 * 4)).length=1 * 4:=by rw[bA,hul];omega
   have hlB:(us.drop (2 * 4)).length=(n2-2) * 4:=by rw[bL,hul];omega
   go_wp2
   go_region
   all_goals go_wp2
   generalize hV0:w1.drew.drew=V0
   have hBB0:Below w.heap.size w V0:=hV0▸hBw.drew.drew;have hsV0:w.heap.size<=V0.heap.size:=hBB0.size;have hSo:∀ V,Below w.heap.size w V->V.cell? ⟨g,2,none⟩=some (.slice (some ⟨gv,0,none⟩) n2 cap2):=λV h=>(cell_of_row _ _ _ _ t (0,0) ((h.block g hgw).trans hg)).trans rfl
   have hBE:Below w.heap.size w (V0.alloc (.cells #[] 76)):=hBB0.alloc hsV0 _;have ownE:(V0.alloc (.cells #[] 76)).ownsRow 0 76 4 (.slice (some ⟨V0.heap.size,0,none⟩) 0 0) 0 []:=aGD V0;have hslA:∀ V,Below w.heap.size w V->Srcs V y1 1 (us.take (1 * 4)):=λV h=>(hsl1 V λb hb=>h.block b (gA hrow hb)).1
   have hslB:∀ V,Below w.heap.size w V->Srcs V y2 (n2-2) (us.drop (2 * 4)):=λV h=>(hsl2 V λb hb=>h.block b (gA hrow hb)).2
   clear h75 hr k1 f1 k2 k3 k4 k5 k6 k7;refine lV (S:=λw'=>w'.cell? ⟨g,2,none⟩=some (.slice (some ⟨gv,0,none⟩) n2 cap2)) (d:=19) (by kernel_rfl) ?_;rw[hV0]
   change iW _ _ _ _ _ _ 20 _ _ _
   refine bD (i:=0) (v:=(.pointer (some ⟨g,0,none⟩))) rfl (by kernel_rfl) (by kernel_rfl) (by kernel_rfl) (by kernel_rfl) (λ_ _ _ h=>h) (by rfl) (λw hw=>by go_simp) (hSo _ hBB0) ?_
   try simp only[Act.put,List.setIfInBounds_toArray,aF,aG]
   refine bD (i:=2) (v:=(.pointer (some ⟨g,0,none⟩))) rfl (by kernel_rfl) (by kernel_rfl) (by kernel_rfl) (by kernel_rfl) (λ_ _ _ h=>h) (by rfl) (λw hw=>by go_simp) (hSo _ hBB0) ?_
   try simp only[Act.put,List.setIfInBounds_toArray,aF,aG]
   refine bD (i:=3) (v:=(.pointer (some ⟨g,0,none⟩))) rfl (by kernel_rfl) (by kernel_rfl) (by kernel_rfl) (by kernel_rfl) (λ_ _ _ h=>h) (by rfl) (λw hw=>by go_simp) (hSo _ hBB0) ?_
   try simp only[Act.put,List.setIfInBounds_toArray,aF,aG]
   refine bD (i:=4) (v:=(.pointer (some ⟨g,2,none⟩))) rfl (by kernel_rfl) (by kernel_rfl) (by kernel_rfl) (by kernel_rfl) (λ_ _ _ h=>h) (by rfl) (λw hw=>by go_simp) (hSo _ hBB0) ?_
   try simp only[Act.put,List.setIfInBounds_toArray,aF,aG]
   refine bD (i:=5) (v:=(.slice (some ⟨gv,0,none⟩) n2 cap2)) rfl (by kernel_rfl) (by kernel_rfl) (by kernel_rfl) (by kernel_rfl) (λ_ _ _ h=>h) (by rfl) (λw hw=>by go_simp) (hSo _ hBB0) ?_
   try simp only[Act.put,List.setIfInBounds_toArray,aF,aG]
   refine bD (i:=6) (v:=(.int .i64 1)) rfl (by kernel_rfl) (by kernel_rfl) (by kernel_rfl) (by kernel_rfl) (λ_ _ _ h=>h) (by rfl) (λw hw=>by go_simp) (hSo _ hBB0) ?_
   try simp only[Act.put,List.setIfInBounds_toArray,aF,aG]
   refine bD (i:=7) (v:=y1) rfl (by kernel_rfl) (by kernel_rfl) (by kernel_rfl) (by kernel_rfl) (λ_ _ _ h=>h) (by rfl) (λw _=>by have:=hs1 w;simp[execOp,Act.eval,this]) (hSo _ hBB0) ?_
   try simp only[Act.put,List.setIfInBounds_toArray,aF,aG]
   refine bD (i:=9) (v:=(.pointer (some ⟨g,0,none⟩))) rfl (by kernel_rfl) (by kernel_rfl) (by kernel_rfl) (by kernel_rfl) (λ_ _ _ h=>h) (by rfl) (λw hw=>by go_simp) (hSo _ hBB0) ?_
   try simp only[Act.put,List.setIfInBounds_toArray,aF,aG]
   refine bD (i:=10) (v:=(.pointer (some ⟨g,0,none⟩))) rfl (by kernel_rfl) (by kernel_rfl) (by kernel_rfl) (by kernel_rfl) (λ_ _ _ h=>h) (by rfl) (λw hw=>by go_simp) (hSo _ hBB0) ?_
   try simp only[Act.put,List.setIfInBounds_toArray,aF,aG]
   refine bD (i:=11) (v:=(.pointer (some ⟨g,2,none⟩))) rfl (by kernel_rfl) (by kernel_rfl) (by kernel_rfl) (by kernel_rfl) (λ_ _ _ h=>h) (by rfl) (λw hw=>by go_simp) (hSo _ hBB0) ?_
   try simp only[Act.put,List.setIfInBounds_toArray,aF,aG]
   refine bD (i:=12) (v:=(.slice (some ⟨gv,0,none⟩) n2 cap2)) rfl (by kernel_rfl) (by kernel_rfl) (by kernel_rfl) (by kernel_rfl) (λ_ _ _ h=>h) (by rfl) (λw hw=>by go_simp) (hSo _ hBB0) ?_
   try simp only[Act.put,List.setIfInBounds_toArray,aF,aG]
   refine bD (i:=13) (v:=(.int .i64 1)) rfl (by kernel_rfl) (by kernel_rfl) (by kernel_rfl) (by kernel_rfl) (λ_ _ _ h=>h) (by rfl) (λw hw=>by go_simp) (hSo _ hBB0) ?_
   try simp only[Act.put,List.setIfInBounds_toArray,aF,aG]
   refine bD (i:=14) (v:=(.int .i64 2)) rfl (by kernel_rfl) (by kernel_rfl) (by kernel_rfl) (by kernel_rfl) (λ_ _ _ h=>h) (by rfl) (λw hw=>by go_simp) (hSo _ hBB0) ?_
   try simp only[Act.put,List.setIfInBounds_toArray,aF,aG]
   refine bD (i:=15) (v:=y2) rfl (by kernel_rfl) (by kernel_rfl) (by kernel_rfl) (by kernel_rfl) (λ_ _ _ h=>h) (by rfl) (λw _=>by have:=hs2 w;simp[execOp,Act.eval,this]) (hSo _ hBB0) ?_
   try simp only[Act.put,List.setIfInBounds_toArray,aF,aG]
   refine cD (i:=1) (o:=qQ) (by kernel_rfl) rfl ?_;intro K' hK';unfold qQ
   go_simp
   refine hK' _ _ ⟨λ_=>hSo _ hBE,?_⟩;clear hK' K'
   try simp only[Act.put,List.setIfInBounds_toArray,aF,aG]
   refine cD (i:=8) (o:=qP) (by kernel_rfl) rfl ?_;intro K' hK';unfold qP;refine gK rfl _ _ 30 rfl 0 76 i0 z 4 48 underlying30 hi0 hz hz2 hz3 hz1 (by decide) (.slice (some ⟨V0.heap.size,0,none⟩) 0 0) 0 [] rfl ownE ⟨_,_,rfl⟩ y1 1 (us.take (1 * 4)) rfl (hslA _ hBE) hlA (λu hu=>h1us u (eB hu)) (by unfold maxLen;omega) (by omega) (bX _) ?_;intro b1 cp1 w2 ho1 hg1 hl1;simp only[cX,eO]at ho1 ⊢;have hB2:Below w.heap.size w w2:=eY hBE hg1 (λb e=>by have e:some V0.heap.size=some b:=e;cases e;exact hsV0) hBE.size;have hb1:w.heap.size<=b1:=by
    have h1:=hBE.size;rcases hl1 with e | e
    ·have e:b1=V0.heap.size:=by simpa[Value.ownBlock]using e
     omega
    ·omega
   refine hK' _ _ ⟨λ_=>hSo _ hB2,?_⟩;clear hK' K'
   try simp only[Act.put,List.setIfInBounds_toArray,aF,aG]
   refine cD (i:=16) (o:=nM) (by kernel_rfl) rfl ?_;intro K' hK';unfold nM;refine gK rfl _ _ 30 rfl 0 76 i0 z 4 48 underlying30 hi0 hz hz2 hz3 hz1 (by decide) (.slice (some ⟨b1,0,none⟩) 1 cp1) 1 (us.take (1 * 4)) rfl ho1 ⟨_,_,rfl⟩ y2 (n2-2) (us.drop (2 * 4)) rfl (hslB _ hB2) hlB (λu hu=>h1us u (cC hu)) (by unfold maxLen;omega) (by omega) (bX _) ?_;intro b2 cp2 w3 ho2 hg2 hl2;rw[show 1+(n2-2)=n2-1 by omega]at ho2 ⊢;have hB3:Below w.heap.size w w3:=eY hB2 hg2 (λb e=>by have e:some b1=some b:=e;cases e;exact hb1) hB2.size;have hb2:w.heap.size<=b2:=by
    have h1:=hB2.size;rcases hl2 with e | e
    ·have e:b2=b1:=by simpa[Value.ownBlock]using e
     omega
    ·omega
   refine hK' _ _ ⟨λ_=>hSo _ hB3,?_⟩;clear hK' K'
   try simp only[Act.put,List.setIfInBounds_toArray,aF,aG]
   refine cD (i:=17) (o:=nL) (by kernel_rfl) rfl ?_;intro K' hK';unfold nL
   go_simp
   refine hK' _ _ ⟨λ_=>hSo _ hB3,?_⟩;clear hK' K'
   try simp only[Act.put,List.setIfInBounds_toArray,aF,aG]
   refine cD (i:=18) (o:=nK) (by kernel_rfl) rfl ?_;intro K' hK';unfold nK
   go_simp
   refine hK' _ _ ⟨λ_=>hSo _ hB3,?_⟩;clear hK' K'
   try simp only[Act.put,List.setIfInBounds_toArray,aF,aG]
   refine cD (i:=19) (o:=nJ) (by kernel_rfl) rfl ?_;intro K' hK';unfold nJ;have c1:=hSo _ hB3;have f1:w3.frozen? ⟨g,2,none⟩=false:=frozen_of_row _ _ _ _ t ((hB3.block g hgw).trans hg)
   go_simp
   refine hK' _ _ ⟨λh=>absurd rfl h,?_⟩;clear hK' K'
   try simp only[Act.put,List.setIfInBounds_toArray,aF,aG]
   refine jP (by kernel_rfl) ?_ _
   go_wp2
   exact hG0 (by omega) w3 b2 cp2 hB3 hb2 ho2
  ·obtain⟨y1,y0,hs1',_,hsl1⟩:=kW (p:=2) hrow (by omega);obtain⟨y3,y2,_,hs2',hsl2⟩:=kW (p:=3) hrow (by omega);have hs1:∀ W,(Instr.sliceAt 30 (.slice (some ⟨gv,0,none⟩) n2 cap2) none (some (.int .i64 2)) none).run prog W=.ok y1 W:=hs1';have hs2:∀ W,(Instr.sliceAt 30 (.slice (some ⟨gv,0,none⟩) n2 cap2) (some (.int .i64 3)) none none).run prog W=.ok y2 W:=hs2';have hw1:IntKind.i64.wrap ((2:Int)+1)=3:=by decide
   have hw2:IntKind.i64.wrap (3:Int)=3:=by decide
   have hlA:(us.take (2 * 4)).length=2 * 4:=by rw[bA,hul];omega
   have hlB:(us.drop (3 * 4)).length=(n2-3) * 4:=by rw[bL,hul];omega
   go_wp2
   go_region
   all_goals go_wp2
   generalize hV0:w1.drew.drew=V0
   have hBB0:Below w.heap.size w V0:=hV0▸hBw.drew.drew;have hsV0:w.heap.size<=V0.heap.size:=hBB0.size;have hSo:∀ V,Below w.heap.size w V->V.cell? ⟨g,2,none⟩=some (.slice (some ⟨gv,0,none⟩) n2 cap2):=λV h=>(cell_of_row _ _ _ _ t (0,0) ((h.block g hgw).trans hg)).trans rfl
   have hBE:Below w.heap.size w (V0.alloc (.cells #[] 76)):=hBB0.alloc hsV0 _;have ownE:(V0.alloc (.cells #[] 76)).ownsRow 0 76 4 (.slice (some ⟨V0.heap.size,0,none⟩) 0 0) 0 []:=aGD V0;have hslA:∀ V,Below w.heap.size w V->Srcs V y1 2 (us.take (2 * 4)):=λV h=>(hsl1 V λb hb=>h.block b (gA hrow hb)).1
   have hslB:∀ V,Below w.heap.size w V->Srcs V y2 (n2-3) (us.drop (3 * 4)):=λV h=>(hsl2 V λb hb=>h.block b (gA hrow hb)).2
   clear h75 hr k1 f1 k2 k3 k4 k5 k6 k7;refine lV (S:=λw'=>w'.cell? ⟨g,2,none⟩=some (.slice (some ⟨gv,0,none⟩) n2 cap2)) (d:=19) (by kernel_rfl) ?_;rw[hV0]
   change iW _ _ _ _ _ _ 20 _ _ _
   refine bD (i:=0) (v:=(.pointer (some ⟨g,0,none⟩))) rfl (by kernel_rfl) (by kernel_rfl) (by kernel_rfl) (by kernel_rfl) (λ_ _ _ h=>h) (by rfl) (λw hw=>by go_simp) (hSo _ hBB0) ?_
   try simp only[Act.put,List.setIfInBounds_toArray,aF,aG]
   refine bD (i:=2) (v:=(.pointer (some ⟨g,0,none⟩))) rfl (by kernel_rfl) (by kernel_rfl) (by kernel_rfl) (by kernel_rfl) (λ_ _ _ h=>h) (by rfl) (λw hw=>by go_simp) (hSo _ hBB0) ?_
   try simp only[Act.put,List.setIfInBounds_toArray,aF,aG]
   refine bD (i:=3) (v:=(.pointer (some ⟨g,0,none⟩))) rfl (by kernel_rfl) (by kernel_rfl) (by kernel_rfl) (by kernel_rfl) (λ_ _ _ h=>h) (by rfl) (λw hw=>by go_simp) (hSo _ hBB0) ?_
   try simp only[Act.put,List.setIfInBounds_toArray,aF,aG]
   refine bD (i:=4) (v:=(.pointer (some ⟨g,2,none⟩))) rfl (by kernel_rfl) (by kernel_rfl) (by kernel_rfl) (by kernel_rfl) (λ_ _ _ h=>h) (by rfl) (λw hw=>by go_simp) (hSo _ hBB0) ?_
   try simp only[Act.put,List.setIfInBounds_toArray,aF,aG]
   refine bD (i:=5) (v:=(.slice (some ⟨gv,0,none⟩) n2 cap2)) rfl (by kernel_rfl) (by kernel_rfl) (by kernel_rfl) (by kernel_rfl) (λ_ _ _ h=>h) (by rfl) (λw hw=>by go_simp) (hSo _ hBB0) ?_
   try simp only[Act.put,List.setIfInBounds_toArray,aF,aG]
   refine bD (i:=6) (v:=(.int .i64 2)) rfl (by kernel_rfl) (by kernel_rfl) (by kernel_rfl) (by kernel_rfl) (λ_ _ _ h=>h) (by rfl) (λw hw=>by go_simp) (hSo _ hBB0) ?_
   try simp only[Act.put,List.setIfInBounds_toArray,aF,aG]
   refine bD (i:=7) (v:=y1) rfl (by kernel_rfl) (by kernel_rfl) (by kernel_rfl) (by kernel_rfl) (λ_ _ _ h=>h) (by rfl) (λw _=>by have:=hs1 w;simp[execOp,Act.eval,this]) (hSo _ hBB0) ?_
   try simp only[Act.put,List.setIfInBounds_toArray,aF,aG]
   refine bD (i:=9) (v:=(.pointer (some ⟨g,0,none⟩))) rfl (by kernel_rfl) (by kernel_rfl) (by kernel_rfl) (by kernel_rfl) (λ_ _ _ h=>h) (by rfl) (λw hw=>by go_simp) (hSo _ hBB0) ?_
   try simp only[Act.put,List.setIfInBounds_toArray,aF,aG]
   refine bD (i:=10) (v:=(.pointer (some ⟨g,0,none⟩))) rfl (by kernel_rfl) (by kernel_rfl) (by kernel_rfl) (by kernel_rfl) (λ_ _ _ h=>h) (by rfl) (λw hw=>by go_simp) (hSo _ hBB0) ?_
   try simp only[Act.put,List.setIfInBounds_toArray,aF,aG]
   refine bD (i:=11) (v:=(.pointer (some ⟨g,2,none⟩))) rfl (by kernel_rfl) (by kernel_rfl) (by kernel_rfl) (by kernel_rfl) (λ_ _ _ h=>h) (by rfl) (λw hw=>by go_simp) (hSo _ hBB0) ?_
   try simp only[Act.put,List.setIfInBounds_toArray,aF,aG]
   refine bD (i:=12) (v:=(.slice (some ⟨gv,0,none⟩) n2 cap2)) rfl (by kernel_rfl) (by kernel_rfl) (by kernel_rfl) (by kernel_rfl) (λ_ _ _ h=>h) (by rfl) (λw hw=>by go_simp) (hSo _ hBB0) ?_
   try simp only[Act.put,List.setIfInBounds_toArray,aF,aG]
   refine bD (i:=13) (v:=(.int .i64 2)) rfl (by kernel_rfl) (by kernel_rfl) (by kernel_rfl) (by kernel_rfl) (λ_ _ _ h=>h) (by rfl) (λw hw=>by go_simp) (hSo _ hBB0) ?_
   try simp only[Act.put,List.setIfInBounds_toArray,aF,aG]
   refine bD (i:=14) (v:=(.int .i64 3)) rfl (by kernel_rfl) (by kernel_rfl) (by kernel_rfl) (by kernel_rfl) (λ_ _ _ h=>h) (by rfl) (λw hw=>by go_simp) (hSo _ hBB0) ?_
   try simp only[Act.put,List.setIfInBounds_toArray,aF,aG]
   refine bD (i:=15) (v:=y2) rfl (by kernel_rfl) (by kernel_rfl) (by kernel_rfl) (by kernel_rfl) (λ_ _ _ h=>h) (by rfl) (λw _=>by have:=hs2 w;simp[execOp,Act.eval,this]) (hSo _ hBB0) ?_
   try simp only[Act.put,List.setIfInBounds_toArray,aF,aG]
   refine cD (i:=1) (o:=qQ) (by kernel_rfl) rfl ?_;intro K' hK';unfold qQ
   go_simp
   refine hK' _ _ ⟨λ_=>hSo _ hBE,?_⟩;clear hK' K'
   try simp only[Act.put,List.setIfInBounds_toArray,aF,aG]
   refine cD (i:=8) (o:=qP) (by kernel_rfl) rfl ?_;intro K' hK';unfold qP;refine gK rfl _ _ 30 rfl 0 76 i0 z 4 48 underlying30 hi0 hz hz2 hz3 hz1 (by decide) (.slice (some ⟨V0.heap.size,0,none⟩) 0 0) 0 [] rfl ownE ⟨_,_,rfl⟩ y1 2 (us.take (2 * 4)) rfl (hslA _ hBE) hlA (λu hu=>h1us u (eB hu)) (by unfold maxLen;omega) (by omega) (bX _) ?_;intro b1 cp1 w2 ho1 hg1 hl1;simp only[cX,eO]at ho1 ⊢;have hB2:Below w.heap.size w w2:=eY hBE hg1 (λb e=>by have e:some V0.heap.size=some b:=e;cases e;exact hsV0) hBE.size;have hb1:w.heap.size<=b1:=by
    have h1:=hBE.size;rcases hl1 with e | e
    ·have e:b1=V0.heap.size:=by simpa[Value.ownBlock]using e
     omega
    ·omega
   refine hK' _ _ ⟨λ_=>hSo _ hB2,?_⟩;clear hK' K'
   try simp only[Act.put,List.setIfInBounds_toArray,aF,aG]
   refine cD (i:=16) (o:=nM) (by kernel_rfl) rfl ?_;intro K' hK';unfold nM;refine gK rfl _ _ 30 rfl 0 76 i0 z 4 48 underlying30 hi0 hz hz2 hz3 hz1 (by decide) (.slice (some ⟨b1,0,none⟩) 2 cp1) 2 (us.take (2 * 4)) rfl ho1 ⟨_,_,rfl⟩ y2 (n2-3) (us.drop (3 * 4)) rfl (hslB _ hB2) hlB (λu hu=>h1us u (cC hu)) (by unfold maxLen;omega) (by omega) (bX _) ?_;intro b2 cp2 w3 ho2 hg2 hl2;rw[show 2+(n2-3)=n2-1 by omega]at ho2 ⊢;have hB3:Below w.heap.size w w3:=eY hB2 hg2 (λb e=>by have e:some b1=some b:=e;cases e;exact hb1) hB2.size;have hb2:w.heap.size<=b2:=by
    have h1:=hB2.size;rcases hl2 with e | e
    ·have e:b2=b1:=by simpa[Value.ownBlock]using e
     omega
    ·omega
   refine hK' _ _ ⟨λ_=>hSo _ hB3,?_⟩;clear hK' K'
   try simp only[Act.put,List.setIfInBounds_toArray,aF,aG]
   refine cD (i:=17) (o:=nL) (by kernel_rfl) rfl ?_;intro K' hK';unfold nL
   go_simp
   refine hK' _ _ ⟨λ_=>hSo _ hB3,?_⟩;clear hK' K'
   try simp only[Act.put,List.setIfInBounds_toArray,aF,aG]
   refine cD (i:=18) (o:=nK) (by kernel_rfl) rfl ?_;intro K' hK';unfold nK
   go_simp
   refine hK' _ _ ⟨λ_=>hSo _ hB3,?_⟩;clear hK' K'
   try simp only[Act.put,List.setIfInBounds_toArray,aF,aG]
   refine cD (i:=19) (o:=nJ) (by kernel_rfl) rfl ?_;intro K' hK';unfold nJ;have c1:=hSo _ hB3;have f1:w3.frozen? ⟨g,2,none⟩=false:=frozen_of_row _ _ _ _ t ((hB3.block g hgw).trans hg)
   go_simp
   refine hK' _ _ ⟨λh=>absurd rfl h,?_⟩;clear hK' K'
   try simp only[Act.put,List.setIfInBounds_toArray,aF,aG]
   refine jP (by kernel_rfl) ?_ _
   go_wp2
   exact hG0 (by omega) w3 b2 cp2 hB3 hb2 ho2
  ·obtain⟨y1,y0,hs1',_,hsl1⟩:=kW (p:=3) hrow (by omega);obtain⟨y3,y2,_,hs2',hsl2⟩:=kW (p:=4) hrow (by omega);have hs1:∀ W,(Instr.sliceAt 30 (.slice (some ⟨gv,0,none⟩) n2 cap2) none (some (.int .i64 3)) none).run prog W=.ok y1 W:=hs1';have hs2:∀ W,(Instr.sliceAt 30 (.slice (some ⟨gv,0,none⟩) n2 cap2) (some (.int .i64 4)) none none).run prog W=.ok y2 W:=hs2';have hw1:IntKind.i64.wrap ((3:Int)+1)=4:=by decide
   have hw2:IntKind.i64.wrap (4:Int)=4:=by decide
   have hlA:(us.take (3 * 4)).length=3 * 4:=by rw[bA,hul];omega
   have hlB:(us.drop (4 * 4)).length=(n2-4) * 4:=by rw[bL,hul];omega
   go_wp2
   go_region
   all_goals go_wp2
   generalize hV0:w1.drew.drew=V0
   have hBB0:Below w.heap.size w V0:=hV0▸hBw.drew.drew;have hsV0:w.heap.size<=V0.heap.size:=hBB0.size;have hSo:∀ V,Below w.heap.size w V->V.cell? ⟨g,2,none⟩=some (.slice (some ⟨gv,0,none⟩) n2 cap2):=λV h=>(cell_of_row _ _ _ _ t (0,0) ((h.block g hgw).trans hg)).trans rfl
   have hBE:Below w.heap.size w (V0.alloc (.cells #[] 76)):=hBB0.alloc hsV0 _;have ownE:(V0.alloc (.cells #[] 76)).ownsRow 0 76 4 (.slice (some ⟨V0.heap.size,0,none⟩) 0 0) 0 []:=aGD V0;have hslA:∀ V,Below w.heap.size w V->Srcs V y1 3 (us.take (3 * 4)):=λV h=>(hsl1 V λb hb=>h.block b (gA hrow hb)).1
   have hslB:∀ V,Below w.heap.size w V->Srcs V y2 (n2-4) (us.drop (4 * 4)):=λV h=>(hsl2 V λb hb=>h.block b (gA hrow hb)).2
   clear h75 hr k1 f1 k2 k3 k4 k5 k6 k7;refine lV (S:=λw'=>w'.cell? ⟨g,2,none⟩=some (.slice (some ⟨gv,0,none⟩) n2 cap2)) (d:=19) (by kernel_rfl) ?_;rw[hV0]
   change iW _ _ _ _ _ _ 20 _ _ _
   refine bD (i:=0) (v:=(.pointer (some ⟨g,0,none⟩))) rfl (by kernel_rfl) (by kernel_rfl) (by kernel_rfl) (by kernel_rfl) (λ_ _ _ h=>h) (by rfl) (λw hw=>by go_simp) (hSo _ hBB0) ?_
   try simp only[Act.put,List.setIfInBounds_toArray,aF,aG]
   refine bD (i:=2) (v:=(.pointer (some ⟨g,0,none⟩))) rfl (by kernel_rfl) (by kernel_rfl) (by kernel_rfl) (by kernel_rfl) (λ_ _ _ h=>h) (by rfl) (λw hw=>by go_simp) (hSo _ hBB0) ?_
   try simp only[Act.put,List.setIfInBounds_toArray,aF,aG]
   refine bD (i:=3) (v:=(.pointer (some ⟨g,0,none⟩))) rfl (by kernel_rfl) (by kernel_rfl) (by kernel_rfl) (by kernel_rfl) (λ_ _ _ h=>h) (by rfl) (λw hw=>by go_simp) (hSo _ hBB0) ?_
   try simp only[Act.put,List.setIfInBounds_toArray,aF,aG]
   refine bD (i:=4) (v:=(.pointer (some ⟨g,2,none⟩))) rfl (by kernel_rfl) (by kernel_rfl) (by kernel_rfl) (by kernel_rfl) (λ_ _ _ h=>h) (by rfl) (λw hw=>by go_simp) (hSo _ hBB0) ?_
   try simp only[Act.put,List.setIfInBounds_toArray,aF,aG]
   refine bD (i:=5) (v:=(.slice (some ⟨gv,0,none⟩) n2 cap2)) rfl (by kernel_rfl) (by kernel_rfl) (by kernel_rfl) (by kernel_rfl) (λ_ _ _ h=>h) (by rfl) (λw hw=>by go_simp) (hSo _ hBB0) ?_
   try simp only[Act.put,List.setIfInBounds_toArray,aF,aG]
   refine bD (i:=6) (v:=(.int .i64 3)) rfl (by kernel_rfl) (by kernel_rfl) (by kernel_rfl) (by kernel_rfl) (λ_ _ _ h=>h) (by rfl) (λw hw=>by go_simp) (hSo _ hBB0) ?_
   try simp only[Act.put,List.setIfInBounds_toArray,aF,aG]
   refine bD (i:=7) (v:=y1) rfl (by kernel_rfl) (by kernel_rfl) (by kernel_rfl) (by kernel_rfl) (λ_ _ _ h=>h) (by rfl) (λw _=>by have:=hs1 w;simp[execOp,Act.eval,this]) (hSo _ hBB0) ?_
   try simp only[Act.put,List.setIfInBounds_toArray,aF,aG]
   refine bD (i:=9) (v:=(.pointer (some ⟨g,0,none⟩))) rfl (by kernel_rfl) (by kernel_rfl) (by kernel_rfl) (by kernel_rfl) (λ_ _ _ h=>h) (by rfl) (λw hw=>by go_simp) (hSo _ hBB0) ?_
   try simp only[Act.put,List.setIfInBounds_toArray,aF,aG]
   refine bD (i:=10) (v:=(.pointer (some ⟨g,0,none⟩))) rfl (by kernel_rfl) (by kernel_rfl) (by kernel_rfl) (by kernel_rfl) (λ_ _ _ h=>h) (by rfl) (λw hw=>by go_simp) (hSo _ hBB0) ?_
   try simp only[Act.put,List.setIfInBounds_toArray,aF,aG]
   refine bD (i:=11) (v:=(.pointer (some ⟨g,2,none⟩))) rfl (by kernel_rfl) (by kernel_rfl) (by kernel_rfl) (by kernel_rfl) (λ_ _ _ h=>h) (by rfl) (λw hw=>by go_simp) (hSo _ hBB0) ?_
   try simp only[Act.put,List.setIfInBounds_toArray,aF,aG]
   refine bD (i:=12) (v:=(.slice (some ⟨gv,0,none⟩) n2 cap2)) rfl (by kernel_rfl) (by kernel_rfl) (by kernel_rfl) (by kernel_rfl) (λ_ _ _ h=>h) (by rfl) (λw hw=>by go_simp) (hSo _ hBB0) ?_
   try simp only[Act.put,List.setIfInBounds_toArray,aF,aG]
   refine bD (i:=13) (v:=(.int .i64 3)) rfl (by kernel_rfl) (by kernel_rfl) (by kernel_rfl) (by kernel_rfl) (λ_ _ _ h=>h) (by rfl) (λw hw=>by go_simp) (hSo _ hBB0) ?_
   try simp only[Act.put,List.setIfInBounds_toArray,aF,aG]
   refine bD (i:=14) (v:=(.int .i64 4)) rfl (by kernel_rfl) (by kernel_rfl) (by kernel_rfl) (by kernel_rfl) (λ_ _ _ h=>h) (by rfl) (λw hw=>by go_simp) (hSo _ hBB0) ?_
   try simp only[Act.put,List.setIfInBounds_toArray,aF,aG]
   refine bD (i:=15) (v:=y2) rfl (by kernel_rfl) (by kernel_rfl) (by kernel_rfl) (by kernel_rfl) (λ_ _ _ h=>h) (by rfl) (λw _=>by have:=hs2 w;simp[execOp,Act.eval,this]) (hSo _ hBB0) ?_
   try simp only[Act.put,List.setIfInBounds_toArray,aF,aG]
   refine cD (i:=1) (o:=qQ) (by kernel_rfl) rfl ?_;intro K' hK';unfold qQ
   go_simp
   refine hK' _ _ ⟨λ_=>hSo _ hBE,?_⟩;clear hK' K'
   try simp only[Act.put,List.setIfInBounds_toArray,aF,aG]
   refine cD (i:=8) (o:=qP) (by kernel_rfl) rfl ?_;intro K' hK';unfold qP;refine gK rfl _ _ 30 rfl 0 76 i0 z 4 48 underlying30 hi0 hz hz2 hz3 hz1 (by decide) (.slice (some ⟨V0.heap.size,0,none⟩) 0 0) 0 [] rfl ownE ⟨_,_,rfl⟩ y1 3 (us.take (3 * 4)) rfl (hslA _ hBE) hlA (λu hu=>h1us u (eB hu)) (by unfold maxLen;omega) (by omega) (bX _) ?_;intro b1 cp1 w2 ho1 hg1 hl1;simp only[cX,eO]at ho1 ⊢;have hB2:Below w.heap.size w w2:=eY hBE hg1 (λb e=>by have e:some V0.heap.size=some b:=e;cases e;exact hsV0) hBE.size;have hb1:w.heap.size<=b1:=by
    have h1:=hBE.size;rcases hl1 with e | e
    ·have e:b1=V0.heap.size:=by simpa[Value.ownBlock]using e
     omega
    ·omega
   refine hK' _ _ ⟨λ_=>hSo _ hB2,?_⟩;clear hK' K'
   try simp only[Act.put,List.setIfInBounds_toArray,aF,aG]
   refine cD (i:=16) (o:=nM) (by kernel_rfl) rfl ?_;intro K' hK';unfold nM;refine gK rfl _ _ 30 rfl 0 76 i0 z 4 48 underlying30 hi0 hz hz2 hz3 hz1 (by decide) (.slice (some ⟨b1,0,none⟩) 3 cp1) 3 (us.take (3 * 4)) rfl ho1 ⟨_,_,rfl⟩ y2 (n2-4) (us.drop (4 * 4)) rfl (hslB _ hB2) hlB (λu hu=>h1us u (cC hu)) (by unfold maxLen;omega) (by omega) (bX _) ?_;intro b2 cp2 w3 ho2 hg2 hl2;rw[show 3+(n2-4)=n2-1 by omega]at ho2 ⊢;have hB3:Below w.heap.size w w3:=eY hB2 hg2 (λb e=>by have e:some b1=some b:=e;cases e;exact hb1) hB2.size;have hb2:w.heap.size<=b2:=by
    have h1:=hB2.size;rcases hl2 with e | e
    ·have e:b2=b1:=by simpa[Value.ownBlock]using e
     omega
    ·omega
   refine hK' _ _ ⟨λ_=>hSo _ hB3,?_⟩;clear hK' K'
   try simp only[Act.put,List.setIfInBounds_toArray,aF,aG]
   refine cD (i:=17) (o:=nL) (by kernel_rfl) rfl ?_;intro K' hK';unfold nL
   go_simp
   refine hK' _ _ ⟨λ_=>hSo _ hB3,?_⟩;clear hK' K'
   try simp only[Act.put,List.setIfInBounds_toArray,aF,aG]
   refine cD (i:=18) (o:=nK) (by kernel_rfl) rfl ?_;intro K' hK';unfold nK
   go_simp
   refine hK' _ _ ⟨λ_=>hSo _ hB3,?_⟩;clear hK' K'
   try simp only[Act.put,List.setIfInBounds_toArray,aF,aG]
   refine cD (i:=19) (o:=nJ) (by kernel_rfl) rfl ?_;intro K' hK';unfold nJ;have c1:=hSo _ hB3;have f1:w3.frozen? ⟨g,2,none⟩=false:=frozen_of_row _ _ _ _ t ((hB3.block g hgw).trans hg)
   go_simp
   refine hK' _ _ ⟨λh=>absurd rfl h,?_⟩;clear hK' K'
   try simp only[Act.put,List.setIfInBounds_toArray,aF,aG]
   refine jP (by kernel_rfl) ?_ _
   go_wp2
   exact hG0 (by omega) w3 b2 cp2 hB3 hb2 ho2
end
set_option maxHeartbeats 0
section
variable {w W : World} {g : Nat} {c : Cg} {s1 s2 : Value} {ss : List Value} {t : TypeId}
theorem aAD (h:Hold w g c s1 s2 ss t):∀ b∈jY s1 s2 ss,b < w.heap.size:=λb hb=>by
 unfold jY at hb;rcases aA.1 hb with hb | hb
 ·exact gA h.r1 (by simpa[ob]using hb)
 ·rcases aA.1 hb with hb | hb
  ·exact gA h.r2 (by simpa[ob]using hb)
  ·exact h.inn.lt b hb
theorem wF (h:Hold w g c s1 s2 ss t):g < w.heap.size:=(aL.1 h.box).1
theorem aET (h:Hold w g c s1 s2 ss t)(hw:∀ b,b=g\/b∈jY s1 s2 ss->W.heap[b]?=w.heap[b]?):Hold W g c s1 s2 ss t:=
 ⟨(hw g (.inl rfl)).trans h.box,fM h.r1 λb hb=>hw b (.inr (xN hb)),fM h.r2 λb hb=>hw b (.inr (aDS hb)),h.inn.keep λb hb=>hw b (.inr (sO hb)),h.nd,h.ne⟩
theorem nP (h:Hold w g c s1 s2 ss t)(hw:Below w.heap.size w W):Hold W g c s1 s2 ss t:=
 aET h λb hb=>hw.block b (by rcases hb with rfl | hb;exact wF h;exact aAD h b hb)
theorem aK5 {vs':LV}{ss':List Value}{b cp:Nat}(h:Hold w g c s1 s2 ss t)(hW:Below w.heap.size w W)(hb:w.heap.size<=b)
  (hr:W.ownsRow 0 76 4 (.slice (some ⟨b,0,none⟩) vs'.length cp) vs'.length (kJ vs' ss')) (hin:Inn w vs' ss') (hsub:∀ x∈ss'.flatMap ob,x∈ss.flatMap ob) (hnd:(ob s1++ss'.flatMap ob).Nodup) :
  Hold (W.setCell ⟨g,2,none⟩ (.slice (some ⟨b,0,none⟩) vs'.length cp)) g (c.1,c.2.1,vs') s1 (.slice (some ⟨b,0,none⟩) vs'.length cp) ss' t ∧
  Kept (λx=>w.heap.size<=x\/x∈jY s1 s2 ss\/x=g) w (W.setCell ⟨g,2,none⟩ (.slice (some ⟨b,0,none⟩) vs'.length cp))/\∀ x∈jY s1 (.slice (some ⟨b,0,none⟩) vs'.length cp) ss',w.heap.size<=x\/x∈jY s1 s2 ss:=by
 have hgl:=wF h;have hlt:=aAD h;have hgn:∀ x,x≠g->(W.setCell ⟨g,2,none⟩ (.slice (some ⟨b,0,none⟩) vs'.length cp)).heap[x]?=W.heap[x]?:=λx hx=>Below.heap_setCell W _ _ x hx
 have h1b:∀ x∈ob s1,x < w.heap.size/\x≠g:=λx hx=>⟨hlt x (aA.2 (.inl hx)),h.ne x (aA.2 (.inl hx))⟩
 have h3b:∀ x∈ss'.flatMap ob,x < w.heap.size/\x≠g:=λx hx=>⟨hlt x (sO (hsub x hx)),h.ne x (sO (hsub x hx))⟩
 have hob:ob (.slice (some ⟨b,0,none⟩) vs'.length cp)=[b]:=by simp[ob,Value.ownBlock]
 refine⟨⟨?_,?_,?_,?_,?_,?_⟩,(gF hW (λx hx=>.inl hx)).trans (mW (.inr (.inr rfl))),?_⟩
 ·exact zM (k:=2) ((hW.block g hgl).trans h.box)
 ·exact fM h.r1 λx hx=>by
   have:=h1b x (by simp[ob,hx]);exact(hgn x this.2).trans (hW.block x this.1)
 ·exact fM hr λx hx=>hgn x (by
   have:x=b:=by simpa[Value.ownBlock]using hx.symm
   omega)
 ·exact hin.keep λx hx=>(hgn x (h3b x hx).2).trans (hW.block x (h3b x hx).1)
 ·unfold jY;rw[hob];obtain⟨n1,n2,n3⟩:=aH.1 hnd;refine aH.2 ⟨n1,?_,λx hx y hy e=>?_⟩
  ·refine dM.2 ⟨λhx=>?_,n2⟩;have:=(h3b b hx).1;omega
  ·have h1:=(h1b x hx).1;rcases bS.1 hy with hy | hy
   ·omega
   ·exact n3 x hx y hy e
 ·intro x hx;unfold jY at hx;rw[hob]at hx;rcases aA.1 hx with hx | hx
  ·exact(h1b x hx).2
  ·rcases bS.1 hx with hx | hx
   ·omega
   ·exact(h3b x hx).2
 ·intro x hx;unfold jY at hx;rw[hob]at hx;rcases aA.1 hx with hx | hx
  ·exact .inr (aA.2 (.inl hx))
  ·rcases bS.1 hx with hx | hx
   ·exact .inl (by omega)
   ·exact .inr (sO (hsub x hx))
theorem aMg (h:Hold w g c s1 s2 ss t)(x:Cm)(hl:c.2.2.length<=iU) :
  Calls prog 75 #[.pointer (some ⟨g,0,none⟩),.agg (cV x).toArray] w λe W'=>e=.returned (.int .i64 (atV c.2.2 x.2.2.2.1 x.2.2.2.2.1 x.2.2.2.2.2))/\Below w.heap.size w W':=by
 have hm:jG (c,x)=some (atV c.2.2 x.2.2.2.1 x.2.2.2.2.1 x.2.2.2.2.2):=if_pos hl;have p1:∀ b∈s1.ownBlock.toList,(λb=>b < w.heap.size) b:=λb hb=>gA h.r1 (by simpa using hb)
 have p2:∀ b∈s2.ownBlock.toList++ss.flatMap (λs=>s.ownBlock.toList),(λb=>b < w.heap.size) b:=λb hb=>by
  rcases aA.1 hb with hb | hb
  ·exact gA h.r2 (by simpa using hb)
  ·exact h.inn.lt b hb
 have r1:=OwnL.rep bZ (S:=λb=>b < w.heap.size) 1 _ _ _ (zA h.r1) p1;have r2:=OwnL.rep bZ (S:=λb=>b < w.heap.size) 2 _ _ _ (yT h.inn.1 h.r2 h.inn.2) p2;refine(aKO w (λb=>b < w.heap.size) (a75.enc (c,x)) [.pointer (some ⟨g,0,none⟩),.agg (cV x).toArray] (n75 (atV c.2.2 x.2.2.2.1 x.2.2.2.2.1 x.2.2.2.2.2)) (λb hb=>hb) ⟨rfl,λj a u h1 h2=>?_⟩ ?_).mono ?_
 ·match j with
  | 0=>
   cases h1;cases h2;refine(ArgA.atPt (cx:=cxT) (w:=w) (A0:=λb=>b < w.heap.size) (s:={ own:=3,nm:=0,e:=32,o:=false,xs:=[c] }) (u:=.pointer (some ⟨g,0,none⟩)) rfl).mpr ?_;refine⟨g,0,rfl,wF h,c,rfl,2,λj l hj=>?_⟩
   match j with
   | 0=>cases hj;exact⟨.int .i64 c.1,(cell_of_row _ _ _ _ t (0,0) h.box).trans rfl,rfl⟩
   | 1=>cases hj;exact⟨s1,(cell_of_row _ _ _ _ t (0,0) h.box).trans rfl,RepL_succ cxT _ _ _ r1⟩
   | 2=>cases hj;exact⟨s2,(cell_of_row _ _ _ _ t (0,0) h.box).trans rfl,r2⟩
   | j+3=>exact absurd hj (by simp[show cxT.enc 32 false c=[lv (.int .i64 c.1),ls (ro 68 c.2.1),ls (ro 76 c.2.2)] from rfl])
  | 1=>cases h1;cases h2;exact aGj (cx:=cxT) (cV x)
  | j+2=>simp at h2
 ·show((a75.dec (a75.enc (c,x))).map λx=>((jG x).isSome,n75 ((jG x).getD aNM)))=_;rw[show a75.dec (a75.enc (c,x))=some (c,x) from rfl];simp only[aD,hm,gM,fK]
 ·rintro e W' ⟨u,rfl,hbw,hres⟩;rw[uR (v:=.int .i64 (atV c.2.2 x.2.2.2.1 x.2.2.2.2.1 x.2.2.2.2.2)) hres];exact⟨rfl,hbw⟩
end
end Go.Proofs.Tryz
