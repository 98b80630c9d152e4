/- A part of the proof of FnExactApplyCmd: LpJa, LpIb, LpJb, LpIc. -/
import Derived.Test.YtfncedbejffggaaGreatLpFf
import Derived.Maps.AppendAt
import Derived.RangeFuncRecord
set_option linter.unusedSimpArgs false
set_option linter.unusedVariables false
namespace Go.Proofs.Tryz
open Go.IntKind (wrap)
open Go Go.VM Go.RowKit
theorem iA {W:World}{b K:Nat}{es:List Value}{cv:Array Value}{te:TypeId}(h:W.heap[b]?=some (.cells cv te (0,0)))(hcv:cv.toList.take K=es):∀ (j:Nat) u,es[j]?=some u->W.cell? ((⟨b,0,none⟩:Addr).add j)=some u:=λj u hj=>by
 rw[Addr.add_lit,cX];refine(cell_of_row _ _ _ _ te (0,0) h).trans ?_;rw[<-Array.getElem?_toList];rw[<-hcv,bK]at hj;split at hj
 ·exact hj
 ·cases hj
section
attribute [local go_sem] Oper.semAt_some
set_option maxRecDepth 100000 in
set_option maxHeartbeats 4000000 in
theorem aIr (v:Value)(n:Nat)(us es:List Value)(vb vc:Nat)(cv:Array Value)(te:TypeId)(w:World)(hrow:w.ownsRow 0 68 5 v n us)(hn:n<=100)(hel:es.length=5)(hvb:w.heap[vb]?=some (.cells cv te (0,0)))(hcv:cv.toList.take 5=es)(h1e:∀ x∈es,x.oneCell'=true) :
  Calls prog 83 #[v,.int .i64 n,.slice (some ⟨vb,0,none⟩) 1 vc] w λe W=>∃ u,e=.returned u/\W.ownsRow 0 68 5 u (n+1) (us++es)/\w.grownBy W v.ownBlock/\(u.ownBlock=v.ownBlock\/u.ownBlock=some w.heap.size):=by
 obtain⟨i0,z,hi0,hz,hz1,hz2,hz3⟩:=yY;have hes:=iA hvb hcv;rcases hrow.2 with⟨rfl,h0⟩ | ⟨g,cap,cur,rfl,_,hg,hnc,hcm,hcs,htk⟩
 ·subst h0
  go_enter func83,ntmps83
  go_wp2_with (at_builtin;refine wpList_append_own_at _ rfl _ _ 29 rfl 0 68 i0 z 5 40 underlying29 hi0 hz hz2 hz3 hz1 (by decide) _ _ us rfl hrow ⟨vb,0,none⟩ 1 vc es rfl (by rw[hel]) hes h1e (by unfold maxLen;omega) (by omega) (bX _) ?_;intro v' w1 hown' hgrow hnil hloc)
  go_ret
  exact⟨_,rfl,hown',hgrow,hloc⟩
 ·go_enter func83,ntmps83
  go_wp2_with (at_builtin;refine wpList_append_own_at _ rfl _ _ 29 rfl 0 68 i0 z 5 40 underlying29 hi0 hz hz2 hz3 hz1 (by decide) _ _ us rfl hrow ⟨vb,0,none⟩ 1 vc es rfl (by rw[hel]) hes h1e (by unfold maxLen;omega) (by omega) (bX _) ?_;intro v' w1 hown' hgrow hnil hloc)
  all_goals (go_ret;exact⟨_,rfl,hown',hgrow,hloc⟩)
set_option maxRecDepth 100000 in
set_option maxHeartbeats 4000000 in
theorem aGU (g n i cap:Nat)(us es:List Value)(vb vc:Nat)(cv:Array Value)(te:TypeId)(w:World)(hrow:w.ownsRow 0 68 5 (.slice (some ⟨g,0,none⟩) n cap) n us)(hi:i < n)(hroom:n+1<=cap)(hn:n<=100)(hel:es.length=5)
  (hvb:w.heap[vb]?=some (.cells cv te (0,0))) (hcv:cv.toList.take 5=es) (hne:vb≠g) (h1:∀ x∈us,x.oneCell'=true) (h1e:∀ x∈es,x.oneCell'=true) :
  Calls prog 83 #[.slice (some ⟨g,0,none⟩) n cap,.int .i64 i,.slice (some ⟨vb,0,none⟩) 1 vc] w λe W=>e=.returned (.slice (some ⟨g,0,none⟩) (n+1) cap)/\W.ownsRow 0 68 5 (.slice (some ⟨g,0,none⟩) (n+1) cap) (n+1) (us.take (i * 5)++es++us.drop (i * 5)) ∧
   Kept (λb=>b=g) w W:=by
 obtain⟨i0,z,hi0,hz,hz1,hz2,hz3⟩:=yY;obtain⟨cur,hg,hcs,_,hnc,hcm,hus⟩:=fQ hrow;have hul:us.length=n * 5:=hrow.1;have hes:=iA hvb hcv;have hsz:(prog.info? 68).map (·.size)=some 5:=by rw[hi0];simp[hz2]
 have hcl:cur.toList.length=cap * 5:=by rw[Array.length_toList,hcs]
 have hr5:(n+1) * 5<=cap * 5:=aQ 5 hroom;have hi5:i * 5<=n * 5:=aQ 5 (by omega);have hs5:(n+1) * 5=n * 5+5:=eQ n 5;have hj5:(i+1) * 5=i * 5+5:=eQ i 5;have hdl:(us.drop (i * 5)).length=(n-i) * 5:=by rw[bL,hul,<-Nat.sub_mul]
 have hdl2:(n-i) * 5=n * 5-i * 5:=Nat.sub_mul ..
 have hfin:=wE (cur:=cur.toList) (us:=us) (es:=es) (K:=5) (n:=n) (i:=i) hus (by omega) (by omega) hel;have hov:∀ lb cb,(callFunc 101 #[.slice (some ⟨vb,0,none⟩) 1 vc,.slice (some ⟨g,(i+1) * 5,none⟩) lb cb]).run prog w=.ok (.value (.bool false)) w:=λlb cb=>by
  rw[run_callFunc_extern func101 (by kernel_rfl) (by kernel_rfl) (by kernel_rfl) (e:=Extern.SlicesOverlaps.overlaps #[29,29] #[4]) (by kernel_rfl),
   Lib.run_overlaps_apart w 29 4 68 underlying29 5 (λw=>by kernel_rfl) ⟨vb,0,none⟩ ⟨g,(i+1) * 5,none⟩ 1 vc lb cb hne te 68 cv.size cur.size (by simp[World.shape?,hvb]) (by simp[World.shape?,hg]) (by omega) (frozen_of_row _ _ _ _ te hvb) (frozen_of_row _ _ _ _ te hvb)]
  rfl
 have hsrc:∀ j u,(us.drop (i * 5))[j]?=some u->w.drew.cell? ((⟨g,i * 5,none⟩:Addr).add j)=some u:=λj u h=>by
  rw[Addr.add_lit];have hg':w.drew.heap[g]?=some (.cells cur 68 (0,0)):=hg;refine(cell_of_row _ _ _ _ 68 (0,0) hg').trans ?_;rw[cL,hus,bK]at h;split at h
  ·rw[<-Array.getElem?_toList];exact h
  ·cases h
 have hcp1:∀ ty dc sc,(Builtin.copy_ #[29,29] ty #[.slice (some ⟨g,(i+1) * 5,none⟩) (n-i) dc,.slice (some ⟨g,i * 5,none⟩) (n+1-i) sc]).run prog w.drew=.ok (goInt (Nat.min (n+1-i) (n-i):Nat)) (w.drew.setRow g (dJ cur.toList ((i+1) * 5) (us.drop (i * 5))).toArray):=λty dc sc=>
  fB w.drew 29 29 ty 68 g ((i+1) * 5) (n-i) dc ⟨g,i * 5,none⟩ (n+1-i) sc cur 68 _ 5 underlying29 hsz hg (by rw[hdl];congr 1;simp only[Nat.min_def];split<;>omega) hsrc (by rw[hdl,<-Array.length_toList,hcl];omega) (λv hv=>h1 v (cC hv))
 have hl1:(dJ cur.toList ((i+1) * 5) (us.drop (i * 5))).length=cap * 5:=by rw[hJ (by rw[hdl,hcl];omega),hcl]
 generalize dJ cur.toList ((i+1) * 5) (us.drop (i * 5))=C1 at hcp1 hfin hl1
 have hg1:(w.drew.setRow g C1.toArray).heap[g]?=some (.cells C1.toArray 68 (0,0)):=setRow_heap w.drew g cur _ 68 (0,0) hg;have hv1:(w.drew.setRow g C1.toArray).heap[vb]?=some (.cells cv te (0,0)):=(setRow_other w.drew g vb _ hne).trans hvb;have hes1:=iA hv1 hcv;have hcp2:∀ (W:World),W=w.drew.setRow g C1.toArray->∀ ty dc,(Builtin.copy_ #[29,29] ty #[.slice (some ⟨g,i * 5,none⟩) (n+1-i) dc,.slice (some ⟨vb,0,none⟩) 1 vc]).run prog W=.ok (goInt (Nat.min 1 (n+1-i):Nat)) (W.setRow g (dJ C1 (i * 5) es).toArray):=λW hW ty dc=>by
  subst hW;exact fB _ 29 29 ty 68 g (i * 5) (n+1-i) dc ⟨vb,0,none⟩ 1 vc C1.toArray 68 es 5 underlying29 hsz hg1 (by rw[hel];show 5=min 1 (n+1-i) * 5;rw[Nat.min_eq_left (by omega)]) hes1 (by rw[hel,cR,hl1];omega) h1e
 have hl2:(dJ C1 (i * 5) es).length=cap * 5:=by rw[hJ (by rw[hel,hl1];omega),hl1]
 have mixed:prog.follows .mixedOrders=true:=by kernel_rfl
 have hz1:¬ ((i:Int)=(n:Int)):=by omega
 have hz2:¬ ((cap:Int) < (n:Int)+1):=by omega
 have hw1:IntKind.i64.wrap ((i:Int)+1)=(i:Int)+1:=by rw[IntKind.wrap_i64];omega
 have hb1:(0:Int)<=(i:Int)+1:=by omega
 have hb2:¬ (cap=i+1):=by omega
 have hb3:(i:Int)<=(n:Int)+1:=by omega
 have hb4:¬ (cap=i):=by omega
 have hin:i<=n:=by omega
 have htn:((i:Int)+1).toNat=i+1:=by omega
 have htn2:((n:Int)+1).toNat=n+1:=by omega
 clear hus hj5 hs5
 go_enter func83,ntmps83
 go_wp2_with (simp only[hov])
 go_region_law_o (refine jF rfl _ _ 29 29 rfl _ _ (by simp[Act.eval,Act.put]) (by simp[Act.eval,Act.put]) (hcp1 _ _ _) ?_)
 go_wp2_with (at_builtin;refine hI rfl _ _ 29 29 rfl _ _ rfl rfl (hcp2 _ rfl _ _) ?_)
 go_ret
 have hg2:=setRow_heap (w.drew.setRow g C1.toArray) g C1.toArray (dJ C1 (i * 5) es).toArray 68 (0,0) hg1;refine⟨rfl,⟨?_,.inr ⟨g,cap,_,rfl,bX _,hg2,hroom,hcm,by rw[cR,hl2],?_⟩⟩,rfl,rfl,rfl,by simp,λb hb=>?_⟩
 ·simp only[aW,bA,hul,hel,hdl];omega
 ·exact hfin
 ·exact(setRow_other _ _ _ _ hb).trans (setRow_other w.drew g b _ hb)
set_option maxRecDepth 100000 in
set_option maxHeartbeats 4000000 in
theorem aGX (g n i:Nat)(us es:List Value)(vb vc:Nat)(cv:Array Value)(te:TypeId)(w:World)(hrow:w.ownsRow 0 68 5 (.slice (some ⟨g,0,none⟩) n n) n us)(hi:i < n)(hn:n<=100)(hel:es.length=5)
  (hvb:w.heap[vb]?=some (.cells cv te (0,0))) (hcv:cv.toList.take 5=es) (h1:∀ x∈us,x.oneCell'=true) (h1e:∀ x∈es,x.oneCell'=true) :
  Calls prog 83 #[.slice (some ⟨g,0,none⟩) n n,.int .i64 i,.slice (some ⟨vb,0,none⟩) 1 vc] w λe W=>∃ u,e=.returned u/\W.ownsRow 0 68 5 u (n+1) (us.take (i * 5)++es++us.drop (i * 5))/\Kept (λb=>w.heap.size<=b) w W/\u.ownBlock=some w.heap.size:=by
 obtain⟨i0,z,hi0,hz,hz1,hz2,hz3⟩:=yY;obtain⟨cur,hg,hcs,_,hnc,hcm,hus⟩:=fQ hrow;have hul:us.length=n * 5:=hrow.1;have hgw:g < w.heap.size:=(aL.1 hg).1;have hvw:vb < w.heap.size:=(aL.1 hvb).1;have hsz:(prog.info? 68).map (·.size)=some 5:=by rw[hi0];simp[hz2]
 have hi5:i * 5<=n * 5:=aQ 5 (by omega);have hs5:(n+1) * 5=n * 5+5:=eQ n 5;have hj5:(i+1) * 5=i * 5+5:=eQ i 5;have hdl:(us.drop (i * 5)).length=(n-i) * 5:=by rw[bL,hul,<-Nat.sub_mul]
 have hdl2:(n-i) * 5=n * 5-i * 5:=Nat.sub_mul ..
 have hcell:∀ k u,us[k]?=some u->w.cell? ⟨g,k,none⟩=some u:=λk u h=>by
  refine(cell_of_row _ _ _ _ 68 (0,0) hg).trans ?_;rw[hus,bK]at h;split at h
  ·rw[<-Array.getElem?_toList];exact h
  ·cases h
 have hold:(Builtin.firstCells i0.size i (.slice (some ⟨g,0,none⟩) i n)).run prog w.drew=.ok (us.take (i * 5)).toArray w.drew:=by
  rw[hz2];exact run_firstCells_some w.drew 5 i ⟨g,0,none⟩ i n (us.take (i * 5)) (by rw[bA];omega) (λj v hj=>by
   rw[Addr.add_lit,cX];rw[bK]at hj;split at hj
   ·exact hcell j v hj
   ·cases hj)
 have hik:i+(n+1-i)=n+1:=by omega
 have hkk:(n:Int)+1-(i:Int)=((n+1-i:Nat):Int):=by omega
 have hrz:∀ ty,(Builtin.append_ #[29,3] ty #[.slice (some ⟨g,0,none⟩) i n,.int .i64 ((n:Int)+1-(i:Int))]).run prog w=
   .ok (.slice (some ⟨w.heap.size,0,none⟩) (n+1) (grownCap w (n+1) n 68)) (w.drew.alloc (.cells ((us.take (i * 5)).toArray++Builtin.zeroCells z.cells (n+1-i)++Builtin.zeroCells z.cells (grownCap w (n+1) n 68-(n+1))) 68)):=λty=>by
  have h:=Lib.run_append_grow_zeros w 29 3 ty 68 i0 z .i64 .i64 underlying29 underlying3 hi0 hz (some ⟨g,0,none⟩) i n (us.take (i * 5)) hold (n+1-i) (by omega) (by omega) (by omega) (by omega) (by rw[hz3];omega) (by rw[hz3,hik];exact growslice_fits (by omega) (by omega));rw[hik]at h;rw[hkk];exact h
 have hzl:∀ k,(Builtin.zeroCells z.cells k).toList.length=k * 5:=λk=>by simp[Builtin.zeroCells,hz1]
 have hGn:n+1<=grownCap w (n+1) n 68:=grownCap_ge w _ _ _;have hGm:grownCap w (n+1) n 68<=maxLen:=grownCap_le_maxLen w (n+1) n 68 (by unfold maxLen;omega)
 generalize grownCap w (n+1) n 68=G at hrz hGn hGm
 have hROW:((us.take (i * 5)).toArray++Builtin.zeroCells z.cells (n+1-i)++Builtin.zeroCells z.cells (G-(n+1))).toList=us.take (i * 5)++((Builtin.zeroCells z.cells (n+1-i)).toList++(Builtin.zeroCells z.cells (G-(n+1))).toList):=by simp
 have htl:(us.take (i * 5)).length=i * 5:=by rw[bA];omega
 have hZl:((Builtin.zeroCells z.cells (n+1-i)).toList++(Builtin.zeroCells z.cells (G-(n+1))).toList).length=G * 5-i * 5:=by
  rw[aW,hzl,hzl,<-eZ,<-Nat.sub_mul];congr 1;omega
 have hG5:(n+1) * 5<=G * 5:=aQ 5 hGn
 generalize (us.take (i * 5)).toArray++Builtin.zeroCells z.cells (n+1-i)++Builtin.zeroCells z.cells (G-(n+1))=ROW at hrz hROW
 generalize (Builtin.zeroCells z.cells (n+1-i)).toList++(Builtin.zeroCells z.cells (G-(n+1))).toList=Z at hROW hZl
 have hRl:ROW.toList.length=G * 5:=by rw[hROW,aW,htl,hZl];omega
 have hRs:ROW.size=G * 5:=by rw[<-Array.length_toList,hRl]
 have hfin:=wA (A:=us.take (i * 5)) (Z:=Z) (es:=es) (D:=us.drop (i * 5)) (K:=5) (n:=n) (i:=i) htl (by rw[hdl,hdl2]) (by omega) hel (by omega);rw[<-hROW]at hfin;obtain⟨W1,hW1⟩:∃ W1,W1=w.drew.alloc (.cells ROW 68):=⟨_,rfl⟩
 have hs1:W1.heap.size=w.heap.size+1:=by rw[hW1];simp
 have hN1:W1.heap[w.heap.size]?=some (.cells ROW 68 (0,0)):=by rw[hW1];exact World.alloc_heap_new w.drew _
 have hold1:∀ b,b < w.heap.size->W1.heap[b]?=w.heap[b]?:=λb hb=>by rw[hW1];exact heap_alloc_old w.drew _ hb
 rw[<-hW1]at hrz;have hv1:=(hold1 vb hvw).trans hvb;have hes1:=iA hv1 hcv;have hcp1:∀ ty dc,(Builtin.copy_ #[29,29] ty #[.slice (some ⟨w.heap.size,i * 5,none⟩) (n+1-i) dc,.slice (some ⟨vb,0,none⟩) 1 vc]).run prog W1=.ok (goInt (Nat.min 1 (n+1-i):Nat)) (W1.setRow w.heap.size (dJ ROW.toList (i * 5) es).toArray):=λty dc=>
  fB _ 29 29 ty 68 w.heap.size (i * 5) (n+1-i) dc ⟨vb,0,none⟩ 1 vc ROW 68 es 5 underlying29 hsz hN1 (by rw[hel];show 5=min 1 (n+1-i) * 5;rw[Nat.min_eq_left (by omega)]) hes1 (by rw[hel,hRs];omega) h1e
 have hl1:(dJ ROW.toList (i * 5) es).length=G * 5:=by rw[hJ (by rw[hel,hRl];omega),hRl]
 generalize dJ ROW.toList (i * 5) es=C1 at hcp1 hl1 hfin
 have hos1:W1.os=w.os/\W1.tape=w.tape/\W1.output=w.output:=by rw[hW1];exact⟨rfl,rfl,rfl⟩
 obtain⟨W2,hW2⟩:∃ W2,W2=W1.setRow w.heap.size C1.toArray:=⟨_,rfl⟩
 have hN2:W2.heap[w.heap.size]?=some (.cells C1.toArray 68 (0,0)):=by rw[hW2];exact setRow_heap W1 _ ROW _ 68 (0,0) hN1
 have hos2:W2.os=w.os/\W2.tape=w.tape/\W2.output=w.output:=by rw[hW2];exact hos1
 have hs2:W2.heap.size=w.heap.size+1:=by rw[hW2];simp[hs1]
 have hold2:∀ b,b < w.heap.size->W2.heap[b]?=w.heap[b]?:=λb hb=>by rw[hW2];exact(setRow_other W1 _ b _ (by omega)).trans (hold1 b hb)
 rw[<-hW2]at hcp1;have hcell2:∀ j u,(us.drop (i * 5))[j]?=some u->W2.drew.cell? ((⟨g,i * 5,none⟩:Addr).add j)=some u:=λj u h=>by
  rw[Addr.add_lit];rw[cL]at h;have h2:=hcell _ _ h;rw[World.cell?_of_block (show W2.drew.heap[g]?=w.heap[g]? from hold2 g hgw)];exact h2
 have hcp2:∀ ty dc sc,(Builtin.copy_ #[29,29] ty #[.slice (some ⟨w.heap.size,(i+1) * 5,none⟩) (n-i) dc,.slice (some ⟨g,i * 5,none⟩) (n-i) sc]).run prog W2.drew=.ok (goInt (Nat.min (n-i) (n-i):Nat)) (W2.drew.setRow w.heap.size (dJ C1 ((i+1) * 5) (us.drop (i * 5))).toArray):=λty dc sc=>
  fB W2.drew 29 29 ty 68 w.heap.size ((i+1) * 5) (n-i) dc ⟨g,i * 5,none⟩ (n-i) sc C1.toArray 68 _ 5 underlying29 hsz hN2 (by rw[hdl];congr 1;simp only[Nat.min_def];split<;>omega) hcell2 (by rw[hdl,cR,hl1];omega) (λv hv=>h1 v (cC hv))
 have hl2:(dJ C1 ((i+1) * 5) (us.drop (i * 5))).length=G * 5:=by rw[hJ (by rw[hdl,hl1];omega),hl1]
 have mixed:prog.follows .mixedOrders=true:=by kernel_rfl
 have hy1:¬ ((i:Int)=(n:Int)):=by omega
 have hy2:((n:Int) < (n:Int)+1):=by omega
 have hw1:IntKind.i64.wrap ((i:Int)+1)=(i:Int)+1:=by rw[IntKind.wrap_i64];omega
 have hb1:(0:Int)<=(i:Int)+1:=by omega
 have hin:i<=n:=by omega
 have htn:((i:Int)+1).toNat=i+1:=by omega
 have hb3:(i:Int)<=(n:Int):=by omega
 have hG63:G<=9223372036854775807:=by unfold maxLen at hGm;omega
 have hGi:¬ (G=i):=by omega
 have hGim:¬ (G=i+1):=by omega
 have hci:¬ (n=i):=by omega
 clear hkk hik hold hROW hus hj5 hs5 hW1 hW2
 go_enter func83,ntmps83
 go_wp2_with (first
  | (at_builtin;refine kU rfl _ _ 29 3 rfl _ _ rfl rfl (hrz _) ?_)
  | (at_builtin;refine hI rfl _ _ 29 29 rfl _ _ rfl rfl (hcp1 _ _) ?_))
 go_region_law_o (refine jF rfl _ _ 29 29 rfl _ _ (by simp[Act.eval,Act.put]) (by simp[Act.eval,Act.put]) (hcp2 _ _ _) ?_)
 go_wp2
 go_ret
 have hN3:=setRow_heap W2.drew w.heap.size C1.toArray (dJ C1 ((i+1) * 5) (us.drop (i * 5))).toArray 68 (0,0) hN2;refine⟨_,rfl,⟨?_,.inr ⟨w.heap.size,G,_,rfl,bX _,hN3,hGn,hGm,by rw[cR,hl2],?_⟩⟩,⟨?_,?_,?_,by simp[hs2],λb hb=>?_⟩,rfl⟩
 ·simp only[aW,bA,hul,hel,hdl];omega
 ·exact hfin
 ·exact hos2.1
 ·exact hos2.2.1
 ·exact hos2.2.2
 ·exact(setRow_other W2.drew _ b _ (by omega)).trans (hold2 b (by omega))
end
theorem aRH (v:Value)(n i:Nat)(us es:List Value)(vb vc:Nat)(cv:Array Value)(te:TypeId)(w:World)(hrow:w.ownsRow 0 68 5 v n us)(hi:i<=n)(hn:n<=100)(hel:es.length=5)
  (hvb:w.heap[vb]?=some (.cells cv te (0,0))) (hcv:cv.toList.take 5=es) (hne:v.ownBlock≠some vb) (h1:∀ x∈us,x.oneCell'=true) (h1e:∀ x∈es,x.oneCell'=true) :
  Calls prog 83 #[v,.int .i64 i,.slice (some ⟨vb,0,none⟩) 1 vc] w λe W=>∃ u,e=.returned u/\W.ownsRow 0 68 5 u (n+1) (us.take (i * 5)++es++us.drop (i * 5))/\Kept (λb=>w.heap.size<=b\/v.ownBlock=some b) w W/\∀ b,u.ownBlock=some b->(w.heap.size<=b\/v.ownBlock=some b)/\b < W.heap.size:=by
 have hul:us.length=n * 5:=hrow.1;have hlt:∀ (W:World) (u:Value) (m:Nat) (xs:List Value),W.ownsRow 0 68 5 u m xs->∀ b,u.ownBlock=some b->b < W.heap.size:=λW u m xs h b hb=>by
  rcases h.2 with⟨rfl,_⟩ | ⟨g,cap,cur,rfl,_,hg,_⟩
  ·cases hb
  ·cases hb;exact(aL.1 hg).1
 by_cases he:i=n
 ·subst he;refine(aIr v i us es vb vc cv te w hrow hn hel hvb hcv h1e).mono ?_;rintro e W ⟨u,rfl,h2,h3,h4⟩;refine⟨u,rfl,by rw[cT (by omega),List.drop_of_length_le (by omega),dR];exact h2,⟨h3.os,h3.tape,h3.output,h3.size,λk hk=>?_⟩,λb hb=>⟨?_,hlt _ _ _ _ h2 b hb⟩⟩
  ·rcases eR k w.heap.size with h | h
   ·exact h3.block k h (λh=>hk (.inr h.symm))
   ·exact absurd (.inl h) hk
  ·rcases h4 with h4 | h4
   ·exact .inr (h4.symm.trans hb)
   ·rw[h4]at hb;cases hb;exact .inl (aK _)
 ·rcases hrow.2 with⟨rfl,h0⟩ | ⟨g,cap,cur,rfl,h0,hg,hnc,hcm,hcs,htk⟩
  ·omega
  ·by_cases hr:n+1<=cap
   ·refine(aGU g n i cap us es vb vc cv te w hrow (by omega) hr hn hel hvb hcv (λh=>hne (by rw[h];rfl)) h1 h1e).mono ?_;rintro e W ⟨rfl,h2,h3⟩;exact⟨_,rfl,h2,⟨h3.os,h3.tape,h3.output,h3.size,λk hk=>h3.block k λh=>hk (.inr (by rw[h];rfl))⟩,λb hb=>⟨.inr hb,hlt _ _ _ _ h2 b hb⟩⟩
   ·obtain rfl:cap=n:=by omega
    refine(aGX g cap i us es vb vc cv te w hrow (by omega) hn hel hvb hcv h1 h1e).mono ?_;rintro e W ⟨u,rfl,h2,h3,h4⟩;exact⟨_,rfl,h2,⟨h3.os,h3.tape,h3.output,h3.size,λk hk=>h3.block k λh=>hk (.inl h)⟩,λb hb=>⟨.inl (by rw[h4]at hb;cases hb;exact aK _),hlt _ _ _ _ h2 b hb⟩⟩
theorem aMW:(prog.info? 76).map (λi=>(i.zero.isSome,(i.zero.getD .nilFunc).cells.size,i.size,i.bytes))=some (true,4,4,48):=by kernel_rfl
theorem rZ:∃ i z,prog.info? 76=some i/\i.zero=some z/\z.cells.size=4/\i.size=4/\i.bytes=48:=by
 have h:=aMW;obtain⟨i,hi,h⟩:=lL.1 h;simp only[aY]at h;obtain⟨h1,h2,h3,h4⟩:=h;obtain⟨z,hz⟩:=cH.1 h1;rw[hz]at h2;exact⟨i,z,hi,hz,h2,h3,h4⟩
theorem aMi (w:World):(zeroValue 76).run prog w=.ok (.agg #[.int .i64 0,.int .i64 0,.int .i64 0,.slice none 0 0]) w:=by kernel_rfl
section
attribute [local go_sem] Oper.semAt_some
set_option maxRecDepth 100000 in
set_option maxHeartbeats 4000000 in
theorem aSp (g i n cap:Nat)(us:List Value)(w:World)(hrow:w.ownsRow 0 76 4 (.slice (some ⟨g,0,none⟩) n cap) n us)(hi:i < n)(hn:n<=100)(h1:∀ x∈us,x.oneCell'=true) :
  Calls prog 91 #[.slice (some ⟨g,0,none⟩) n cap,.int .i64 i,.int .i64 ((i:Int)+1)] w λe W=>e=.returned (.slice (some ⟨g,0,none⟩) (n-1) cap) ∧
   W.ownsRow 0 76 4 (.slice (some ⟨g,0,none⟩) (n-1) cap) (n-1) (us.take (i * 4)++us.drop ((i+1) * 4))/\Kept (λb=>b=g) w W:=by
 obtain⟨i0,z,hi0,hz,hz1,hz2,hz3⟩:=rZ;obtain⟨cur,hg,hcs,_,hnc,hcm,hus⟩:=fQ hrow;have hul:us.length=n * 4:=hrow.1;have hnc5:n * 4<=cur.size:=by rw[hcs];exact aQ 4 hnc
 obtain⟨A,hA,hAs⟩:∃ A,(if cap=i+1 then some (⟨g,0,none⟩:Addr)else some ⟨g,(i+1) * 4,none⟩)=some A/\∀ (j:Nat) u,(us.drop ((i+1) * 4))[j]?=some u->w.drew.cell? (A.add j)=some u:=by
  have hcell:∀ k u,us[k]?=some u->w.drew.cell? ⟨g,k,none⟩=some u:=λk u h=>by
   have hg':w.drew.heap[g]?=some (.cells cur 76 (0,0)):=hg;refine(cell_of_row _ _ _ _ 76 (0,0) hg').trans ?_;rw[hus,bK]at h;split at h
   ·rw[<-Array.getElem?_toList];exact h
   ·cases h
  by_cases hc:cap=i+1
  ·refine⟨_,if_pos hc,λj u h=>?_⟩;have:us.length<=(i+1) * 4:=by rw[hul];exact aQ 4 (by omega)
   rw[cM this]at h;simp at h
  ·refine⟨_,if_neg hc,λj u h=>?_⟩;rw[Addr.add_lit];rw[cL]at h;exact hcell _ _ h
 have hdl:(us.drop ((i+1) * 4)).length=(n-(i+1)) * 4:=by rw[bL,hul,<-Nat.sub_mul]
 have hr1:∀ ty c',(Builtin.append_ #[30,30] ty #[.slice (some ⟨g,0,none⟩) i cap,.slice (some A) (n-(i+1)) c']).run prog w.drew=.ok (.slice (some ⟨g,0,none⟩) (i+(n-(i+1))) cap) (w.drew.setRow g (dJ cur.toList (i * 4) (us.drop ((i+1) * 4))).toArray):=λty c'=>
  lP w.drew 30 ty 76 i0 4 underlying30 hi0 hz2 g i cap (n-(i+1)) c' A cur 76 hg _ hdl hAs (λu hu=>h1 u (cC hu)) (by omega) (by rw[hdl];omega)
 have mixed:prog.follows .mixedOrders=true:=by kernel_rfl
 have hic:i<=cap:=by omega
 have hm0:(0:Int)<=(i:Int)+1:=by omega
 have hm1:(i:Int)+1<=(n:Int):=by omega
 have ht1:((i:Int)+1).toNat=i+1:=by omega
 have hlen:i+(n-(i+1))=n-1:=by omega
 rw[hlen]at hr1;have hpl:(dJ cur.toList (i * 4) (us.drop ((i+1) * 4))).length=cap * 4:=by
  unfold dJ;have:cur.toList.length=cap * 4:=by rw[Array.length_toList,hcs]
  simp only[aW,bA,bL,this,hdl,hul];have:i * 4+(n-(i+1)) * 4<=cap * 4:=by rw[<-eZ];exact aQ 4 (by omega)
  omega
 have hfin:(dJ cur.toList (i * 4) (us.drop ((i+1) * 4))).take ((n-1) * 4)=us.take (i * 4)++us.drop ((i+1) * 4):=by
  unfold dJ;have e1:us.take (i * 4)=cur.toList.take (i * 4):=by rw[hus,List.take_take,Nat.min_eq_left (by omega)]
  have e2:((cur.toList.take (i * 4))++us.drop ((i+1) * 4)).length=(n-1) * 4:=by
   have:cur.toList.length=cap * 4:=by rw[Array.length_toList,hcs]
   simp only[aW,bA,hdl,this];have:i * 4<=cap * 4:=aQ 4 (by omega);rw[Nat.min_eq_left this,<-eZ,hlen]
  rw[e1,cP (by rw[e2];exact aK _),cT (by rw[e2];exact aK _)]
 generalize dJ cur.toList (i * 4) (us.drop ((i+1) * 4))=C1 at hr1 hpl hfin
 have hg1:(w.drew.setRow g C1.toArray).heap[g]?=some (.cells C1.toArray 76 (0,0)):=setRow_heap w.drew g cur _ 76 (0,0) hg;have hr2:∀ ty c',(Builtin.clear_ #[30] ty #[.slice (some ⟨g,(n-1) * 4,none⟩) (n-(n-1)) c']).run prog (w.drew.setRow g C1.toArray)=.ok (.tuple #[]) ((w.drew.setRow g C1.toArray).setRow g (dJ C1 ((n-1) * 4) [.int .i64 0,.int .i64 0,.int .i64 0,.slice none 0 0]).toArray):=λty c'=>
  tK _ 30 ty 76 _ aMi underlying30 g ((n-1) * 4) (n-(n-1)) c' (by omega) C1.toArray 76 hg1 _ (by rw[show n-(n-1)=1 by omega];simp[Builtin.zeroCells,Value.cells]<;>rfl) (by simp[Value.oneCell']) (by
   simp only[cR,hpl,cB,dQ];have:(n-1) * 4+4<=cap * 4:=by
    have:=aQ 4 (show n-1+1<=cap by omega);omega
   omega)
 have hn1:n-1<=n:=by omega
 have hn2:n<=cap:=hnc;have hn3:¬ (cap=n-1):=by omega
 clear hus
 go_enter func91,ntmps91
 go_wp2
 go_region_law_o (refine mE rfl _ _ 30 30 rfl _ _ (by simp[Act.eval,Act.put]) (by simp[Act.eval,Act.put];rfl) (hr1 _ _) ?_)
 go_wp2_with (at_builtin;refine lM rfl _ 30 rfl _ rfl (hr2 _ _) ?_)
 go_ret
 have hg2:=setRow_heap (w.drew.setRow g C1.toArray) g C1.toArray (dJ C1 ((n-1) * 4) [.int .i64 0,.int .i64 0,.int .i64 0,.slice none 0 0]).toArray 76 (0,0) hg1;refine⟨rfl,⟨?_,.inr ⟨g,cap,_,rfl,bX _,hg2,by omega,hcm,?_,?_⟩⟩,rfl,rfl,rfl,by simp,λb hb=>?_⟩
 ·rw[<-hfin,bA,hpl];have:=aQ 4 (show n-1<=cap by omega);omega
 ·unfold dJ;have:=aQ 4 (show n-1+1<=cap by omega);simp only[cR,aW,bA,bL,hpl,cB,dQ];omega
 ·have:=aQ 4 (show n-1<=cap by omega);unfold dJ;rw[dB,cP (by rw[bA,hpl];omega),List.take_take,Nat.min_self,hfin]
 ·exact(setRow_other _ _ _ _ hb).trans (setRow_other w.drew g b _ hb)
end
section
attribute [local go_sem] Oper.semAt_some
set_option maxRecDepth 100000 in
set_option maxHeartbeats 4000000 in
theorem aIq (v:Value)(n:Nat)(us es:List Value)(vb vc:Nat)(cv:Array Value)(te:TypeId)(w:World)(hrow:w.ownsRow 0 76 4 v n us)(hn:n<=100)(hel:es.length=4)(hvb:w.heap[vb]?=some (.cells cv te (0,0)))(hcv:cv.toList.take 4=es)(h1e:∀ x∈es,x.oneCell'=true) :
  Calls prog 90 #[v,.int .i64 n,.slice (some ⟨vb,0,none⟩) 1 vc] w λe W=>∃ u,e=.returned u/\W.ownsRow 0 76 4 u (n+1) (us++es)/\w.grownBy W v.ownBlock/\(u.ownBlock=v.ownBlock\/u.ownBlock=some w.heap.size):=by
 obtain⟨i0,z,hi0,hz,hz1,hz2,hz3⟩:=rZ;have hes:=iA hvb hcv;rcases hrow.2 with⟨rfl,h0⟩ | ⟨g,cap,cur,rfl,_,hg,hnc,hcm,hcs,htk⟩
 ·subst h0
  go_enter func90,ntmps90
  go_wp2_with (at_builtin;refine wpList_append_own_at _ rfl _ _ 30 rfl 0 76 i0 z 4 48 underlying30 hi0 hz hz2 hz3 hz1 (by decide) _ _ us rfl hrow ⟨vb,0,none⟩ 1 vc es rfl (by rw[hel]) hes h1e (by unfold maxLen;omega) (by omega) (bX _) ?_;intro v' w1 hown' hgrow hnil hloc)
  go_ret
  exact⟨_,rfl,hown',hgrow,hloc⟩
 ·go_enter func90,ntmps90
  go_wp2_with (at_builtin;refine wpList_append_own_at _ rfl _ _ 30 rfl 0 76 i0 z 4 48 underlying30 hi0 hz hz2 hz3 hz1 (by decide) _ _ us rfl hrow ⟨vb,0,none⟩ 1 vc es rfl (by rw[hel]) hes h1e (by unfold maxLen;omega) (by omega) (bX _) ?_;intro v' w1 hown' hgrow hnil hloc)
  all_goals (go_ret;exact⟨_,rfl,hown',hgrow,hloc⟩)
set_option maxRecDepth 100000 in
set_option maxHeartbeats 4000000 in
theorem aGT (g n i cap:Nat)(us es:List Value)(vb vc:Nat)(cv:Array Value)(te:TypeId)(w:World)(hrow:w.ownsRow 0 76 4 (.slice (some ⟨g,0,none⟩) n cap) n us)(hi:i < n)(hroom:n+1<=cap)(hn:n<=100)(hel:es.length=4)
  (hvb:w.heap[vb]?=some (.cells cv te (0,0))) (hcv:cv.toList.take 4=es) (hne:vb≠g) (h1:∀ x∈us,x.oneCell'=true) (h1e:∀ x∈es,x.oneCell'=true) :
  Calls prog 90 #[.slice (some ⟨g,0,none⟩) n cap,.int .i64 i,.slice (some ⟨vb,0,none⟩) 1 vc] w λe W=>e=.returned (.slice (some ⟨g,0,none⟩) (n+1) cap)/\W.ownsRow 0 76 4 (.slice (some ⟨g,0,none⟩) (n+1) cap) (n+1) (us.take (i * 4)++es++us.drop (i * 4)) ∧
   Kept (λb=>b=g) w W:=by
 obtain⟨i0,z,hi0,hz,hz1,hz2,hz3⟩:=rZ;obtain⟨cur,hg,hcs,_,hnc,hcm,hus⟩:=fQ hrow;have hul:us.length=n * 4:=hrow.1;have hes:=iA hvb hcv;have hsz:(prog.info? 76).map (·.size)=some 4:=by rw[hi0];simp[hz2]
 have hcl:cur.toList.length=cap * 4:=by rw[Array.length_toList,hcs]
 have hr5:(n+1) * 4<=cap * 4:=aQ 4 hroom;have hi5:i * 4<=n * 4:=aQ 4 (by omega);have hs5:(n+1) * 4=n * 4+4:=eQ n 4;have hj5:(i+1) * 4=i * 4+4:=eQ i 4;have hdl:(us.drop (i * 4)).length=(n-i) * 4:=by rw[bL,hul,<-Nat.sub_mul]
 have hdl2:(n-i) * 4=n * 4-i * 4:=Nat.sub_mul ..
 have hfin:=wE (cur:=cur.toList) (us:=us) (es:=es) (K:=4) (n:=n) (i:=i) hus (by omega) (by omega) hel;have hov:∀ lb cb,(callFunc 105 #[.slice (some ⟨vb,0,none⟩) 1 vc,.slice (some ⟨g,(i+1) * 4,none⟩) lb cb]).run prog w=.ok (.value (.bool false)) w:=λlb cb=>by
  rw[run_callFunc_extern func105 (by kernel_rfl) (by kernel_rfl) (by kernel_rfl) (e:=Extern.SlicesOverlaps.overlaps #[30,30] #[4]) (by kernel_rfl),
   Lib.run_overlaps_apart w 30 4 76 underlying30 4 (λw=>by kernel_rfl) ⟨vb,0,none⟩ ⟨g,(i+1) * 4,none⟩ 1 vc lb cb hne te 76 cv.size cur.size (by simp[World.shape?,hvb]) (by simp[World.shape?,hg]) (by omega) (frozen_of_row _ _ _ _ te hvb) (frozen_of_row _ _ _ _ te hvb)]
  rfl
 have hsrc:∀ j u,(us.drop (i * 4))[j]?=some u->w.drew.cell? ((⟨g,i * 4,none⟩:Addr).add j)=some u:=λj u h=>by
  rw[Addr.add_lit];have hg':w.drew.heap[g]?=some (.cells cur 76 (0,0)):=hg;refine(cell_of_row _ _ _ _ 76 (0,0) hg').trans ?_;rw[cL,hus,bK]at h;split at h
  ·rw[<-Array.getElem?_toList];exact h
  ·cases h
 have hcp1:∀ ty dc sc,(Builtin.copy_ #[30,30] ty #[.slice (some ⟨g,(i+1) * 4,none⟩) (n-i) dc,.slice (some ⟨g,i * 4,none⟩) (n+1-i) sc]).run prog w.drew=.ok (goInt (Nat.min (n+1-i) (n-i):Nat)) (w.drew.setRow g (dJ cur.toList ((i+1) * 4) (us.drop (i * 4))).toArray):=λty dc sc=>
  fB w.drew 30 30 ty 76 g ((i+1) * 4) (n-i) dc ⟨g,i * 4,none⟩ (n+1-i) sc cur 76 _ 4 underlying30 hsz hg (by rw[hdl];congr 1;simp only[Nat.min_def];split<;>omega) hsrc (by rw[hdl,<-Array.length_toList,hcl];omega) (λv hv=>h1 v (cC hv))
 have hl1:(dJ cur.toList ((i+1) * 4) (us.drop (i * 4))).length=cap * 4:=by rw[hJ (by rw[hdl,hcl];omega),hcl]
 generalize dJ cur.toList ((i+1) * 4) (us.drop (i * 4))=C1 at hcp1 hfin hl1
 have hg1:(w.drew.setRow g C1.toArray).heap[g]?=some (.cells C1.toArray 76 (0,0)):=setRow_heap w.drew g cur _ 76 (0,0) hg;have hv1:(w.drew.setRow g C1.toArray).heap[vb]?=some (.cells cv te (0,0)):=(setRow_other w.drew g vb _ hne).trans hvb;have hes1:=iA hv1 hcv;have hcp2:∀ (W:World),W=w.drew.setRow g C1.toArray->∀ ty dc,(Builtin.copy_ #[30,30] ty #[.slice (some ⟨g,i * 4,none⟩) (n+1-i) dc,.slice (some ⟨vb,0,none⟩) 1 vc]).run prog W=.ok (goInt (Nat.min 1 (n+1-i):Nat)) (W.setRow g (dJ C1 (i * 4) es).toArray):=λW hW ty dc=>by
  subst hW;exact fB _ 30 30 ty 76 g (i * 4) (n+1-i) dc ⟨vb,0,none⟩ 1 vc C1.toArray 76 es 4 underlying30 hsz hg1 (by rw[hel];show 4=min 1 (n+1-i) * 4;rw[Nat.min_eq_left (by omega)]) hes1 (by rw[hel,cR,hl1];omega) h1e
 have hl2:(dJ C1 (i * 4) es).length=cap * 4:=by rw[hJ (by rw[hel,hl1];omega),hl1]
 have mixed:prog.follows .mixedOrders=true:=by kernel_rfl
 have hz1:¬ ((i:Int)=(n:Int)):=by omega
 have hz2:¬ ((cap:Int) < (n:Int)+1):=by omega
 have hw1:IntKind.i64.wrap ((i:Int)+1)=(i:Int)+1:=by rw[IntKind.wrap_i64];omega
 have hb1:(0:Int)<=(i:Int)+1:=by omega
 have hb2:¬ (cap=i+1):=by omega
 have hb3:(i:Int)<=(n:Int)+1:=by omega
 have hb4:¬ (cap=i):=by omega
 have hin:i<=n:=by omega
 have htn:((i:Int)+1).toNat=i+1:=by omega
 have htn2:((n:Int)+1).toNat=n+1:=by omega
 clear hus hj5 hs5
 go_enter func90,ntmps90
 go_wp2_with (simp only[hov])
 go_region_law_o (refine jF rfl _ _ 30 30 rfl _ _ (by simp[Act.eval,Act.put]) (by simp[Act.eval,Act.put]) (hcp1 _ _ _) ?_)
 go_wp2_with (at_builtin;refine hI rfl _ _ 30 30 rfl _ _ rfl rfl (hcp2 _ rfl _ _) ?_)
 go_ret
 have hg2:=setRow_heap (w.drew.setRow g C1.toArray) g C1.toArray (dJ C1 (i * 4) es).toArray 76 (0,0) hg1;refine⟨rfl,⟨?_,.inr ⟨g,cap,_,rfl,bX _,hg2,hroom,hcm,by rw[cR,hl2],?_⟩⟩,rfl,rfl,rfl,by simp,λb hb=>?_⟩
 ·simp only[aW,bA,hul,hel,hdl];omega
 ·exact hfin
 ·exact(setRow_other _ _ _ _ hb).trans (setRow_other w.drew g b _ hb)
set_option maxRecDepth 100000 in
set_option maxHeartbeats 4000000 in
theorem aGW (g n i:Nat)(us es:List Value)(vb vc:Nat)(cv:Array Value)(te:TypeId)(w:World)(hrow:w.ownsRow 0 76 4 (.slice (some ⟨g,0,none⟩) n n) n us)(hi:i < n)(hn:n<=100)(hel:es.length=4)
  (hvb:w.heap[vb]?=some (.cells cv te (0,0))) (hcv:cv.toList.take 4=es) (h1:∀ x∈us,x.oneCell'=true) (h1e:∀ x∈es,x.oneCell'=true) :
  Calls prog 90 #[.slice (some ⟨g,0,none⟩) n n,.int .i64 i,.slice (some ⟨vb,0,none⟩) 1 vc] w λe W=>∃ u,e=.returned u/\W.ownsRow 0 76 4 u (n+1) (us.take (i * 4)++es++us.drop (i * 4))/\Kept (λb=>w.heap.size<=b) w W/\u.ownBlock=some w.heap.size:=by
 obtain⟨i0,z,hi0,hz,hz1,hz2,hz3⟩:=rZ;obtain⟨cur,hg,hcs,_,hnc,hcm,hus⟩:=fQ hrow;have hul:us.length=n * 4:=hrow.1;have hgw:g < w.heap.size:=(aL.1 hg).1;have hvw:vb < w.heap.size:=(aL.1 hvb).1;have hsz:(prog.info? 76).map (·.size)=some 4:=by rw[hi0];simp[hz2]
 have hi5:i * 4<=n * 4:=aQ 4 (by omega);have hs5:(n+1) * 4=n * 4+4:=eQ n 4;have hj5:(i+1) * 4=i * 4+4:=eQ i 4;have hdl:(us.drop (i * 4)).length=(n-i) * 4:=by rw[bL,hul,<-Nat.sub_mul]
 have hdl2:(n-i) * 4=n * 4-i * 4:=Nat.sub_mul ..
 have hcell:∀ k u,us[k]?=some u->w.cell? ⟨g,k,none⟩=some u:=λk u h=>by
  refine(cell_of_row _ _ _ _ 76 (0,0) hg).trans ?_;rw[hus,bK]at h;split at h
  ·rw[<-Array.getElem?_toList];exact h
  ·cases h
 have hold:(Builtin.firstCells i0.size i (.slice (some ⟨g,0,none⟩) i n)).run prog w.drew=.ok (us.take (i * 4)).toArray w.drew:=by
  rw[hz2];exact run_firstCells_some w.drew 4 i ⟨g,0,none⟩ i n (us.take (i * 4)) (by rw[bA];omega) (λj v hj=>by
   rw[Addr.add_lit,cX];rw[bK]at hj;split at hj
   ·exact hcell j v hj
   ·cases hj)
 have hik:i+(n+1-i)=n+1:=by omega
 have hkk:(n:Int)+1-(i:Int)=((n+1-i:Nat):Int):=by omega
 have hrz:∀ ty,(Builtin.append_ #[30,3] ty #[.slice (some ⟨g,0,none⟩) i n,.int .i64 ((n:Int)+1-(i:Int))]).run prog w=
   .ok (.slice (some ⟨w.heap.size,0,none⟩) (n+1) (grownCap w (n+1) n 76)) (w.drew.alloc (.cells ((us.take (i * 4)).toArray++Builtin.zeroCells z.cells (n+1-i)++Builtin.zeroCells z.cells (grownCap w (n+1) n 76-(n+1))) 76)):=λty=>by
  have h:=Lib.run_append_grow_zeros w 30 3 ty 76 i0 z .i64 .i64 underlying30 underlying3 hi0 hz (some ⟨g,0,none⟩) i n (us.take (i * 4)) hold (n+1-i) (by omega) (by omega) (by omega) (by omega) (by rw[hz3];omega) (by rw[hz3,hik];exact growslice_fits (by omega) (by omega));rw[hik]at h;rw[hkk];exact h
 have hzl:∀ k,(Builtin.zeroCells z.cells k).toList.length=k * 4:=λk=>by simp[Builtin.zeroCells,hz1]
 have hGn:n+1<=grownCap w (n+1) n 76:=grownCap_ge w _ _ _;have hGm:grownCap w (n+1) n 76<=maxLen:=grownCap_le_maxLen w (n+1) n 76 (by unfold maxLen;omega)
 generalize grownCap w (n+1) n 76=G at hrz hGn hGm
 have hROW:((us.take (i * 4)).toArray++Builtin.zeroCells z.cells (n+1-i)++Builtin.zeroCells z.cells (G-(n+1))).toList=us.take (i * 4)++((Builtin.zeroCells z.cells (n+1-i)).toList++(Builtin.zeroCells z.cells (G-(n+1))).toList):=by simp
 have htl:(us.take (i * 4)).length=i * 4:=by rw[bA];omega
 have hZl:((Builtin.zeroCells z.cells (n+1-i)).toList++(Builtin.zeroCells z.cells (G-(n+1))).toList).length=G * 4-i * 4:=by
  rw[aW,hzl,hzl,<-eZ,<-Nat.sub_mul];congr 1;omega
 have hG5:(n+1) * 4<=G * 4:=aQ 4 hGn
 generalize (us.take (i * 4)).toArray++Builtin.zeroCells z.cells (n+1-i)++Builtin.zeroCells z.cells (G-(n+1))=ROW at hrz hROW
 generalize (Builtin.zeroCells z.cells (n+1-i)).toList++(Builtin.zeroCells z.cells (G-(n+1))).toList=Z at hROW hZl
 have hRl:ROW.toList.length=G * 4:=by rw[hROW,aW,htl,hZl];omega
 have hRs:ROW.size=G * 4:=by rw[<-Array.length_toList,hRl]
 have hfin:=wA (A:=us.take (i * 4)) (Z:=Z) (es:=es) (D:=us.drop (i * 4)) (K:=4) (n:=n) (i:=i) htl (by rw[hdl,hdl2]) (by omega) hel (by omega);rw[<-hROW]at hfin;obtain⟨W1,hW1⟩:∃ W1,W1=w.drew.alloc (.cells ROW 76):=⟨_,rfl⟩
 have hs1:W1.heap.size=w.heap.size+1:=by rw[hW1];simp
 have hN1:W1.heap[w.heap.size]?=some (.cells ROW 76 (0,0)):=by rw[hW1];exact World.alloc_heap_new w.drew _
 have hold1:∀ b,b < w.heap.size->W1.heap[b]?=w.heap[b]?:=λb hb=>by rw[hW1];exact heap_alloc_old w.drew _ hb
 rw[<-hW1]at hrz;have hv1:=(hold1 vb hvw).trans hvb;have hes1:=iA hv1 hcv;have hcp1:∀ ty dc,(Builtin.copy_ #[30,30] ty #[.slice (some ⟨w.heap.size,i * 4,none⟩) (n+1-i) dc,.slice (some ⟨vb,0,none⟩) 1 vc]).run prog W1=.ok (goInt (Nat.min 1 (n+1-i):Nat)) (W1.setRow w.heap.size (dJ ROW.toList (i * 4) es).toArray):=λty dc=>
  fB _ 30 30 ty 76 w.heap.size (i * 4) (n+1-i) dc ⟨vb,0,none⟩ 1 vc ROW 76 es 4 underlying30 hsz hN1 (by rw[hel];show 4=min 1 (n+1-i) * 4;rw[Nat.min_eq_left (by omega)]) hes1 (by rw[hel,hRs];omega) h1e
 have hl1:(dJ ROW.toList (i * 4) es).length=G * 4:=by rw[hJ (by rw[hel,hRl];omega),hRl]
 generalize dJ ROW.toList (i * 4) es=C1 at hcp1 hl1 hfin
 have hos1:W1.os=w.os/\W1.tape=w.tape/\W1.output=w.output:=by rw[hW1];exact⟨rfl,rfl,rfl⟩
 obtain⟨W2,hW2⟩:∃ W2,W2=W1.setRow w.heap.size C1.toArray:=⟨_,rfl⟩
 have hN2:W2.heap[w.heap.size]?=some (.cells C1.toArray 76 (0,0)):=by rw[hW2];exact setRow_heap W1 _ ROW _ 76 (0,0) hN1
 have hos2:W2.os=w.os/\W2.tape=w.tape/\W2.output=w.output:=by rw[hW2];exact hos1
 have hs2:W2.heap.size=w.heap.size+1:=by rw[hW2];simp[hs1]
 have hold2:∀ b,b < w.heap.size->W2.heap[b]?=w.heap[b]?:=λb hb=>by rw[hW2];exact(setRow_other W1 _ b _ (by omega)).trans (hold1 b hb)
 rw[<-hW2]at hcp1;have hcell2:∀ j u,(us.drop (i * 4))[j]?=some u->W2.drew.cell? ((⟨g,i * 4,none⟩:Addr).add j)=some u:=λj u h=>by
  rw[Addr.add_lit];rw[cL]at h;have h2:=hcell _ _ h;rw[World.cell?_of_block (show W2.drew.heap[g]?=w.heap[g]? from hold2 g hgw)];exact h2
 have hcp2:∀ ty dc sc,(Builtin.copy_ #[30,30] ty #[.slice (some ⟨w.heap.size,(i+1) * 4,none⟩) (n-i) dc,.slice (some ⟨g,i * 4,none⟩) (n-i) sc]).run prog W2.drew=.ok (goInt (Nat.min (n-i) (n-i):Nat)) (W2.drew.setRow w.heap.size (dJ C1 ((i+1) * 4) (us.drop (i * 4))).toArray):=λty dc sc=>
  fB W2.drew 30 30 ty 76 w.heap.size ((i+1) * 4) (n-i) dc ⟨g,i * 4,none⟩ (n-i) sc C1.toArray 76 _ 4 underlying30 hsz hN2 (by rw[hdl];congr 1;simp only[Nat.min_def];split<;>omega) hcell2 (by rw[hdl,cR,hl1];omega) (λv hv=>h1 v (cC hv))
 have hl2:(dJ C1 ((i+1) * 4) (us.drop (i * 4))).length=G * 4:=by rw[hJ (by rw[hdl,hl1];omega),hl1]
 have mixed:prog.follows .mixedOrders=true:=by kernel_rfl
 have hy1:¬ ((i:Int)=(n:Int)):=by omega
 have hy2:((n:Int) < (n:Int)+1):=by omega
 have hw1:IntKind.i64.wrap ((i:Int)+1)=(i:Int)+1:=by rw[IntKind.wrap_i64];omega
 have hb1:(0:Int)<=(i:Int)+1:=by omega
 have hin:i<=n:=by omega
 have htn:((i:Int)+1).toNat=i+1:=by omega
 have hb3:(i:Int)<=(n:Int):=by omega
 have hG63:G<=9223372036854775807:=by unfold maxLen at hGm;omega
 have hGi:¬ (G=i):=by omega
 have hGim:¬ (G=i+1):=by omega
 have hci:¬ (n=i):=by omega
 clear hkk hik hold hROW hus hj5 hs5 hW1 hW2
 go_enter func90,ntmps90
 go_wp2_with (first
  | (at_builtin;refine kU rfl _ _ 30 3 rfl _ _ rfl rfl (hrz _) ?_)
  | (at_builtin;refine hI rfl _ _ 30 30 rfl _ _ rfl rfl (hcp1 _ _) ?_))
 go_region_law_o (refine jF rfl _ _ 30 30 rfl _ _ (by simp[Act.eval,Act.put]) (by simp[Act.eval,Act.put]) (hcp2 _ _ _) ?_)
 go_wp2
 go_ret
 have hN3:=setRow_heap W2.drew w.heap.size C1.toArray (dJ C1 ((i+1) * 4) (us.drop (i * 4))).toArray 76 (0,0) hN2;refine⟨_,rfl,⟨?_,.inr ⟨w.heap.size,G,_,rfl,bX _,hN3,hGn,hGm,by rw[cR,hl2],?_⟩⟩,⟨?_,?_,?_,by simp[hs2],λb hb=>?_⟩,rfl⟩
 ·simp only[aW,bA,hul,hel,hdl];omega
 ·exact hfin
 ·exact hos2.1
 ·exact hos2.2.1
 ·exact hos2.2.2
 ·exact(setRow_other W2.drew _ b _ (by omega)).trans (hold2 b (by omega))
end
theorem aRG (v:Value)(n i:Nat)(us es:List Value)(vb vc:Nat)(cv:Array Value)(te:TypeId)(w:World)(hrow:w.ownsRow 0 76 4 v n us)(hi:i<=n)(hn:n<=100)(hel:es.length=4)
  (hvb:w.heap[vb]?=some (.cells cv te (0,0))) (hcv:cv.toList.take 4=es) (hne:v.ownBlock≠some vb) (h1:∀ x∈us,x.oneCell'=true) (h1e:∀ x∈es,x.oneCell'=true) :
  Calls prog 90 #[v,.int .i64 i,.slice (some ⟨vb,0,none⟩) 1 vc] w λe W=>∃ u,e=.returned u/\W.ownsRow 0 76 4 u (n+1) (us.take (i * 4)++es++us.drop (i * 4))/\Kept (λb=>w.heap.size<=b\/v.ownBlock=some b) w W/\∀ b,u.ownBlock=some b->(w.heap.size<=b\/v.ownBlock=some b)/\b < W.heap.size:=by
 have hul:us.length=n * 4:=hrow.1;have hlt:∀ (W:World) (u:Value) (m:Nat) (xs:List Value),W.ownsRow 0 76 4 u m xs->∀ b,u.ownBlock=some b->b < W.heap.size:=λW u m xs h b hb=>by
  rcases h.2 with⟨rfl,_⟩ | ⟨g,cap,cur,rfl,_,hg,_⟩
  ·cases hb
  ·cases hb;exact(aL.1 hg).1
 by_cases he:i=n
 ·subst he;refine(aIq v i us es vb vc cv te w hrow hn hel hvb hcv h1e).mono ?_;rintro e W ⟨u,rfl,h2,h3,h4⟩;refine⟨u,rfl,by rw[cT (by omega),List.drop_of_length_le (by omega),dR];exact h2,⟨h3.os,h3.tape,h3.output,h3.size,λk hk=>?_⟩,λb hb=>⟨?_,hlt _ _ _ _ h2 b hb⟩⟩
  ·rcases eR k w.heap.size with h | h
   ·exact h3.block k h (λh=>hk (.inr h.symm))
   ·exact absurd (.inl h) hk
  ·rcases h4 with h4 | h4
   ·exact .inr (h4.symm.trans hb)
   ·rw[h4]at hb;cases hb;exact .inl (aK _)
 ·rcases hrow.2 with⟨rfl,h0⟩ | ⟨g,cap,cur,rfl,h0,hg,hnc,hcm,hcs,htk⟩
  ·omega
  ·by_cases hr:n+1<=cap
   ·refine(aGT g n i cap us es vb vc cv te w hrow (by omega) hr hn hel hvb hcv (λh=>hne (by rw[h];rfl)) h1 h1e).mono ?_;rintro e W ⟨rfl,h2,h3⟩;exact⟨_,rfl,h2,⟨h3.os,h3.tape,h3.output,h3.size,λk hk=>h3.block k λh=>hk (.inr (by rw[h];rfl))⟩,λb hb=>⟨.inr hb,hlt _ _ _ _ h2 b hb⟩⟩
   ·obtain rfl:cap=n:=by omega
    refine(aGW g cap i us es vb vc cv te w hrow (by omega) hn hel hvb hcv h1 h1e).mono ?_;rintro e W ⟨u,rfl,h2,h3,h4⟩;exact⟨_,rfl,h2,⟨h3.os,h3.tape,h3.output,h3.size,λk hk=>h3.block k λh=>hk (.inl h)⟩,λb hb=>⟨.inl (by rw[h4]at hb;cases hb;exact aK _),hlt _ _ _ _ h2 b hb⟩⟩
theorem aRI:(prog.info? 2).map (λi=>(i.zero.isSome,(i.zero.getD .nilFunc).cells.size,i.size,i.bytes))=some (true,1,1,8):=by kernel_rfl
theorem aCE:∃ i z,prog.info? 2=some i/\i.zero=some z/\z.cells.size=1/\i.size=1/\i.bytes=8:=by
 have h:=aRI;obtain⟨i,hi,h⟩:=lL.1 h;simp only[aY]at h;obtain⟨h1,h2,h3,h4⟩:=h;obtain⟨z,hz⟩:=cH.1 h1;rw[hz]at h2;exact⟨i,z,hi,hz,h2,h3,h4⟩
theorem aPa (w:World):(zeroValue 2).run prog w=.ok (.int .i64 0) w:=by kernel_rfl
section
attribute [local go_sem] Oper.semAt_some
set_option maxRecDepth 100000 in
set_option maxHeartbeats 4000000 in
theorem aSo (g i n cap:Nat)(us:List Value)(w:World)(hrow:w.ownsRow 0 2 1 (.slice (some ⟨g,0,none⟩) n cap) n us)(hi:i < n)(hn:n<=100)(h1:∀ x∈us,x.oneCell'=true) :
  Calls prog 94 #[.slice (some ⟨g,0,none⟩) n cap,.int .i64 i,.int .i64 ((i:Int)+1)] w λe W=>e=.returned (.slice (some ⟨g,0,none⟩) (n-1) cap) ∧
   W.ownsRow 0 2 1 (.slice (some ⟨g,0,none⟩) (n-1) cap) (n-1) (us.take (i)++us.drop ((i+1)))/\Kept (λb=>b=g) w W:=by
 obtain⟨i0,z,hi0,hz,hz1,hz2,hz3⟩:=aCE;obtain⟨cur,hg,hcs,_,hnc,hcm,hus⟩:=fQ hrow;simp only[fE]at hcs hus;have hul:us.length=n:=by have:=hrow.1;simpa using this
 have hnc5:n<=cur.size:=by rw[hcs];exact hnc
 obtain⟨A,hA,hAs⟩:∃ A,(if cap=i+1 then some (⟨g,0,none⟩:Addr)else some ⟨g,(i+1),none⟩)=some A/\∀ (j:Nat) u,(us.drop ((i+1)))[j]?=some u->w.drew.cell? (A.add j)=some u:=by
  have hcell:∀ k u,us[k]?=some u->w.drew.cell? ⟨g,k,none⟩=some u:=λk u h=>by
   have hg':w.drew.heap[g]?=some (.cells cur 2 (0,0)):=hg;refine(cell_of_row _ _ _ _ 2 (0,0) hg').trans ?_;rw[hus,bK]at h;split at h
   ·rw[<-Array.getElem?_toList];exact h
   ·cases h
  by_cases hc:cap=i+1
  ·refine⟨_,if_pos hc,λj u h=>?_⟩;have:us.length<=(i+1):=by rw[hul];exact(by omega)
   rw[cM this]at h;simp at h
  ·refine⟨_,if_neg hc,λj u h=>?_⟩;rw[Addr.add_lit];rw[cL]at h;exact hcell _ _ h
 have hdl:(us.drop ((i+1))).length=(n-(i+1)):=by rw[bL,hul]
 have hr1:∀ ty c',(Builtin.append_ #[63,63] ty #[.slice (some ⟨g,0,none⟩) i cap,.slice (some A) (n-(i+1)) c']).run prog w.drew=.ok (.slice (some ⟨g,0,none⟩) (i+(n-(i+1))) cap) (w.drew.setRow g (dJ cur.toList (i) (us.drop ((i+1)))).toArray):=λty c'=>by
  have:=lP w.drew 63 ty 2 i0 1 underlying63 hi0 hz2 g i cap (n-(i+1)) c' A cur 2 hg _ (by rw[hdl,fE]) hAs (λu hu=>h1 u (cC hu)) (by omega) (by rw[hdl,fE];omega);simpa using this
 have mixed:prog.follows .mixedOrders=true:=by kernel_rfl
 have hic:i<=cap:=by omega
 have hm0:(0:Int)<=(i:Int)+1:=by omega
 have hm1:(i:Int)+1<=(n:Int):=by omega
 have ht1:((i:Int)+1).toNat=i+1:=by omega
 have hlen:i+(n-(i+1))=n-1:=by omega
 rw[hlen]at hr1;have hpl:(dJ cur.toList (i) (us.drop ((i+1)))).length=cap:=by
  unfold dJ;have:cur.toList.length=cap:=by rw[Array.length_toList,hcs]
  simp only[aW,bA,bL,this,hdl,hul];have:i+(n-(i+1))<=cap:=by omega
  omega
 have hfin:(dJ cur.toList (i) (us.drop ((i+1)))).take ((n-1))=us.take (i)++us.drop ((i+1)):=by
  unfold dJ;have e1:us.take (i)=cur.toList.take (i):=by rw[hus,List.take_take,Nat.min_eq_left (by omega)]
  have e2:((cur.toList.take (i))++us.drop ((i+1))).length=(n-1):=by
   have:cur.toList.length=cap:=by rw[Array.length_toList,hcs]
   simp only[aW,bA,hdl,this];have:i<=cap:=(by omega)
   rw[Nat.min_eq_left this,hlen]
  rw[e1,cP (by rw[e2];exact aK _),cT (by rw[e2];exact aK _)]
 generalize dJ cur.toList (i) (us.drop ((i+1)))=C1 at hr1 hpl hfin
 have hg1:(w.drew.setRow g C1.toArray).heap[g]?=some (.cells C1.toArray 2 (0,0)):=setRow_heap w.drew g cur _ 2 (0,0) hg;have hr2:∀ ty c',(Builtin.clear_ #[63] ty #[.slice (some ⟨g,(n-1),none⟩) (n-(n-1)) c']).run prog (w.drew.setRow g C1.toArray)=.ok (.tuple #[]) ((w.drew.setRow g C1.toArray).setRow g (dJ C1 ((n-1)) [.int .i64 0]).toArray):=λty c'=>
  tK _ 63 ty 2 _ aPa underlying63 g ((n-1)) (n-(n-1)) c' (by omega) C1.toArray 2 hg1 _ (by rw[show n-(n-1)=1 by omega];simp[Builtin.zeroCells,Value.cells]<;>rfl) (by simp[Value.oneCell']) (by
   simp only[cR,hpl,cB,dQ];have:(n-1)+1<=cap:=by
    have:=(show n-1+1<=cap by omega)
    omega
   omega)
 have hn1:n-1<=n:=by omega
 have hn2:n<=cap:=hnc;have hn3:¬ (cap=n-1):=by omega
 clear hus
 go_enter func94,ntmps94
 go_wp2
 go_region_law_o (refine mE rfl _ _ 63 63 rfl _ _ (by simp[Act.eval,Act.put]) (by simp[Act.eval,Act.put];rfl) (hr1 _ _) ?_)
 go_wp2_with (at_builtin;refine lM rfl _ 63 rfl _ rfl (hr2 _ _) ?_)
 go_ret
 have hg2:=setRow_heap (w.drew.setRow g C1.toArray) g C1.toArray (dJ C1 ((n-1)) [.int .i64 0]).toArray 2 (0,0) hg1;refine⟨rfl,⟨?_,.inr ⟨g,cap,_,rfl,bX _,hg2,by omega,hcm,?_,?_⟩⟩,rfl,rfl,rfl,by simp,λb hb=>?_⟩
 ·rw[fE,<-hfin,bA,hpl];have:=(show n-1<=cap by omega)
  omega
 ·rw[fE];unfold dJ;have:=(show n-1+1<=cap by omega)
  simp only[cR,aW,bA,bL,hpl,cB,dQ];omega
 ·have:=(show n-1<=cap by omega)
  rw[fE];unfold dJ;rw[dB,cP (by rw[bA,hpl];omega),List.take_take,Nat.min_self,hfin]
 ·exact(setRow_other _ _ _ _ hb).trans (setRow_other w.drew g b _ hb)
end
end Go.Proofs.Tryz
