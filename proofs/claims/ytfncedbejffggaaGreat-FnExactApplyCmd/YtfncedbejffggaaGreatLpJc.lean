/- A part of the proof of FnExactApplyCmd: LpJc, LpKb, LpLa, LpLb, LpLc. -/
import Derived.Test.YtfncedbejffggaaGreatLpJa
import Derived.Test.YtfncedbejffggaaGreatVmPl
set_option linter.unusedSimpArgs false
set_option linter.unusedVariables false
namespace Go.Proofs.Tryz
open Go.IntKind (wrap)
open Go Go.VM Go.RowKit
section
attribute [local go_sem] Oper.semAt_some
set_option maxRecDepth 100000 in
set_option maxHeartbeats 4000000 in
theorem aIp (v:Value)(n:Nat)(us es:List Value)(vb vc:Nat)(cv:Array Value)(te:TypeId)(w:World)(hrow:w.ownsRow 0 2 1 v n us)(hn:n<=100)(hel:es.length=1)(hvb:w.heap[vb]?=some (.cells cv te (0,0)))(hcv:cv.toList.take 1=es)(h1e:∀ x∈es,x.oneCell'=true) :
  Calls prog 93 #[v,.int .i64 n,.slice (some ⟨vb,0,none⟩) 1 vc] w λe W=>∃ u,e=.returned u/\W.ownsRow 0 2 1 u (n+1) (us++es)/\w.grownBy W v.ownBlock/\(u.ownBlock=v.ownBlock\/u.ownBlock=some w.heap.size):=by
 obtain⟨i0,z,hi0,hz,hz1,hz2,hz3⟩:=aCE;have hes:=iA hvb hcv;rcases hrow.2 with⟨rfl,h0⟩ | ⟨g,cap,cur,rfl,_,hg,hnc,hcm,hcs,htk⟩
 ·subst h0
  go_enter func93,ntmps93
  go_wp2_with (at_builtin;refine wpList_append_own_at _ rfl _ _ 63 rfl 0 2 i0 z 1 8 underlying63 hi0 hz hz2 hz3 hz1 (by decide) _ _ us rfl hrow ⟨vb,0,none⟩ 1 vc es rfl (by rw[hel]) hes h1e (by unfold maxLen;omega) (by omega) (bX _) ?_;intro v' w1 hown' hgrow hnil hloc)
  go_ret
  exact⟨_,rfl,hown',hgrow,hloc⟩
 ·go_enter func93,ntmps93
  go_wp2_with (at_builtin;refine wpList_append_own_at _ rfl _ _ 63 rfl 0 2 i0 z 1 8 underlying63 hi0 hz hz2 hz3 hz1 (by decide) _ _ us rfl hrow ⟨vb,0,none⟩ 1 vc es rfl (by rw[hel]) hes h1e (by unfold maxLen;omega) (by omega) (bX _) ?_;intro v' w1 hown' hgrow hnil hloc)
  all_goals (go_ret;exact⟨_,rfl,hown',hgrow,hloc⟩)
set_option maxRecDepth 100000 in
set_option maxHeartbeats 4000000 in
theorem aGS (g n i cap:Nat)(us es:List Value)(vb vc:Nat)(cv:Array Value)(te:TypeId)(w:World)(hrow:w.ownsRow 0 2 1 (.slice (some ⟨g,0,none⟩) n cap) n us)(hi:i < n)(hroom:n+1<=cap)(hn:n<=100)(hel:es.length=1)
  (hvb:w.heap[vb]?=some (.cells cv te (0,0))) (hcv:cv.toList.take 1=es) (hne:vb≠g) (h1:∀ x∈us,x.oneCell'=true) (h1e:∀ x∈es,x.oneCell'=true) :
  Calls prog 93 #[.slice (some ⟨g,0,none⟩) n cap,.int .i64 i,.slice (some ⟨vb,0,none⟩) 1 vc] w λe W=>e=.returned (.slice (some ⟨g,0,none⟩) (n+1) cap)/\W.ownsRow 0 2 1 (.slice (some ⟨g,0,none⟩) (n+1) cap) (n+1) (us.take (i * 1)++es++us.drop (i * 1)) ∧
   Kept (λb=>b=g) w W:=by
 obtain⟨i0,z,hi0,hz,hz1,hz2,hz3⟩:=aCE;obtain⟨cur,hg,hcs,_,hnc,hcm,hus⟩:=fQ hrow;have hul:us.length=n * 1:=hrow.1;have hes:=iA hvb hcv;have hsz:(prog.info? 2).map (·.size)=some 1:=by rw[hi0];simp[hz2]
 have hcl:cur.toList.length=cap * 1:=by rw[Array.length_toList,hcs]
 have hr5:(n+1) * 1<=cap * 1:=aQ 1 hroom;have hi5:i * 1<=n * 1:=aQ 1 (by omega);have hs5:(n+1) * 1=n * 1+1:=eQ n 1;have hj5:(i+1) * 1=i * 1+1:=eQ i 1;have hdl:(us.drop (i * 1)).length=(n-i) * 1:=by rw[bL,hul,<-Nat.sub_mul]
 have hdl2:(n-i) * 1=n * 1-i * 1:=Nat.sub_mul ..
 have hfin:=wE (cur:=cur.toList) (us:=us) (es:=es) (K:=1) (n:=n) (i:=i) hus (by omega) (by omega) hel;have hov:∀ lb cb,(callFunc 109 #[.slice (some ⟨vb,0,none⟩) 1 vc,.slice (some ⟨g,(i+1) * 1,none⟩) lb cb]).run prog w=.ok (.value (.bool false)) w:=λlb cb=>by
  rw[run_callFunc_extern func109 (by kernel_rfl) (by kernel_rfl) (by kernel_rfl) (e:=Extern.SlicesOverlaps.overlaps #[63,63] #[4]) (by kernel_rfl),
   Lib.run_overlaps_apart w 63 4 2 underlying63 1 (λw=>by kernel_rfl) ⟨vb,0,none⟩ ⟨g,(i+1) * 1,none⟩ 1 vc lb cb hne te 2 cv.size cur.size (by simp[World.shape?,hvb]) (by simp[World.shape?,hg]) (by omega) (frozen_of_row _ _ _ _ te hvb) (frozen_of_row _ _ _ _ te hvb)]
  rfl
 have hsrc:∀ j u,(us.drop (i * 1))[j]?=some u->w.drew.cell? ((⟨g,i * 1,none⟩:Addr).add j)=some u:=λj u h=>by
  rw[Addr.add_lit];have hg':w.drew.heap[g]?=some (.cells cur 2 (0,0)):=hg;refine(cell_of_row _ _ _ _ 2 (0,0) hg').trans ?_;rw[cL,hus,bK]at h;split at h
  ·rw[<-Array.getElem?_toList];exact h
  ·cases h
 have hcp1:∀ ty dc sc,(Builtin.copy_ #[63,63] ty #[.slice (some ⟨g,(i+1) * 1,none⟩) (n-i) dc,.slice (some ⟨g,i * 1,none⟩) (n+1-i) sc]).run prog w.drew=.ok (goInt (Nat.min (n+1-i) (n-i):Nat)) (w.drew.setRow g (dJ cur.toList ((i+1) * 1) (us.drop (i * 1))).toArray):=λty dc sc=>
  fB w.drew 63 63 ty 2 g ((i+1) * 1) (n-i) dc ⟨g,i * 1,none⟩ (n+1-i) sc cur 2 _ 1 underlying63 hsz hg (by rw[hdl];congr 1;simp only[Nat.min_def];split<;>omega) hsrc (by rw[hdl,<-Array.length_toList,hcl];omega) (λv hv=>h1 v (cC hv))
 have hl1:(dJ cur.toList ((i+1) * 1) (us.drop (i * 1))).length=cap * 1:=by rw[hJ (by rw[hdl,hcl];omega),hcl]
 generalize dJ cur.toList ((i+1) * 1) (us.drop (i * 1))=C1 at hcp1 hfin hl1
 have hg1:(w.drew.setRow g C1.toArray).heap[g]?=some (.cells C1.toArray 2 (0,0)):=setRow_heap w.drew g cur _ 2 (0,0) hg;have hv1:(w.drew.setRow g C1.toArray).heap[vb]?=some (.cells cv te (0,0)):=(setRow_other w.drew g vb _ hne).trans hvb;have hes1:=iA hv1 hcv;have hcp2:∀ (W:World),W=w.drew.setRow g C1.toArray->∀ ty dc,(Builtin.copy_ #[63,63] ty #[.slice (some ⟨g,i * 1,none⟩) (n+1-i) dc,.slice (some ⟨vb,0,none⟩) 1 vc]).run prog W=.ok (goInt (Nat.min 1 (n+1-i):Nat)) (W.setRow g (dJ C1 (i * 1) es).toArray):=λW hW ty dc=>by
  subst hW;exact fB _ 63 63 ty 2 g (i * 1) (n+1-i) dc ⟨vb,0,none⟩ 1 vc C1.toArray 2 es 1 underlying63 hsz hg1 (by rw[hel];show 1=min 1 (n+1-i) * 1;rw[Nat.min_eq_left (by omega)]) hes1 (by rw[hel,cR,hl1];omega) h1e
 have hl2:(dJ C1 (i * 1) es).length=cap * 1:=by rw[hJ (by rw[hel,hl1];omega),hl1]
 have mixed:prog.follows .mixedOrders=true:=by kernel_rfl
 have hz1:¬ ((i:Int)=(n:Int)):=by omega
 have hz2:¬ ((cap:Int) < (n:Int)+1):=by omega
 have hw1:IntKind.i64.wrap ((i:Int)+1)=(i:Int)+1:=by rw[IntKind.wrap_i64];omega
 have hb1:(0:Int)<=(i:Int)+1:=by omega
 have hb2:¬ (cap=i+1):=by omega
 have hb3:(i:Int)<=(n:Int)+1:=by omega
 have hb4:¬ (cap=i):=by omega
 have hin:i<=n:=by omega
 have htn:((i:Int)+1).toNat=i+1:=by omega
 have htn2:((n:Int)+1).toNat=n+1:=by omega
 clear hus hj5 hs5;simp only[fE]at hov hcp1 hcp2 hfin hl1 hl2
 go_enter func93,ntmps93
 go_wp2_with (simp only[hov])
 go_region_law_o (refine jF rfl _ _ 63 63 rfl _ _ (by simp[Act.eval,Act.put]) (by simp[Act.eval,Act.put]) (hcp1 _ _ _) ?_)
 go_wp2_with (at_builtin;refine hI rfl _ _ 63 63 rfl _ _ rfl rfl (hcp2 _ rfl _ _) ?_)
 go_ret
 have hg2:=setRow_heap (w.drew.setRow g C1.toArray) g C1.toArray (dJ C1 (i) es).toArray 2 (0,0) hg1;refine⟨rfl,⟨?_,.inr ⟨g,cap,_,rfl,bX _,hg2,hroom,hcm,by rw[cR,hl2,fE],?_⟩⟩,rfl,rfl,rfl,by simp,λb hb=>?_⟩
 ·simp only[aW,bA,bL,hul,hel,fE];omega
 ·simp only[fE];exact hfin
 ·exact(setRow_other _ _ _ _ hb).trans (setRow_other w.drew g b _ hb)
set_option maxRecDepth 100000 in
set_option maxHeartbeats 4000000 in
theorem aGV (g n i:Nat)(us es:List Value)(vb vc:Nat)(cv:Array Value)(te:TypeId)(w:World)(hrow:w.ownsRow 0 2 1 (.slice (some ⟨g,0,none⟩) n n) n us)(hi:i < n)(hn:n<=100)(hel:es.length=1)
  (hvb:w.heap[vb]?=some (.cells cv te (0,0))) (hcv:cv.toList.take 1=es) (h1:∀ x∈us,x.oneCell'=true) (h1e:∀ x∈es,x.oneCell'=true) :
  Calls prog 93 #[.slice (some ⟨g,0,none⟩) n n,.int .i64 i,.slice (some ⟨vb,0,none⟩) 1 vc] w λe W=>∃ u,e=.returned u/\W.ownsRow 0 2 1 u (n+1) (us.take (i * 1)++es++us.drop (i * 1))/\Kept (λb=>w.heap.size<=b) w W/\u.ownBlock=some w.heap.size:=by
 obtain⟨i0,z,hi0,hz,hz1,hz2,hz3⟩:=aCE;obtain⟨cur,hg,hcs,_,hnc,hcm,hus⟩:=fQ hrow;have hul:us.length=n * 1:=hrow.1;have hgw:g < w.heap.size:=(aL.1 hg).1;have hvw:vb < w.heap.size:=(aL.1 hvb).1;have hsz:(prog.info? 2).map (·.size)=some 1:=by rw[hi0];simp[hz2]
 have hi5:i * 1<=n * 1:=aQ 1 (by omega);have hs5:(n+1) * 1=n * 1+1:=eQ n 1;have hj5:(i+1) * 1=i * 1+1:=eQ i 1;have hdl:(us.drop (i * 1)).length=(n-i) * 1:=by rw[bL,hul,<-Nat.sub_mul]
 have hdl2:(n-i) * 1=n * 1-i * 1:=Nat.sub_mul ..
 have hcell:∀ k u,us[k]?=some u->w.cell? ⟨g,k,none⟩=some u:=λk u h=>by
  refine(cell_of_row _ _ _ _ 2 (0,0) hg).trans ?_;rw[hus,bK]at h;split at h
  ·rw[<-Array.getElem?_toList];exact h
  ·cases h
 have hold:(Builtin.firstCells i0.size i (.slice (some ⟨g,0,none⟩) i n)).run prog w.drew=.ok (us.take (i * 1)).toArray w.drew:=by
  rw[hz2];exact run_firstCells_some w.drew 1 i ⟨g,0,none⟩ i n (us.take (i * 1)) (by rw[bA];omega) (λj v hj=>by
   rw[Addr.add_lit,cX];rw[bK]at hj;split at hj
   ·exact hcell j v hj
   ·cases hj)
 have hik:i+(n+1-i)=n+1:=by omega
 have hkk:(n:Int)+1-(i:Int)=((n+1-i:Nat):Int):=by omega
 have hrz:∀ ty,(Builtin.append_ #[63,3] ty #[.slice (some ⟨g,0,none⟩) i n,.int .i64 ((n:Int)+1-(i:Int))]).run prog w=
   .ok (.slice (some ⟨w.heap.size,0,none⟩) (n+1) (grownCap w (n+1) n 2)) (w.drew.alloc (.cells ((us.take (i * 1)).toArray++Builtin.zeroCells z.cells (n+1-i)++Builtin.zeroCells z.cells (grownCap w (n+1) n 2-(n+1))) 2)):=λty=>by
  have h:=Lib.run_append_grow_zeros w 63 3 ty 2 i0 z .i64 .i64 underlying63 underlying3 hi0 hz (some ⟨g,0,none⟩) i n (us.take (i * 1)) hold (n+1-i) (by omega) (by omega) (by omega) (by omega) (by rw[hz3];omega) (by rw[hz3,hik];exact growslice_fits (by omega) (by omega));rw[hik]at h;rw[hkk];exact h
 have hzl:∀ k,(Builtin.zeroCells z.cells k).toList.length=k * 1:=λk=>by simp[Builtin.zeroCells,hz1]
 have hGn:n+1<=grownCap w (n+1) n 2:=grownCap_ge w _ _ _;have hGm:grownCap w (n+1) n 2<=maxLen:=grownCap_le_maxLen w (n+1) n 2 (by unfold maxLen;omega)
 generalize grownCap w (n+1) n 2=G at hrz hGn hGm
 have hROW:((us.take (i * 1)).toArray++Builtin.zeroCells z.cells (n+1-i)++Builtin.zeroCells z.cells (G-(n+1))).toList=us.take (i * 1)++((Builtin.zeroCells z.cells (n+1-i)).toList++(Builtin.zeroCells z.cells (G-(n+1))).toList):=by simp
 have htl:(us.take (i * 1)).length=i * 1:=by rw[bA];omega
 have hZl:((Builtin.zeroCells z.cells (n+1-i)).toList++(Builtin.zeroCells z.cells (G-(n+1))).toList).length=G * 1-i * 1:=by
  rw[aW,hzl,hzl,<-eZ,<-Nat.sub_mul];congr 1;omega
 have hG5:(n+1) * 1<=G * 1:=aQ 1 hGn
 generalize (us.take (i * 1)).toArray++Builtin.zeroCells z.cells (n+1-i)++Builtin.zeroCells z.cells (G-(n+1))=ROW at hrz hROW
 generalize (Builtin.zeroCells z.cells (n+1-i)).toList++(Builtin.zeroCells z.cells (G-(n+1))).toList=Z at hROW hZl
 have hRl:ROW.toList.length=G * 1:=by rw[hROW,aW,htl,hZl];omega
 have hRs:ROW.size=G * 1:=by rw[<-Array.length_toList,hRl]
 have hfin:=wA (A:=us.take (i * 1)) (Z:=Z) (es:=es) (D:=us.drop (i * 1)) (K:=1) (n:=n) (i:=i) htl (by rw[hdl,hdl2]) (by omega) hel (by omega);rw[<-hROW]at hfin;obtain⟨W1,hW1⟩:∃ W1,W1=w.drew.alloc (.cells ROW 2):=⟨_,rfl⟩
 have hs1:W1.heap.size=w.heap.size+1:=by rw[hW1];simp
 have hN1:W1.heap[w.heap.size]?=some (.cells ROW 2 (0,0)):=by rw[hW1];exact World.alloc_heap_new w.drew _
 have hold1:∀ b,b < w.heap.size->W1.heap[b]?=w.heap[b]?:=λb hb=>by rw[hW1];exact heap_alloc_old w.drew _ hb
 rw[<-hW1]at hrz;have hv1:=(hold1 vb hvw).trans hvb;have hes1:=iA hv1 hcv;have hcp1:∀ ty dc,(Builtin.copy_ #[63,63] ty #[.slice (some ⟨w.heap.size,i * 1,none⟩) (n+1-i) dc,.slice (some ⟨vb,0,none⟩) 1 vc]).run prog W1=.ok (goInt (Nat.min 1 (n+1-i):Nat)) (W1.setRow w.heap.size (dJ ROW.toList (i * 1) es).toArray):=λty dc=>
  fB _ 63 63 ty 2 w.heap.size (i * 1) (n+1-i) dc ⟨vb,0,none⟩ 1 vc ROW 2 es 1 underlying63 hsz hN1 (by rw[hel];show 1=min 1 (n+1-i) * 1;rw[Nat.min_eq_left (by omega)]) hes1 (by rw[hel,hRs];omega) h1e
 have hl1:(dJ ROW.toList (i * 1) es).length=G * 1:=by rw[hJ (by rw[hel,hRl];omega),hRl]
 generalize dJ ROW.toList (i * 1) es=C1 at hcp1 hl1 hfin
 have hos1:W1.os=w.os/\W1.tape=w.tape/\W1.output=w.output:=by rw[hW1];exact⟨rfl,rfl,rfl⟩
 obtain⟨W2,hW2⟩:∃ W2,W2=W1.setRow w.heap.size C1.toArray:=⟨_,rfl⟩
 have hN2:W2.heap[w.heap.size]?=some (.cells C1.toArray 2 (0,0)):=by rw[hW2];exact setRow_heap W1 _ ROW _ 2 (0,0) hN1
 have hos2:W2.os=w.os/\W2.tape=w.tape/\W2.output=w.output:=by rw[hW2];exact hos1
 have hs2:W2.heap.size=w.heap.size+1:=by rw[hW2];simp[hs1]
 have hold2:∀ b,b < w.heap.size->W2.heap[b]?=w.heap[b]?:=λb hb=>by rw[hW2];exact(setRow_other W1 _ b _ (by omega)).trans (hold1 b hb)
 rw[<-hW2]at hcp1;have hcell2:∀ j u,(us.drop (i * 1))[j]?=some u->W2.drew.cell? ((⟨g,i * 1,none⟩:Addr).add j)=some u:=λj u h=>by
  rw[Addr.add_lit];rw[cL]at h;have h2:=hcell _ _ h;rw[World.cell?_of_block (show W2.drew.heap[g]?=w.heap[g]? from hold2 g hgw)];exact h2
 have hcp2:∀ ty dc sc,(Builtin.copy_ #[63,63] ty #[.slice (some ⟨w.heap.size,(i+1) * 1,none⟩) (n-i) dc,.slice (some ⟨g,i * 1,none⟩) (n-i) sc]).run prog W2.drew=.ok (goInt (Nat.min (n-i) (n-i):Nat)) (W2.drew.setRow w.heap.size (dJ C1 ((i+1) * 1) (us.drop (i * 1))).toArray):=λty dc sc=>
  fB W2.drew 63 63 ty 2 w.heap.size ((i+1) * 1) (n-i) dc ⟨g,i * 1,none⟩ (n-i) sc C1.toArray 2 _ 1 underlying63 hsz hN2 (by rw[hdl];congr 1;simp only[Nat.min_def];split<;>omega) hcell2 (by rw[hdl,cR,hl1];omega) (λv hv=>h1 v (cC hv))
 have hl2:(dJ C1 ((i+1) * 1) (us.drop (i * 1))).length=G * 1:=by rw[hJ (by rw[hdl,hl1];omega),hl1]
 have mixed:prog.follows .mixedOrders=true:=by kernel_rfl
 have hy1:¬ ((i:Int)=(n:Int)):=by omega
 have hy2:((n:Int) < (n:Int)+1):=by omega
 have hw1:IntKind.i64.wrap ((i:Int)+1)=(i:Int)+1:=by rw[IntKind.wrap_i64];omega
 have hb1:(0:Int)<=(i:Int)+1:=by omega
 have hin:i<=n:=by omega
 have htn:((i:Int)+1).toNat=i+1:=by omega
 have hb3:(i:Int)<=(n:Int):=by omega
 have hG63:G<=9223372036854775807:=by unfold maxLen at hGm;omega
 have hGi:¬ (G=i):=by omega
 have hGim:¬ (G=i+1):=by omega
 have hci:¬ (n=i):=by omega
 clear hkk hik hold hROW hus hj5 hs5 hW1 hW2;simp only[fE]at hrz hcp1 hcp2 hfin hl1 hl2
 go_enter func93,ntmps93
 go_wp2_with (first
  | (at_builtin;refine kU rfl _ _ 63 3 rfl _ _ rfl rfl (hrz _) ?_)
  | (at_builtin;refine hI rfl _ _ 63 63 rfl _ _ rfl rfl (hcp1 _ _) ?_))
 go_region_law_o (refine jF rfl _ _ 63 63 rfl _ _ (by simp[Act.eval,Act.put]) (by simp[Act.eval,Act.put]) (hcp2 _ _ _) ?_)
 go_wp2
 go_ret
 have hN3:=setRow_heap W2.drew w.heap.size C1.toArray (dJ C1 ((i+1)) (us.drop (i))).toArray 2 (0,0) hN2;refine⟨_,rfl,⟨?_,.inr ⟨w.heap.size,G,_,rfl,bX _,hN3,hGn,hGm,by rw[cR,hl2,fE],?_⟩⟩,⟨?_,?_,?_,by simp[hs2],λb hb=>?_⟩,rfl⟩
 ·simp only[aW,bA,bL,hul,hel,fE];omega
 ·simp only[fE];exact hfin
 ·exact hos2.1
 ·exact hos2.2.1
 ·exact hos2.2.2
 ·exact(setRow_other W2.drew _ b _ (by omega)).trans (hold2 b (by omega))
end
theorem aRF (v:Value)(n i:Nat)(us es:List Value)(vb vc:Nat)(cv:Array Value)(te:TypeId)(w:World)(hrow:w.ownsRow 0 2 1 v n us)(hi:i<=n)(hn:n<=100)(hel:es.length=1)
  (hvb:w.heap[vb]?=some (.cells cv te (0,0))) (hcv:cv.toList.take 1=es) (hne:v.ownBlock≠some vb) (h1:∀ x∈us,x.oneCell'=true) (h1e:∀ x∈es,x.oneCell'=true) :
  Calls prog 93 #[v,.int .i64 i,.slice (some ⟨vb,0,none⟩) 1 vc] w λe W=>∃ u,e=.returned u/\W.ownsRow 0 2 1 u (n+1) (us.take (i * 1)++es++us.drop (i * 1))/\Kept (λb=>w.heap.size<=b\/v.ownBlock=some b) w W/\∀ b,u.ownBlock=some b->(w.heap.size<=b\/v.ownBlock=some b)/\b < W.heap.size:=by
 have hul:us.length=n * 1:=hrow.1;have hlt:∀ (W:World) (u:Value) (m:Nat) (xs:List Value),W.ownsRow 0 2 1 u m xs->∀ b,u.ownBlock=some b->b < W.heap.size:=λW u m xs h b hb=>by
  rcases h.2 with⟨rfl,_⟩ | ⟨g,cap,cur,rfl,_,hg,_⟩
  ·cases hb
  ·cases hb;exact(aL.1 hg).1
 by_cases he:i=n
 ·subst he;refine(aIp v i us es vb vc cv te w hrow hn hel hvb hcv h1e).mono ?_;rintro e W ⟨u,rfl,h2,h3,h4⟩;refine⟨u,rfl,by rw[cT (by omega),List.drop_of_length_le (by omega),dR];exact h2,⟨h3.os,h3.tape,h3.output,h3.size,λk hk=>?_⟩,λb hb=>⟨?_,hlt _ _ _ _ h2 b hb⟩⟩
  ·rcases eR k w.heap.size with h | h
   ·exact h3.block k h (λh=>hk (.inr h.symm))
   ·exact absurd (.inl h) hk
  ·rcases h4 with h4 | h4
   ·exact .inr (h4.symm.trans hb)
   ·rw[h4]at hb;cases hb;exact .inl (aK _)
 ·rcases hrow.2 with⟨rfl,h0⟩ | ⟨g,cap,cur,rfl,h0,hg,hnc,hcm,hcs,htk⟩
  ·omega
  ·by_cases hr:n+1<=cap
   ·refine(aGS g n i cap us es vb vc cv te w hrow (by omega) hr hn hel hvb hcv (λh=>hne (by rw[h];rfl)) h1 h1e).mono ?_;rintro e W ⟨rfl,h2,h3⟩;exact⟨_,rfl,h2,⟨h3.os,h3.tape,h3.output,h3.size,λk hk=>h3.block k λh=>hk (.inr (by rw[h];rfl))⟩,λb hb=>⟨.inr hb,hlt _ _ _ _ h2 b hb⟩⟩
   ·obtain rfl:cap=n:=by omega
    refine(aGV g cap i us es vb vc cv te w hrow (by omega) hn hel hvb hcv h1 h1e).mono ?_;rintro e W ⟨u,rfl,h2,h3,h4⟩;exact⟨_,rfl,h2,⟨h3.os,h3.tape,h3.output,h3.size,λk hk=>h3.block k λh=>hk (.inl h)⟩,λb hb=>⟨.inl (by rw[h4]at hb;cases hb;exact aK _),hlt _ _ _ _ h2 b hb⟩⟩
section
attribute [local go_sem] Oper.semAt_some
set_option maxRecDepth 100000 in
set_option maxHeartbeats 8000000 in
theorem qJ (g:Nat)(a nm:Int)(q:Option Addr)(q2:Option Addr)(n cap n2 cap2 p:Nat)(fv:Value)(w:World)
  (hg:w.heap[g]?=some (.cells #[.int .i64 a,.slice q n cap,.slice q2 n2 cap2] 32 (0,0)))
  (h82:Calls prog 82 #[.slice q n cap,.int .i64 nm] w λe W'=>e=.returned (.tuple #[.int .i64 p,.bool false])/\Below w.heap.size w W') :
  Calls prog 84 #[.pointer (some ⟨g,0,none⟩),.int .i64 nm,fv] w λe W=>e=.returned (.int .i64 4)/\Below w.heap.size w W:=by
 have hgw:g < w.heap.size:=(aL.1 hg).1;have k1:w.cell? ⟨g,1,none⟩=some (.slice q n cap):=(cell_of_row _ _ _ _ 32 (0,0) hg).trans rfl
 go_enter func84,ntmps84
 go_wp2_with (go_at_call 82;refine h82.mono ?_;rintro e w1 ⟨rfl,hb1⟩)
 go_ret
 exact⟨rfl,hb1⟩
set_option maxRecDepth 100000 in
set_option maxHeartbeats 8000000 in
theorem aTr (gb o bx:Nat)(w:World)(x:Int)(old:Value)(h1:w.cell? ⟨bx,4,none⟩=some (.int .i64 x))(h2:w.cell? ⟨gb,o+2,none⟩=some old)(h3:w.frozen? ⟨gb,o+2,none⟩=false) :
  Calls prog 85 #[.pointer (some ⟨gb,o,none⟩),.pointer (some ⟨bx,0,none⟩)] w λe W=>e=.returned (.tuple #[])/\W=w.setCell ⟨gb,o+2,none⟩ (.int .i64 x):=by
 go_enter func85,ntmps85
 go_wp2
 refine bodyPost_end (v:=.tuple #[]) ?_ rfl ⟨rfl,rfl⟩;simp[results,show f85.results=#[] from rfl,go_sem]
set_option maxRecDepth 100000 in
set_option maxHeartbeats 8000000 in
theorem aGs (g bx:Nat)(a nm:Int)(q2:Option Addr)(gb n cap n2 cap2 p:Nat)(fnd:Bool)(w:World)(x:Int)(cur:Array Value)
  (hg:w.heap[g]?=some (.cells #[.int .i64 a,.slice (some ⟨gb,0,none⟩) n cap,.slice q2 n2 cap2] 32 (0,0))) (hb:w.heap[gb]?=some (.cells cur 68 (0,0))) (hcs:p * 5+5<=cur.size)
  (hx:w.cell? ⟨bx,4,none⟩=some (.int .i64 x)) (hbx:bx < w.heap.size)
  (h82:Calls prog 82 #[.slice (some ⟨gb,0,none⟩) n cap,.int .i64 nm] w λe W'=>e=.returned (.tuple #[.int .i64 p,.bool true])/\Below w.heap.size w W')
  (hpn:p < n):Calls prog 84 #[.pointer (some ⟨g,0,none⟩),.int .i64 nm,.func (.func 85) #[] #[.pointer (some ⟨bx,0,none⟩)]] w λe W=>e=.returned (.int .i64 0)/\∃ W1,Below w.heap.size w W1/\W=W1.setCell ⟨gb,p * 5+2,none⟩ (.int .i64 x):=by
 have hgw:g < w.heap.size:=(aL.1 hg).1;have hbw:gb < w.heap.size:=(aL.1 hb).1;have k1:w.cell? ⟨g,1,none⟩=some (.slice (some ⟨gb,0,none⟩) n cap):=(cell_of_row _ _ _ _ 32 (0,0) hg).trans rfl;have hcl:∀ W,Below w.heap.size w W->Calls prog 85 #[.pointer (some ⟨gb,p * 5,none⟩),.pointer (some ⟨bx,0,none⟩)] W λe W'=>e=.returned (.tuple #[])/\W'=W.setCell ⟨gb,p * 5+2,none⟩ (.int .i64 x):=λW hB=>by
  have b1:=(hB.block gb hbw).trans hb;refine aTr gb (p * 5) bx W x (cur.getD (p * 5+2) undef) ((hB.cell (by show bx < _;exact hbx)).trans hx) ((cell_of_row _ _ _ _ 68 (0,0) b1).trans ?_) (frozen_of_row _ _ _ _ 68 b1);simp[aZ,show p * 5+2 < cur.size by omega]
 go_enter func84,ntmps84
 go_wp2_with (first
  | (go_at_call 82;refine h82.mono ?_;clear h82;rintro e w1 ⟨rfl,hb1⟩;have k2:=(hb1.cell (by show g < _;exact hgw)).trans k1;have hcl2:=hcl w1 hb1)
  | (go_at_call 85;refine hcl2.mono ?_;clear hcl2;rintro e w2 ⟨rfl,hw2⟩))
 go_ret
 exact⟨rfl,w1,hb1,rfl⟩
set_option maxRecDepth 100000 in
set_option maxHeartbeats 8000000 in
theorem aTq (gb o bx:Nat)(w:World)(x:Int)(old:Value)(h1:w.cell? ⟨bx,4,none⟩=some (.int .i64 x))(h2:w.cell? ⟨gb,o+3,none⟩=some old)(h3:w.frozen? ⟨gb,o+3,none⟩=false) :
  Calls prog 86 #[.pointer (some ⟨gb,o,none⟩),.pointer (some ⟨bx,0,none⟩)] w λe W=>e=.returned (.tuple #[])/\W=w.setCell ⟨gb,o+3,none⟩ (.int .i64 x):=by
 go_enter func86,ntmps86
 go_wp2
 refine bodyPost_end (v:=.tuple #[]) ?_ rfl ⟨rfl,rfl⟩;simp[results,show f86.results=#[] from rfl,go_sem]
set_option maxRecDepth 100000 in
set_option maxHeartbeats 8000000 in
theorem aGr (g bx:Nat)(a nm:Int)(q2:Option Addr)(gb n cap n2 cap2 p:Nat)(fnd:Bool)(w:World)(x:Int)(cur:Array Value)
  (hg:w.heap[g]?=some (.cells #[.int .i64 a,.slice (some ⟨gb,0,none⟩) n cap,.slice q2 n2 cap2] 32 (0,0))) (hb:w.heap[gb]?=some (.cells cur 68 (0,0))) (hcs:p * 5+5<=cur.size)
  (hx:w.cell? ⟨bx,4,none⟩=some (.int .i64 x)) (hbx:bx < w.heap.size)
  (h82:Calls prog 82 #[.slice (some ⟨gb,0,none⟩) n cap,.int .i64 nm] w λe W'=>e=.returned (.tuple #[.int .i64 p,.bool true])/\Below w.heap.size w W')
  (hpn:p < n):Calls prog 84 #[.pointer (some ⟨g,0,none⟩),.int .i64 nm,.func (.func 86) #[] #[.pointer (some ⟨bx,0,none⟩)]] w λe W=>e=.returned (.int .i64 0)/\∃ W1,Below w.heap.size w W1/\W=W1.setCell ⟨gb,p * 5+3,none⟩ (.int .i64 x):=by
 have hgw:g < w.heap.size:=(aL.1 hg).1;have hbw:gb < w.heap.size:=(aL.1 hb).1;have k1:w.cell? ⟨g,1,none⟩=some (.slice (some ⟨gb,0,none⟩) n cap):=(cell_of_row _ _ _ _ 32 (0,0) hg).trans rfl;have hcl:∀ W,Below w.heap.size w W->Calls prog 86 #[.pointer (some ⟨gb,p * 5,none⟩),.pointer (some ⟨bx,0,none⟩)] W λe W'=>e=.returned (.tuple #[])/\W'=W.setCell ⟨gb,p * 5+3,none⟩ (.int .i64 x):=λW hB=>by
  have b1:=(hB.block gb hbw).trans hb;refine aTq gb (p * 5) bx W x (cur.getD (p * 5+3) undef) ((hB.cell (by show bx < _;exact hbx)).trans hx) ((cell_of_row _ _ _ _ 68 (0,0) b1).trans ?_) (frozen_of_row _ _ _ _ 68 b1);simp[aZ,show p * 5+3 < cur.size by omega]
 go_enter func84,ntmps84
 go_wp2_with (first
  | (go_at_call 82;refine h82.mono ?_;clear h82;rintro e w1 ⟨rfl,hb1⟩;have k2:=(hb1.cell (by show g < _;exact hgw)).trans k1;have hcl2:=hcl w1 hb1)
  | (go_at_call 86;refine hcl2.mono ?_;clear hcl2;rintro e w2 ⟨rfl,hw2⟩))
 go_ret
 exact⟨rfl,w1,hb1,rfl⟩
set_option maxRecDepth 100000 in
set_option maxHeartbeats 8000000 in
theorem aTp (gb o bx:Nat)(w:World)(x:Int)(old:Value)(h1:w.cell? ⟨bx,4,none⟩=some (.int .i64 x))(h2:w.cell? ⟨gb,o+4,none⟩=some old)(h3:w.frozen? ⟨gb,o+4,none⟩=false) :
  Calls prog 95 #[.pointer (some ⟨gb,o,none⟩),.pointer (some ⟨bx,0,none⟩)] w λe W=>e=.returned (.tuple #[])/\W=w.setCell ⟨gb,o+4,none⟩ (.bool (x == 1)):=by
 go_enter func95,ntmps95
 go_wp2
 refine bodyPost_end (v:=.tuple #[]) ?_ rfl ⟨rfl,rfl⟩;simp[results,show f95.results=#[] from rfl,go_sem]
set_option maxRecDepth 100000 in
set_option maxHeartbeats 8000000 in
theorem aGq (g bx:Nat)(a nm:Int)(q2:Option Addr)(gb n cap n2 cap2 p:Nat)(fnd:Bool)(w:World)(x:Int)(cur:Array Value)
  (hg:w.heap[g]?=some (.cells #[.int .i64 a,.slice (some ⟨gb,0,none⟩) n cap,.slice q2 n2 cap2] 32 (0,0))) (hb:w.heap[gb]?=some (.cells cur 68 (0,0))) (hcs:p * 5+5<=cur.size)
  (hx:w.cell? ⟨bx,4,none⟩=some (.int .i64 x)) (hbx:bx < w.heap.size)
  (h82:Calls prog 82 #[.slice (some ⟨gb,0,none⟩) n cap,.int .i64 nm] w λe W'=>e=.returned (.tuple #[.int .i64 p,.bool true])/\Below w.heap.size w W')
  (hpn:p < n):Calls prog 84 #[.pointer (some ⟨g,0,none⟩),.int .i64 nm,.func (.func 95) #[] #[.pointer (some ⟨bx,0,none⟩)]] w λe W=>e=.returned (.int .i64 0)/\∃ W1,Below w.heap.size w W1/\W=W1.setCell ⟨gb,p * 5+4,none⟩ (.bool (x == 1)):=by
 have hgw:g < w.heap.size:=(aL.1 hg).1;have hbw:gb < w.heap.size:=(aL.1 hb).1;have k1:w.cell? ⟨g,1,none⟩=some (.slice (some ⟨gb,0,none⟩) n cap):=(cell_of_row _ _ _ _ 32 (0,0) hg).trans rfl;have hcl:∀ W,Below w.heap.size w W->Calls prog 95 #[.pointer (some ⟨gb,p * 5,none⟩),.pointer (some ⟨bx,0,none⟩)] W λe W'=>e=.returned (.tuple #[])/\W'=W.setCell ⟨gb,p * 5+4,none⟩ (.bool (x == 1)):=λW hB=>by
  have b1:=(hB.block gb hbw).trans hb;refine aTp gb (p * 5) bx W x (cur.getD (p * 5+4) undef) ((hB.cell (by show bx < _;exact hbx)).trans hx) ((cell_of_row _ _ _ _ 68 (0,0) b1).trans ?_) (frozen_of_row _ _ _ _ 68 b1);simp[aZ,show p * 5+4 < cur.size by omega]
 go_enter func84,ntmps84
 go_wp2_with (first
  | (go_at_call 82;refine h82.mono ?_;clear h82;rintro e w1 ⟨rfl,hb1⟩;have k2:=(hb1.cell (by show g < _;exact hgw)).trans k1;have hcl2:=hcl w1 hb1)
  | (go_at_call 95;refine hcl2.mono ?_;clear hcl2;rintro e w2 ⟨rfl,hw2⟩))
 go_ret
 exact⟨rfl,w1,hb1,rfl⟩
set_option maxRecDepth 100000 in
set_option maxHeartbeats 8000000 in
theorem aPP (g:Nat)(a kd ex nm ad nu pr:Int)(q q2:Option Addr)(n cap n2 cap2 p:Nat)(fnd:Bool)(w:World)
  (hg:w.heap[g]?=some (.cells #[.int .i64 a,.slice q n cap,.slice q2 n2 cap2] 32 (0,0)))
  (h82:∀ W,Below w.heap.size w W->Calls prog 82 #[.slice q n cap,.int .i64 nm] W λe W'=>e=.returned (.tuple #[.int .i64 p,.bool fnd])/\Below W.heap.size W W')
  (hf:fnd=true->p < n/\∃ gb cur,q=some ⟨gb,0,none⟩/\w.heap[gb]?=some (.cells cur 68 (0,0))/\p * 5+5<=cur.size) (G:Ending->World->Prop)
  (hG0:fnd=false->∀ W,Below w.heap.size w W->G (.returned (.int .i64 4)) W)
  (hG1:fnd=true->∀ W gb,Below w.heap.size w W->q=some ⟨gb,0,none⟩->G (.returned (.int .i64 0)) (W.setCell ⟨gb,p * 5+2,none⟩ (.int .i64 nu))) :
  Calls prog 54 #[.pointer (some ⟨g,0,none⟩),.agg #[.int .i64 kd,.int .i64 ex,.int .i64 nm,.int .i64 ad,.int .i64 nu,.int .i64 pr]] w G:=by
 have hgw:g < w.heap.size:=(aL.1 hg).1
 generalize hW0:w.alloc (.cells #[.int .i64 kd,.int .i64 ex,.int .i64 nm,.int .i64 ad,.int .i64 nu,.int .i64 pr] 37)=W0
 have hB0:Below w.heap.size w W0:=by subst hW0;exact(Below.refl w.heap.size w).alloc (aK _) _
 have b0:W0.heap[w.heap.size]?=some (.cells #[.int .i64 kd,.int .i64 ex,.int .i64 nm,.int .i64 ad,.int .i64 nu,.int .i64 pr] 37 (0,0)):=by subst hW0;exact World.alloc_heap_new w _
 have hs0:W0.heap.size=w.heap.size+1:=by subst hW0;simp
 have c2:W0.cell? ⟨w.heap.size,2,none⟩=some (.int .i64 nm):=(cell_of_row _ _ _ _ 37 (0,0) b0).trans rfl;have c4:W0.cell? ⟨w.heap.size,4,none⟩=some (.int .i64 nu):=(cell_of_row _ _ _ _ 37 (0,0) b0).trans rfl;have hg0:=(hB0.block g hgw).trans hg;cases fnd
 ·have h84:Calls prog 84 #[.pointer (some ⟨g,0,none⟩),.int .i64 nm,.func (.func 85) #[] #[.pointer (some ⟨w.heap.size,0,none⟩)]] W0 _:=qJ g a nm q q2 n cap n2 cap2 p _ W0 hg0 (h82 W0 hB0)
  go_enter func54,ntmps54
  go_wp2_with (go_at_call 84;refine h84.mono ?_;clear h84;rintro e w1 ⟨rfl,hb1⟩)
  exact hG0 (by simp) _ (hB0.trans (hb1.mono hB0.size))
 ·obtain⟨hpn,gb,cur,rfl,hb,hcs⟩:=hf rfl;have hbw:gb < w.heap.size:=(aL.1 hb).1;have h84:Calls prog 84 #[.pointer (some ⟨g,0,none⟩),.int .i64 nm,.func (.func 85) #[] #[.pointer (some ⟨w.heap.size,0,none⟩)]] W0 _:=aGs g w.heap.size a nm q2 gb n cap n2 cap2 p true W0 nu cur hg0 ((hB0.block gb hbw).trans hb) hcs c4 (by omega) (h82 W0 hB0) hpn
  go_enter func54,ntmps54
  go_wp2_with (go_at_call 84;refine h84.mono ?_;clear h84;rintro e w1 ⟨rfl,w2,hb2,rfl⟩)
  exact hG1 (by simp) _ gb (hB0.trans (hb2.mono hB0.size)) (by simp)
set_option maxRecDepth 100000 in
set_option maxHeartbeats 8000000 in
theorem aPO (g:Nat)(a kd ex nm ad nu pr:Int)(q q2:Option Addr)(n cap n2 cap2 p:Nat)(fnd:Bool)(w:World)
  (hg:w.heap[g]?=some (.cells #[.int .i64 a,.slice q n cap,.slice q2 n2 cap2] 32 (0,0)))
  (h82:∀ W,Below w.heap.size w W->Calls prog 82 #[.slice q n cap,.int .i64 nm] W λe W'=>e=.returned (.tuple #[.int .i64 p,.bool fnd])/\Below W.heap.size W W')
  (hf:fnd=true->p < n/\∃ gb cur,q=some ⟨gb,0,none⟩/\w.heap[gb]?=some (.cells cur 68 (0,0))/\p * 5+5<=cur.size) (G:Ending->World->Prop)
  (hG0:fnd=false->∀ W,Below w.heap.size w W->G (.returned (.int .i64 4)) W)
  (hG1:fnd=true->∀ W gb,Below w.heap.size w W->q=some ⟨gb,0,none⟩->G (.returned (.int .i64 0)) (W.setCell ⟨gb,p * 5+3,none⟩ (.int .i64 nu))) :
  Calls prog 56 #[.pointer (some ⟨g,0,none⟩),.agg #[.int .i64 kd,.int .i64 ex,.int .i64 nm,.int .i64 ad,.int .i64 nu,.int .i64 pr]] w G:=by
 have hgw:g < w.heap.size:=(aL.1 hg).1
 generalize hW0:w.alloc (.cells #[.int .i64 kd,.int .i64 ex,.int .i64 nm,.int .i64 ad,.int .i64 nu,.int .i64 pr] 37)=W0
 have hB0:Below w.heap.size w W0:=by subst hW0;exact(Below.refl w.heap.size w).alloc (aK _) _
 have b0:W0.heap[w.heap.size]?=some (.cells #[.int .i64 kd,.int .i64 ex,.int .i64 nm,.int .i64 ad,.int .i64 nu,.int .i64 pr] 37 (0,0)):=by subst hW0;exact World.alloc_heap_new w _
 have hs0:W0.heap.size=w.heap.size+1:=by subst hW0;simp
 have c2:W0.cell? ⟨w.heap.size,2,none⟩=some (.int .i64 nm):=(cell_of_row _ _ _ _ 37 (0,0) b0).trans rfl;have c4:W0.cell? ⟨w.heap.size,4,none⟩=some (.int .i64 nu):=(cell_of_row _ _ _ _ 37 (0,0) b0).trans rfl;have hg0:=(hB0.block g hgw).trans hg;cases fnd
 ·have h84:Calls prog 84 #[.pointer (some ⟨g,0,none⟩),.int .i64 nm,.func (.func 86) #[] #[.pointer (some ⟨w.heap.size,0,none⟩)]] W0 _:=qJ g a nm q q2 n cap n2 cap2 p _ W0 hg0 (h82 W0 hB0)
  go_enter func56,ntmps56
  go_wp2_with (go_at_call 84;refine h84.mono ?_;clear h84;rintro e w1 ⟨rfl,hb1⟩)
  exact hG0 (by simp) _ (hB0.trans (hb1.mono hB0.size))
 ·obtain⟨hpn,gb,cur,rfl,hb,hcs⟩:=hf rfl;have hbw:gb < w.heap.size:=(aL.1 hb).1;have h84:Calls prog 84 #[.pointer (some ⟨g,0,none⟩),.int .i64 nm,.func (.func 86) #[] #[.pointer (some ⟨w.heap.size,0,none⟩)]] W0 _:=aGr g w.heap.size a nm q2 gb n cap n2 cap2 p true W0 nu cur hg0 ((hB0.block gb hbw).trans hb) hcs c4 (by omega) (h82 W0 hB0) hpn
  go_enter func56,ntmps56
  go_wp2_with (go_at_call 84;refine h84.mono ?_;clear h84;rintro e w1 ⟨rfl,w2,hb2,rfl⟩)
  exact hG1 (by simp) _ gb (hB0.trans (hb2.mono hB0.size)) (by simp)
set_option maxRecDepth 100000 in
set_option maxHeartbeats 8000000 in
theorem aPN (g:Nat)(a kd ex nm ad nu pr:Int)(q q2:Option Addr)(n cap n2 cap2 p:Nat)(fnd:Bool)(w:World)
  (hg:w.heap[g]?=some (.cells #[.int .i64 a,.slice q n cap,.slice q2 n2 cap2] 32 (0,0)))
  (h82:∀ W,Below w.heap.size w W->Calls prog 82 #[.slice q n cap,.int .i64 nm] W λe W'=>e=.returned (.tuple #[.int .i64 p,.bool fnd])/\Below W.heap.size W W')
  (hf:fnd=true->p < n/\∃ gb cur,q=some ⟨gb,0,none⟩/\w.heap[gb]?=some (.cells cur 68 (0,0))/\p * 5+5<=cur.size) (G:Ending->World->Prop)
  (hG0:fnd=false->∀ W,Below w.heap.size w W->G (.returned (.int .i64 4)) W)
  (hG1:fnd=true->∀ W gb,Below w.heap.size w W->q=some ⟨gb,0,none⟩->G (.returned (.int .i64 0)) (W.setCell ⟨gb,p * 5+4,none⟩ (.bool (nu == 1)))) :
  Calls prog 65 #[.pointer (some ⟨g,0,none⟩),.agg #[.int .i64 kd,.int .i64 ex,.int .i64 nm,.int .i64 ad,.int .i64 nu,.int .i64 pr]] w G:=by
 have hgw:g < w.heap.size:=(aL.1 hg).1
 generalize hW0:w.alloc (.cells #[.int .i64 kd,.int .i64 ex,.int .i64 nm,.int .i64 ad,.int .i64 nu,.int .i64 pr] 37)=W0
 have hB0:Below w.heap.size w W0:=by subst hW0;exact(Below.refl w.heap.size w).alloc (aK _) _
 have b0:W0.heap[w.heap.size]?=some (.cells #[.int .i64 kd,.int .i64 ex,.int .i64 nm,.int .i64 ad,.int .i64 nu,.int .i64 pr] 37 (0,0)):=by subst hW0;exact World.alloc_heap_new w _
 have hs0:W0.heap.size=w.heap.size+1:=by subst hW0;simp
 have c2:W0.cell? ⟨w.heap.size,2,none⟩=some (.int .i64 nm):=(cell_of_row _ _ _ _ 37 (0,0) b0).trans rfl;have c4:W0.cell? ⟨w.heap.size,4,none⟩=some (.int .i64 nu):=(cell_of_row _ _ _ _ 37 (0,0) b0).trans rfl;have hg0:=(hB0.block g hgw).trans hg;cases fnd
 ·have h84:Calls prog 84 #[.pointer (some ⟨g,0,none⟩),.int .i64 nm,.func (.func 95) #[] #[.pointer (some ⟨w.heap.size,0,none⟩)]] W0 _:=qJ g a nm q q2 n cap n2 cap2 p _ W0 hg0 (h82 W0 hB0)
  go_enter func65,ntmps65
  go_wp2_with (go_at_call 84;refine h84.mono ?_;clear h84;rintro e w1 ⟨rfl,hb1⟩)
  exact hG0 (by simp) _ (hB0.trans (hb1.mono hB0.size))
 ·obtain⟨hpn,gb,cur,rfl,hb,hcs⟩:=hf rfl;have hbw:gb < w.heap.size:=(aL.1 hb).1;have h84:Calls prog 84 #[.pointer (some ⟨g,0,none⟩),.int .i64 nm,.func (.func 95) #[] #[.pointer (some ⟨w.heap.size,0,none⟩)]] W0 _:=aGq g w.heap.size a nm q2 gb n cap n2 cap2 p true W0 nu cur hg0 ((hB0.block gb hbw).trans hb) hcs c4 (by omega) (h82 W0 hB0) hpn
  go_enter func65,ntmps65
  go_wp2_with (go_at_call 84;refine h84.mono ?_;clear h84;rintro e w1 ⟨rfl,w2,hb2,rfl⟩)
  exact hG1 (by simp) _ gb (hB0.trans (hb2.mono hB0.size)) (by simp)
end
set_option maxHeartbeats 0
def oY (b:Bk):List Value:=[.int .i64 b.1,.int .i64 b.2.1,.int .i64 b.2.2.1,.int .i64 b.2.2.2.1,.bool b.2.2.2.2]
theorem sL (b:Bk):(oY b).length=5:=rfl
theorem aD3 {α:Type}(f:α->List Value)(h:∀ x,∀ v∈f x,v.oneCell'=true)(xs:List α):∀ v∈xs.flatMap f,v.oneCell'=true:=λv hv=>by
 obtain⟨x,_,hx⟩:=bB.1 hv;exact h x v hx
theorem aDf (b:Bk):∀ v∈oY b,v.oneCell'=true:=by
 intro v hv;simp[oY]at hv;rcases hv with rfl | rfl | rfl | rfl | rfl<;>rfl
theorem sH {α:Type}(f:α->List Value){K:Nat}(hK:∀ x,(f x).length=K):∀ (xs:List α) (i:Nat),(xs.flatMap f).take (i * K)=(xs.take i).flatMap f
 | [],i=>by simp
 | x::xs,0=>by simp
 | x::xs,i+1=>by
  have:=sH f hK xs i;rw[List.take_succ_cons,aR,aR,eQ,<-this,List.take_append,hK,cT (by rw[hK];omega),iH]
theorem sI {α:Type}(f:α->List Value){K:Nat}(hK:∀ x,(f x).length=K):∀ (xs:List α) (i:Nat),(xs.flatMap f).drop (i * K)=(xs.drop i).flatMap f
 | [],i=>by simp
 | x::xs,0=>by simp
 | x::xs,i+1=>by
  have:=sI f hK xs i;rw[List.drop_succ_cons,aR,eQ,<-this,List.drop_append,hK,List.drop_of_length_le (by rw[hK];omega),iH,eO]
theorem aFQ {W:World}{m:Nat}{bs:LB}{v:Value}{fp:List Nat}(h:OwnL cxT W m (some (.inr { own:=2,nm:=0,e:=68,o:=true,xs:=bs })) v fp) :
  W.ownsRow 0 68 5 v bs.length (bs.flatMap oY)/\fp=v.ownBlock.toList:=by
 cases m with
 | zero=>exact h.elim
 | succ m=>
  obtain⟨us,fpl,hrow,hfp,hul,hfl,hel⟩:=h;have hfe:(bs.flatMap (cxT.enc 68 true))=(bs.flatMap oY).map lv:=by
   rw[List.map_flatMap];rfl
  have hus:us=bs.flatMap oY:=by
   refine rU (vs:=bs.flatMap oY) ?_ λj v u hv hu=>?_
   ·rw[hul,hfe,dK]
   ·have hl:(bs.flatMap (cxT.enc 68 true))[j]?=some (lv v):=by rw[hfe,aX,hv];rfl
    have hj:j < fpl.length:=by rw[hfl];exact(aI.1 hu).1
    have:=hel j _ _ _ hl hu (aC hj);cases m<;>exact this.1
  subst hus;refine⟨hrow,?_⟩;rw[hfp];have:List.flatten fpl=[]:=by
   rw[List.flatten_eq_nil_iff];intro f hf;obtain⟨j,hj,rfl⟩:=dL.1 hf;have hju:j < (bs.flatMap oY).length:=by rw[<-hfl];exact hj
   have hl:(bs.flatMap (cxT.enc 68 true))[j]?=some (lv (bs.flatMap oY)[j]):=by rw[hfe,aX,aC hju];rfl
   have:=hel j _ _ _ hl (aC hju) (aC hj);cases m<;>exact this.2
  rw[this,dR]
theorem zA {W:World}{bs:LB}{v:Value}(h:W.ownsRow 0 68 5 v bs.length (bs.flatMap oY)):OwnL cxT W 1 (some (.inr { own:=2,nm:=0,e:=68,o:=true,xs:=bs })) v v.ownBlock.toList:=by
 have hfe:(bs.flatMap (cxT.enc 68 true))=(bs.flatMap oY).map lv:=by
  rw[List.map_flatMap];rfl
 refine⟨bs.flatMap oY,(bs.flatMap oY).map λ_=>[],h,?_,?_,by simp,λj l c f h1 h2 h3=>?_⟩
 ·have:List.flatten ((bs.flatMap oY).map λ_=>([]:List Nat))=[]:=by
   rw[List.flatten_eq_nil_iff];intro f hf;obtain⟨_,_,rfl⟩:=aM.1 hf
   rfl
  rw[this,dR]
 ·exact(congrArg List.length hfe).symm▸(by simp)
 ·have h1:((bs.flatMap oY).map lv)[j]?=some l:=by rw[<-hfe];exact h1
  rw[aX,h2]at h1;cases h1;rw[aX,h2]at h3;cases h3;exact⟨rfl,rfl⟩
def m83 (x:LB×Int×LB):Option LB:=match x with
 | (bs,i,[b])=>if 0<=i/\i<=(bs.length:Int)/\bs.length<=100 then some (bs.take i.toNat++[b]++bs.drop i.toNat)else none
 | _=>none
theorem zW {W:World}{S:Nat->Prop}{bs:LB}{u:Value}{f:List Nat}(h:ResA cxT W S (.inl (ls { own:=2,nm:=0,e:=68,o:=true,xs:=bs })) u f) :
  W.ownsRow 0 68 5 u bs.length (bs.flatMap oY)/\f=u.ownBlock.toList:=by
 have h:ResL cxT W S (ls { own:=2,nm:=0,e:=68,o:=true,xs:=bs }) u f:=h;obtain⟨_,m,h2⟩:=(show(true=true/\∃ n,OwnL cxT W n (some (.inr { own:=2,nm:=0,e:=68,o:=true,xs:=bs })) u f) from h)
 exact aFQ h2
theorem aEH {W:World}{N:Nat->Prop}{bs:LB}{u:Value}(h:W.ownsRow 0 68 5 u bs.length (bs.flatMap oY))(hN:∀ b,u.ownBlock=some b->N b/\b < W.heap.size) :
  ResV cxT W (λ_=>False) N (.inr (.inl [.inl (ls { own:=2,nm:=0,e:=68,o:=true,xs:=bs })])) (.tuple [u].toArray):=by
 refine⟨u.ownBlock.toList,?_,λb hb=>hN b (by simpa using hb),[u],[u.ownBlock.toList],rfl,by simp,rfl,rfl,λj a u' f h1 h2 h3=>?_⟩
 ·cases u.ownBlock<;>simp
 ·match j with
  | 0=>cases h1;cases h2;cases h3;exact⟨rfl,1,zA h⟩
  | j+1=>simp at h2
theorem aPY:SatI prog cxT 83 (c83 m83).nres (c83 m83).F:=by
 intro w l us fps cs hres hnd hlt hF;obtain⟨⟨bs,i,vs⟩,t,rfl,hx,rfl⟩:=sF hF;obtain⟨h1,h2,h3⟩:=(show ResAs cxT w (λ_=>False) [.inl (ls { own:=2,nm:=0,e:=68,o:=true,xs:=bs }),.inl (lv (.int .i64 i)),.inl (ls { own:=2,nm:=0,e:=68,o:=true,xs:=vs })] us fps from hres)
 match us,fps,h1,h2,h3,hnd,hlt with
 | [u0,u1,u2],[f0,f1,f2],_,_,h3,hnd,hlt=>
  obtain⟨r0,e0⟩:=zW (h3 0 _ _ _ rfl rfl rfl);obtain⟨e1,e1'⟩:=(show u1=.int .i64 i/\f1=[] from h3 1 _ _ _ rfl rfl rfl)
  obtain⟨r2,e2⟩:=zW (h3 2 _ _ _ rfl rfl rfl);subst e0;subst e1;subst e1';subst e2;unfold m83 at hx;split at hx
  ·rename_i bs' i' b heq;simp only[aY]at heq;obtain⟨rfl,rfl,rfl⟩:=heq;split at hx
   ·rename_i hc;obtain⟨hc0,hc1,hc2⟩:=hc;cases hx;obtain⟨k,rfl⟩:=jB hc0;simp only[Int.ofNat_eq_natCast,aV]at hc1 ⊢;rcases r2.2 with⟨_,h0⟩ | ⟨vb,vc,cv,rfl,_,hvb,hvc,_,_,hcv⟩
    ·simp at h0
    ·have hne:u0.ownBlock≠some vb:=λh=>by
      rw[h]at hnd;simp[Value.ownBlock]at hnd
     refine(aRH u0 bs.length k (bs.flatMap oY) (oY b) vb vc cv 68 w r0 (by omega) (by omega) rfl hvb (by rw[<-show[b].flatMap oY=oY b by simp];exact hcv) hne (aD3 _ aDf _) (aDf b)).mono ?_;rintro e W ⟨u,rfl,k1,k2,k3⟩;refine⟨[u],rfl,rfl,⟨k2.os,k2.tape,k2.output,k2.size,λx hx=>k2.block x λh=>hx (h.imp id λh=>?_)⟩,?_⟩
     ·simp[h]
     ·refine aEH ?_ λx hx=>⟨(k3 x hx).1.imp id λh=>by simp[h],(k3 x hx).2⟩
      have e1:=sH oY sL bs k;have e2:=sI oY sL bs k;rw[show(bs.take k++[b]++bs.drop k).length=bs.length+1 by simp;omega,bE,bE,<-e1,<-e2];simpa using k1
   ·cases hx
  ·cases hx
def vpC (v:Vp)(s:Value):List Value:=[.int .i64 v.1,.int .i64 v.2.1,.int .i64 v.2.2.1,s]
def kJ (vs:LV)(ss:List Value):List Value:=(vs.zip ss).flatMap λp=>vpC p.1 p.2
def tR (l:List Int):List Value:=l.flatMap λx=>[.int .i64 x]
theorem aH5 {W:World}{m:Nat}{bs:List Int}{v:Value}{fp:List Nat}(h:OwnL cxT W m (some (.inr { own:=2,nm:=0,e:=2,o:=true,xs:=bs })) v fp) :
  W.ownsRow 0 2 1 v bs.length (tR bs)/\fp=v.ownBlock.toList:=by
 cases m with
 | zero=>exact h.elim
 | succ m=>
  obtain⟨us,fpl,hrow,hfp,hul,hfl,hel⟩:=h;have hfe:(bs.flatMap (cxT.enc 2 true))=(tR bs).map lv:=by
   unfold tR;rw[List.map_flatMap];rfl
  have hus:us=tR bs:=by
   refine rU (vs:=tR bs) ?_ λj v u hv hu=>?_
   ·rw[hul,hfe,dK]
   ·have hl:(bs.flatMap (cxT.enc 2 true))[j]?=some (lv v):=by rw[hfe,aX,hv];rfl
    have hj:j < fpl.length:=by rw[hfl];exact(aI.1 hu).1
    have:=hel j _ _ _ hl hu (aC hj);cases m<;>exact this.1
  subst hus;refine⟨hrow,?_⟩;rw[hfp];have:List.flatten fpl=[]:=by
   rw[List.flatten_eq_nil_iff];intro f hf;obtain⟨j,hj,rfl⟩:=dL.1 hf;have hju:j < (tR bs).length:=by rw[<-hfl];exact hj
   have hl:(bs.flatMap (cxT.enc 2 true))[j]?=some (lv (tR bs)[j]):=by rw[hfe,aX,aC hju];rfl
   have:=hel j _ _ _ hl (aC hju) (aC hj);cases m<;>exact this.2
  rw[this,dR]
theorem rA {W:World}{bs:List Int}{v:Value}(h:W.ownsRow 0 2 1 v bs.length (tR bs)):OwnL cxT W 1 (some (.inr { own:=2,nm:=0,e:=2,o:=true,xs:=bs })) v v.ownBlock.toList:=by
 have hfe:(bs.flatMap (cxT.enc 2 true))=(tR bs).map lv:=by
  unfold tR;rw[List.map_flatMap];rfl
 refine⟨tR bs,(tR bs).map λ_=>[],h,?_,?_,by simp,λj l c f h1 h2 h3=>?_⟩
 ·have:List.flatten ((tR bs).map λ_=>([]:List Nat))=[]:=by
   rw[List.flatten_eq_nil_iff];intro f hf;obtain⟨_,_,rfl⟩:=aM.1 hf
   rfl
  rw[this,dR]
 ·exact(congrArg List.length hfe).symm▸(by simp)
 ·have h1:((tR bs).map lv)[j]?=some l:=by rw[<-hfe];exact h1
  rw[aX,h2]at h1;cases h1;rw[aX,h2]at h3;cases h3;exact⟨rfl,rfl⟩
theorem aIP {j n:Nat}(h:j < n * 4):∃ i t,j=i * 4+t/\t < 4/\i < n:=⟨j / 4,j % 4,by omega,by omega,by omega⟩
theorem aFN {W:World}{m:Nat}{vs:LV}{v:Value}{fp:List Nat}(h:OwnL cxT W m (some (.inr { own:=2,nm:=0,e:=76,o:=true,xs:=vs })) v fp) :
  ∃ ss:List Value,ss.length=vs.length/\W.ownsRow 0 76 4 v vs.length (kJ vs ss)/\(∀ (i:Nat) (x:Vp) (s:Value),vs[i]?=some x->ss[i]?=some s->W.ownsRow 0 2 1 s x.2.2.2.length (tR x.2.2.2))/\fp=v.ownBlock.toList++ss.flatMap λs=>s.ownBlock.toList:=by
 cases m with
 | zero=>exact h.elim
 | succ m=>
  obtain⟨us,fpl,hrow,hfp,hul,hfl,hel⟩:=h;have hl4:(vs.flatMap (cxT.enc 76 true)).length=vs.length * 4:=eX _ _ (λx=>bZ.len 76 true x) vs;have hul4:us.length=vs.length * 4:=hul.trans hl4;have hfl4:fpl.length=vs.length * 4:=hfl.trans hul4;have hat:∀ (i:Nat) (x:Vp),vs[i]?=some x->∀ (t:Nat) (l:L cxT.ty),t < 4->(cxT.enc 76 true x)[t]?=some l->∃ c f,us[i * 4+t]?=some c/\fpl[i * 4+t]?=some f/\OwnL cxT W m l c f:=λi x hx t l ht hl=>by
   have hi:i < vs.length:=(aI.1 hx).1;have hj:i * 4+t < vs.length * 4:=by omega
   have h1:=gS (cxT.enc 76 true) 4 (λx=>bZ.len 76 true x) vs i x hx t ht;exact⟨us[i * 4+t]'(by omega),fpl[i * 4+t]'(by omega),aC _,aC _,hel _ _ _ _ (h1.trans hl) (aC (by omega)) (aC (by omega))⟩
  have hint:∀ (i:Nat) (x:Vp),vs[i]?=some x->∀ (t:Nat) (a:Int),t < 4->(cxT.enc 76 true x)[t]?=some (lv (.int .i64 a))->us[i * 4+t]?=some (.int .i64 a)/\fpl[i * 4+t]?=some []:=λi x hx t a ht hl=>by
   obtain⟨c,f,h1,h2,h3⟩:=hat i x hx t _ ht hl;have:c=.int .i64 a/\f=[]:=by cases m<;>exact h3
   rw[h1,h2,this.1,this.2];exact⟨rfl,rfl⟩
  have hin:∀ (i:Nat) (x:Vp),vs[i]?=some x->∃ c,us[i * 4+3]?=some c/\fpl[i * 4+3]?=some c.ownBlock.toList/\W.ownsRow 0 2 1 c x.2.2.2.length (tR x.2.2.2):=λi x hx=>by
   obtain⟨c,f,h1,h2,h3⟩:=hat i x hx 3 _ (by omega) rfl;obtain⟨h4,h5⟩:=aH5 h3;exact⟨c,h1,by rw[h2,h5],h4⟩
  refine⟨(List.range vs.length).map λi=>us.getD (i * 4+3) undef,by simp,?_,?_,?_⟩
  ·have:us=kJ vs ((List.range vs.length).map λi=>us.getD (i * 4+3) undef):=by
    apply dV;intro j;by_cases hj:j < vs.length * 4
    ·obtain⟨i,t,rfl,ht,hi⟩:=aIP hj;have hx:vs[i]?=some vs[i]:=aC hi;have hz:(vs.zip ((List.range vs.length).map λi=>us.getD (i * 4+3) undef))[i]?=some (vs[i],us.getD (i * 4+3) undef):=by
      rw[List.getElem?_zip_eq_some];exact⟨hx,by simp[hi]⟩
     unfold kJ;rw[gS _ 4 (λp=>rfl) _ i _ hz t ht];obtain⟨c,h1,_,_⟩:=hin i _ hx
     match t,ht with
     | 0,_=>rw[(hint i _ hx 0 _ (by omega) rfl).1];rfl
     | 1,_=>rw[(hint i _ hx 1 _ (by omega) rfl).1];rfl
     | 2,_=>rw[(hint i _ hx 2 _ (by omega) rfl).1];rfl
     | 3,_=>rw[h1];simp[vpC,List.getD,h1]
    ·rw[bQ (by omega),bQ];unfold kJ;rw[eX _ 4 (λp=>rfl)];simp;omega
   rw[<-this];exact hrow
  ·intro i x s hx hs;have hi:i < vs.length:=(aI.1 hx).1;obtain⟨c,h1,_,h3⟩:=hin i x hx;have:s=c:=by
    simp[hi,List.getD,h1]at hs;exact hs.symm
   rw[this];exact h3
  ·rw[hfp];congr 1;have:fpl=(List.range vs.length).flatMap λi=>[[],[],[],(us.getD (i * 4+3) undef).ownBlock.toList]:=by
    apply dV;intro j;by_cases hj:j < vs.length * 4
    ·obtain⟨i,t,rfl,ht,hi⟩:=aIP hj;have hx:vs[i]?=some vs[i]:=aC hi;rw[gS _ 4 (λp=>rfl) _ i i (by simp[hi]) t ht];obtain⟨c,h1,h2,_⟩:=hin i _ hx
     match t,ht with
     | 0,_=>rw[(hint i _ hx 0 _ (by omega) rfl).2];rfl
     | 1,_=>rw[(hint i _ hx 1 _ (by omega) rfl).2];rfl
     | 2,_=>rw[(hint i _ hx 2 _ (by omega) rfl).2];rfl
     | 3,_=>rw[h2];simp[List.getD,h1]
    ·rw[bQ (by omega),bQ];rw[eX _ 4 (λp=>rfl)];simp;omega
   rw[this,lR,gR];simp
theorem yT {W:World}{vs:LV}{ss:List Value}{v:Value}(hl:ss.length=vs.length)(h:W.ownsRow 0 76 4 v vs.length (kJ vs ss))(hin:∀ (i:Nat) (x:Vp) (s:Value),vs[i]?=some x->ss[i]?=some s->W.ownsRow 0 2 1 s x.2.2.2.length (tR x.2.2.2)) :
  OwnL cxT W 2 (some (.inr { own:=2,nm:=0,e:=76,o:=true,xs:=vs })) v (v.ownBlock.toList++ss.flatMap λs=>s.ownBlock.toList):=by
 have:=aH4 (m:=1) bZ (rfl:cxT.size 76=4) (by decide) (xs:=vs) (v:=v) (us:=kJ vs ss) (λi=>[[],[],[],(ss.getD i undef).ownBlock.toList]) (λi=>rfl) h (λi (x:Vp) hx t l c f h1 h2 h3=>by
  replace h2:(kJ vs ss)[i * 4+t]?=some c:=h2;replace hx:vs[i]?=some x:=hx;have hi:i < vs.length:=(aI.1 hx).1;have hs:ss[i]?=some (ss.getD i undef):=by simp[List.getD,show i < ss.length by omega]
  have hz:(vs.zip ss)[i]?=some (x,ss.getD i undef):=by rw[List.getElem?_zip_eq_some];exact⟨hx,hs⟩
  have ht:t < 4:=by
   have:=(aI.1 h3).1;exact this
  unfold kJ at h2;rw[gS _ 4 (λp=>rfl) _ i _ hz t ht]at h2
  match t,ht with
  | 0,_=>cases h1;cases h2;cases h3;exact⟨rfl,rfl⟩
  | 1,_=>cases h1;cases h2;cases h3;exact⟨rfl,rfl⟩
  | 2,_=>cases h1;cases h2;cases h3;exact⟨rfl,rfl⟩
  | 3,_=>cases h1;cases h2;cases h3;exact rA (hin i x _ hx hs))
 have e:((List.range vs.length).flatMap λi=>(([[],[],[],(ss.getD i undef).ownBlock.toList]:List (List Nat))).flatten)=ss.flatMap λs=>s.ownBlock.toList:=by
  have:ss=(List.range vs.length).map λi=>ss.getD i undef:=by
   apply dV;intro j;by_cases hj:j < vs.length
   ·simp[hj,List.getD,show j < ss.length by omega]
   ·rw[bQ (by omega),bQ (by simp;omega)]
  conv=>rhs;rw[this]
  rw[gR];simp
 exact Eq.mp (congrArg (λz=>OwnL cxT W 2 (some (.inr { own:=2,nm:=0,e:=76,o:=true,xs:=vs })) v (v.ownBlock.toList++z)) e) this
end Go.Proofs.Tryz
