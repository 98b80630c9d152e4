/- A part of the proof of FnExactCopyMail: LiSd, LiSe, LiSf. -/
import Derived.Test.YtalbnpcbmakijaaGreatLiPc
import Derived.Test.YtalbnpcbmakijaaGreatVmGr
import Derived.WalkKit
import Derived.OwnWalk
import Derived.OwnWalkIn
import Derived.Below
import Derived.WalkMore
set_option linter.unusedSimpArgs false
set_option linter.unusedVariables false
namespace Go.Proofs.Tryz
open Go Go.VM Go.RowKit
theorem aRD:(prog.info? 78).map (λi=>(i.zero.isSome,(i.zero.getD .nilFunc).cells.size,i.size,i.bytes))=some (true,9,9,88):=by kernel_rfl
theorem aL8:∃ i z,prog.info? 78=some i/\i.zero=some z/\z.cells.size=9/\i.size=9/\i.bytes=88:=by
 have h:=aRD;obtain⟨i,hi,h⟩:=gX.1 h;simp only[aM]at h;obtain⟨h1,h2,h3,h4⟩:=h;obtain⟨z,hz⟩:=bO.1 h1;rw[hz]at h2;exact⟨i,z,hi,hz,h2,h3,h4⟩
section
attribute [local go_sem] Oper.semAt_some
set_option maxRecDepth 100000 in
set_option maxHeartbeats 4000000 in
theorem aL1 (q:Option Addr)(n c:Nat)(us:List Value)(hl:us.length=n * 9)(hn:n<=2000000)(h1:∀ x∈us,x.oneCell'=true)(w:World)
  (hq:n≠0->∃ ad,q=some ad/\∀ (j:Nat) x,us[j]?=some x->(ad.add j).block < w.heap.size/\w.cell? (ad.add j)=some x) :
  Calls prog 121 #[.slice q n c] w λe W=>∃ v,e=.returned v/\W.ownsRow w.heap.size 78 9 v n us/\Below w.heap.size w W:=by
 obtain⟨i,z,hi,hz,hz1,hz2,hz3⟩:=aL8;by_cases h0:n=0
 ·subst h0;obtain rfl:us=[]:=bC (by omega)
  go_enter func121,ntmps121
  go_wp2
  go_ret
  exact⟨_,rfl,World.ownsRow_nil _ _ _ _,Below.refl _ _⟩
 ·obtain⟨ad,rfl,hc⟩:=hq h0;have hne:¬ ((n:Int)=0):=by omega
  go_enter func121,ntmps121
  have hmin:Nat.min n n=n:=Nat.min_self n
  go_wp2_with (first
   | (at_make;refine wpList_make_full _ rfl _ _ 31 rfl w.heap.size 78 i z 9 underlying31 hi hz hz2 _ _ _ _ n rfl rfl rfl rfl (by rw[hz3];omega) (by unfold maxLen;omega) (aG _) ?_;intro w1 hown hgr;obtain⟨cur,hg,hcs,hbg,hnc,hcm,htake⟩:=gD hown)
   | (refine iN rfl _ _ 31 31 rfl 78 9 underlying31 (by rw[hi];simp[hz2]) w.heap.size 0 n n ad n c rfl rfl cur 78 hg us (by rw[hmin];exact hl) ?hsrc ?hfit h1 ?_))
  case hsrc=>
   intro j x hj;obtain⟨k1,k2⟩:=hc j x hj;exact(((Below.refl w.heap.size w).grown hgr (aG _) (λk e=>by cases e)).cell k1).trans k2
  case hfit=>omega
  go_ret
  have hB1:Below w.heap.size w w1:=(Below.refl w.heap.size w).grown hgr (aG _) (λk e=>by cases e);refine⟨_,rfl,lX hown _ ?_ us ?_ hl,below_setRow hB1 (aG _) _⟩
  ·simp[hl,hcs]
  ·simp[hl]
end
theorem aRC:(prog.info? 96).map (λi=>(i.zero.isSome,(i.zero.getD .nilFunc).cells.size,i.size,i.bytes))=some (true,10,10,144):=by kernel_rfl
theorem aGW:∃ i z,prog.info? 96=some i/\i.zero=some z/\z.cells.size=10/\i.size=10/\i.bytes=144:=by
 have h:=aRC;obtain⟨i,hi,h⟩:=gX.1 h;simp only[aM]at h;obtain⟨h1,h2,h3,h4⟩:=h;obtain⟨z,hz⟩:=bO.1 h1;rw[hz]at h2;exact⟨i,z,hi,hz,h2,h3,h4⟩
section
attribute [local go_sem] Oper.semAt_some
set_option maxRecDepth 100000 in
set_option maxHeartbeats 4000000 in
theorem aL4 (q:Option Addr)(n c:Nat)(us:List Value)(hl:us.length=n * 10)(hn:n<=2000000)(h1:∀ x∈us,x.oneCell'=true)(w:World)
  (hq:n≠0->∃ ad,q=some ad/\∀ (j:Nat) x,us[j]?=some x->(ad.add j).block < w.heap.size/\w.cell? (ad.add j)=some x) :
  Calls prog 117 #[.slice q n c] w λe W=>∃ v,e=.returned v/\W.ownsRow w.heap.size 96 10 v n us/\Below w.heap.size w W:=by
 obtain⟨i,z,hi,hz,hz1,hz2,hz3⟩:=aGW;by_cases h0:n=0
 ·subst h0;obtain rfl:us=[]:=bC (by omega)
  go_enter func117,ntmps117
  go_wp2
  go_ret
  exact⟨_,rfl,World.ownsRow_nil _ _ _ _,Below.refl _ _⟩
 ·obtain⟨ad,rfl,hc⟩:=hq h0;have hne:¬ ((n:Int)=0):=by omega
  go_enter func117,ntmps117
  have hmin:Nat.min n n=n:=Nat.min_self n
  go_wp2_with (first
   | (at_make;refine wpList_make_full _ rfl _ _ 30 rfl w.heap.size 96 i z 10 underlying30 hi hz hz2 _ _ _ _ n rfl rfl rfl rfl (by rw[hz3];omega) (by unfold maxLen;omega) (aG _) ?_;intro w1 hown hgr;obtain⟨cur,hg,hcs,hbg,hnc,hcm,htake⟩:=gD hown)
   | (refine iN rfl _ _ 30 30 rfl 96 10 underlying30 (by rw[hi];simp[hz2]) w.heap.size 0 n n ad n c rfl rfl cur 96 hg us (by rw[hmin];exact hl) ?hsrc ?hfit h1 ?_))
  case hsrc=>
   intro j x hj;obtain⟨k1,k2⟩:=hc j x hj;exact(((Below.refl w.heap.size w).grown hgr (aG _) (λk e=>by cases e)).cell k1).trans k2
  case hfit=>omega
  go_ret
  have hB1:Below w.heap.size w w1:=(Below.refl w.heap.size w).grown hgr (aG _) (λk e=>by cases e);refine⟨_,rfl,lX hown _ ?_ us ?_ hl,below_setRow hB1 (aG _) _⟩
  ·simp[hl,hcs]
  ·simp[hl]
end
theorem aRE:(prog.info? 66).map (λi=>(i.zero.isSome,(i.zero.getD .nilFunc).cells.size,i.size,i.bytes))=some (true,2,2,16):=by kernel_rfl
theorem aL9:∃ i z,prog.info? 66=some i/\i.zero=some z/\z.cells.size=2/\i.size=2/\i.bytes=16:=by
 have h:=aRE;obtain⟨i,hi,h⟩:=gX.1 h;simp only[aM]at h;obtain⟨h1,h2,h3,h4⟩:=h;obtain⟨z,hz⟩:=bO.1 h1;rw[hz]at h2;exact⟨i,z,hi,hz,h2,h3,h4⟩
section
attribute [local go_sem] Oper.semAt_some
set_option maxRecDepth 100000 in
set_option maxHeartbeats 4000000 in
theorem aL3 (q:Option Addr)(n c:Nat)(us:List Value)(hl:us.length=n * 2)(hn:n<=2000000)(h1:∀ x∈us,x.oneCell'=true)(w:World)
  (hq:n≠0->∃ ad,q=some ad/\∀ (j:Nat) x,us[j]?=some x->(ad.add j).block < w.heap.size/\w.cell? (ad.add j)=some x) :
  Calls prog 119 #[.slice q n c] w λe W=>∃ v,e=.returned v/\W.ownsRow w.heap.size 66 2 v n us/\Below w.heap.size w W:=by
 obtain⟨i,z,hi,hz,hz1,hz2,hz3⟩:=aL9;by_cases h0:n=0
 ·subst h0;obtain rfl:us=[]:=bC (by omega)
  go_enter func119,ntmps119
  go_wp2
  go_ret
  exact⟨_,rfl,World.ownsRow_nil _ _ _ _,Below.refl _ _⟩
 ·obtain⟨ad,rfl,hc⟩:=hq h0;have hne:¬ ((n:Int)=0):=by omega
  go_enter func119,ntmps119
  have hmin:Nat.min n n=n:=Nat.min_self n
  go_wp2_with (first
   | (at_make;refine wpList_make_full _ rfl _ _ 32 rfl w.heap.size 66 i z 2 underlying32 hi hz hz2 _ _ _ _ n rfl rfl rfl rfl (by rw[hz3];omega) (by unfold maxLen;omega) (aG _) ?_;intro w1 hown hgr;obtain⟨cur,hg,hcs,hbg,hnc,hcm,htake⟩:=gD hown)
   | (refine iN rfl _ _ 32 32 rfl 66 2 underlying32 (by rw[hi];simp[hz2]) w.heap.size 0 n n ad n c rfl rfl cur 66 hg us (by rw[hmin];exact hl) ?hsrc ?hfit h1 ?_))
  case hsrc=>
   intro j x hj;obtain⟨k1,k2⟩:=hc j x hj;exact(((Below.refl w.heap.size w).grown hgr (aG _) (λk e=>by cases e)).cell k1).trans k2
  case hfit=>omega
  go_ret
  have hB1:Below w.heap.size w w1:=(Below.refl w.heap.size w).grown hgr (aG _) (λk e=>by cases e);refine⟨_,rfl,lX hown _ ?_ us ?_ hl,below_setRow hB1 (aG _) _⟩
  ·simp[hl,hcs]
  ·simp[hl]
end
def aJM (x:List (cxT.ty 66)):Option (List (cxT.ty 66)):=if x.length<=2000000 then some x else none
theorem aRa:Sat prog cxT 119 (bFv aJM):=by
 intro w A0 l us r hA hargs hF;obtain⟨x,t,rfl,hx,rfl⟩:=oY hF;obtain⟨u,rfl,hu⟩:=wP (show ArgAs cxT w A0 [.inl (ls (ro 66 x))] us from hargs);unfold aJM at hx;split at hx
 ·rename_i hc;cases hx;obtain⟨_,n,hu⟩:=(show(ro 66 x:SlD cxT.ty).own=0/\∃ n,RepL cxT w A0 n (some (.inr (ro 66 x))) u from hu)
  have hfl:cxT.flat 66=true:=rfl;have hsz:cxT.size 66=2:=rfl;obtain⟨q,c,rfl,hcap,hrow⟩:=aAI bA hfl (by rw[hsz];omega) hu;have hln:=gF bA hfl x;rw[hsz]at hln;refine(aL3 q x.length c (bT cxT 66 x) hln hc (kY bA hfl x) w λh0=>?_).mono ?_
  ·rcases hrow with rfl | ⟨b,off,rfl,hS,h⟩
   ·exact absurd rfl h0
   ·exact⟨_,rfl,λj v hj=>⟨by rw[Addr.add_lit];exact hA b hS,by rw[Addr.add_lit];exact h j v hj⟩⟩
  ·rintro e W ⟨v,rfl,hown,hB⟩;refine⟨v,rfl,hB,aGC (xs:=x) bA hfl (λb hb=>hown.lt b hb) ?_⟩;rw[hsz];exact kT hown
 ·cases hx
theorem aMa:(prog.info? 118).map (λi=>(i.zero.isSome,(i.zero.getD .nilFunc).cells.size,i.size,i.bytes))=some (true,10,10,80):=by kernel_rfl
theorem aJY:∃ i z,prog.info? 118=some i/\i.zero=some z/\z.cells.size=10/\i.size=10/\i.bytes=80:=by
 have h:=aMa;obtain⟨i,hi,h⟩:=gX.1 h;simp only[aM]at h;obtain⟨h1,h2,h3,h4⟩:=h;obtain⟨z,hz⟩:=bO.1 h1;rw[hz]at h2;exact⟨i,z,hi,hz,h2,h3,h4⟩
section
attribute [local go_sem] Oper.semAt_some
set_option maxRecDepth 100000 in
set_option maxHeartbeats 4000000 in
theorem aL2 (q:Option Addr)(n c:Nat)(us:List Value)(hl:us.length=n * 10)(hn:n<=2000000)(h1:∀ x∈us,x.oneCell'=true)(w:World)
  (hq:n≠0->∃ ad,q=some ad/\∀ (j:Nat) x,us[j]?=some x->(ad.add j).block < w.heap.size/\w.cell? (ad.add j)=some x) :
  Calls prog 120 #[.slice q n c] w λe W=>∃ v,e=.returned v/\W.ownsRow w.heap.size 118 10 v n us/\Below w.heap.size w W:=by
 obtain⟨i,z,hi,hz,hz1,hz2,hz3⟩:=aJY;by_cases h0:n=0
 ·subst h0;obtain rfl:us=[]:=bC (by omega)
  go_enter func120,ntmps120
  go_wp2
  go_ret
  exact⟨_,rfl,World.ownsRow_nil _ _ _ _,Below.refl _ _⟩
 ·obtain⟨ad,rfl,hc⟩:=hq h0;have hne:¬ ((n:Int)=0):=by omega
  go_enter func120,ntmps120
  have hmin:Nat.min n n=n:=Nat.min_self n
  go_wp2_with (first
   | (at_make;refine wpList_make_full _ rfl _ _ 33 rfl w.heap.size 118 i z 10 underlying33 hi hz hz2 _ _ _ _ n rfl rfl rfl rfl (by rw[hz3];omega) (by unfold maxLen;omega) (aG _) ?_;intro w1 hown hgr;obtain⟨cur,hg,hcs,hbg,hnc,hcm,htake⟩:=gD hown)
   | (refine iN rfl _ _ 33 33 rfl 118 10 underlying33 (by rw[hi];simp[hz2]) w.heap.size 0 n n ad n c rfl rfl cur 118 hg us (by rw[hmin];exact hl) ?hsrc ?hfit h1 ?_))
  case hsrc=>
   intro j x hj;obtain⟨k1,k2⟩:=hc j x hj;exact(((Below.refl w.heap.size w).grown hgr (aG _) (λk e=>by cases e)).cell k1).trans k2
  case hfit=>omega
  go_ret
  have hB1:Below w.heap.size w w1:=(Below.refl w.heap.size w).grown hgr (aG _) (λk e=>by cases e);refine⟨_,rfl,lX hown _ ?_ us ?_ hl,below_setRow hB1 (aG _) _⟩
  ·simp[hl,hcs]
  ·simp[hl]
end
def aJL (x:List (cxT.ty 118)):Option (List (cxT.ty 118)):=if x.length<=2000000 then some x else none
theorem aQ9:Sat prog cxT 120 (bFu aJL):=by
 intro w A0 l us r hA hargs hF;obtain⟨x,t,rfl,hx,rfl⟩:=oY hF;obtain⟨u,rfl,hu⟩:=wP (show ArgAs cxT w A0 [.inl (ls (ro 118 x))] us from hargs);unfold aJL at hx;split at hx
 ·rename_i hc;cases hx;obtain⟨_,n,hu⟩:=(show(ro 118 x:SlD cxT.ty).own=0/\∃ n,RepL cxT w A0 n (some (.inr (ro 118 x))) u from hu)
  have hfl:cxT.flat 118=true:=rfl;have hsz:cxT.size 118=10:=rfl;obtain⟨q,c,rfl,hcap,hrow⟩:=aAI bA hfl (by rw[hsz];omega) hu;have hln:=gF bA hfl x;rw[hsz]at hln;refine(aL2 q x.length c (bT cxT 118 x) hln hc (kY bA hfl x) w λh0=>?_).mono ?_
  ·rcases hrow with rfl | ⟨b,off,rfl,hS,h⟩
   ·exact absurd rfl h0
   ·exact⟨_,rfl,λj v hj=>⟨by rw[Addr.add_lit];exact hA b hS,by rw[Addr.add_lit];exact h j v hj⟩⟩
  ·rintro e W ⟨v,rfl,hown,hB⟩;refine⟨v,rfl,hB,aGC (xs:=x) bA hfl (λb hb=>hown.lt b hb) ?_⟩;rw[hsz];exact kT hown
 ·cases hx
theorem aMb:(prog.info? 102).map (λi=>(i.zero.isSome,(i.zero.getD .nilFunc).cells.size,i.size,i.bytes))=some (true,9,9,72):=by kernel_rfl
theorem aJZ:∃ i z,prog.info? 102=some i/\i.zero=some z/\z.cells.size=9/\i.size=9/\i.bytes=72:=by
 have h:=aMb;obtain⟨i,hi,h⟩:=gX.1 h;simp only[aM]at h;obtain⟨h1,h2,h3,h4⟩:=h;obtain⟨z,hz⟩:=bO.1 h1;rw[hz]at h2;exact⟨i,z,hi,hz,h2,h3,h4⟩
section
attribute [local go_sem] Oper.semAt_some
set_option maxRecDepth 100000 in
set_option maxHeartbeats 4000000 in
theorem aL0 (q:Option Addr)(n c:Nat)(us:List Value)(hl:us.length=n * 9)(hn:n<=2000000)(h1:∀ x∈us,x.oneCell'=true)(w:World)
  (hq:n≠0->∃ ad,q=some ad/\∀ (j:Nat) x,us[j]?=some x->(ad.add j).block < w.heap.size/\w.cell? (ad.add j)=some x) :
  Calls prog 122 #[.slice q n c] w λe W=>∃ v,e=.returned v/\W.ownsRow w.heap.size 102 9 v n us/\Below w.heap.size w W:=by
 obtain⟨i,z,hi,hz,hz1,hz2,hz3⟩:=aJZ;by_cases h0:n=0
 ·subst h0;obtain rfl:us=[]:=bC (by omega)
  go_enter func122,ntmps122
  go_wp2
  go_ret
  exact⟨_,rfl,World.ownsRow_nil _ _ _ _,Below.refl _ _⟩
 ·obtain⟨ad,rfl,hc⟩:=hq h0;have hne:¬ ((n:Int)=0):=by omega
  go_enter func122,ntmps122
  have hmin:Nat.min n n=n:=Nat.min_self n
  go_wp2_with (first
   | (at_make;refine wpList_make_full _ rfl _ _ 76 rfl w.heap.size 102 i z 9 underlying76 hi hz hz2 _ _ _ _ n rfl rfl rfl rfl (by rw[hz3];omega) (by unfold maxLen;omega) (aG _) ?_;intro w1 hown hgr;obtain⟨cur,hg,hcs,hbg,hnc,hcm,htake⟩:=gD hown)
   | (refine iN rfl _ _ 76 76 rfl 102 9 underlying76 (by rw[hi];simp[hz2]) w.heap.size 0 n n ad n c rfl rfl cur 102 hg us (by rw[hmin];exact hl) ?hsrc ?hfit h1 ?_))
  case hsrc=>
   intro j x hj;obtain⟨k1,k2⟩:=hc j x hj;exact(((Below.refl w.heap.size w).grown hgr (aG _) (λk e=>by cases e)).cell k1).trans k2
  case hfit=>omega
  go_ret
  have hB1:Below w.heap.size w w1:=(Below.refl w.heap.size w).grown hgr (aG _) (λk e=>by cases e);refine⟨_,rfl,lX hown _ ?_ us ?_ hl,below_setRow hB1 (aG _) _⟩
  ·simp[hl,hcs]
  ·simp[hl]
end
end Go.Proofs.Tryz
namespace Go.Proofs.Tryz
open Go Go.VM Go.RowKit
def upd (K p:Nat)(us V:List Value):List Value:=(List.range us.length).map λj=>if j % K=p/\j / K < V.length then V.getD (j / K) undef else us.getD j undef
theorem vY (K p:Nat)(us V:List Value):(upd K p us V).length=us.length:=by simp[upd]
theorem vZ (K p:Nat)(us V:List Value)(j:Nat)(h:j < us.length):(upd K p us V)[j]?=some (if j % K=p/\j / K < V.length then V.getD (j / K) undef else us.getD j undef):=by
 simp[upd,h]
theorem aLz (K p:Nat)(us:List Value):upd K p us []=us:=by
 apply cW;intro j;by_cases h:j < us.length
 ·rw[vZ _ _ _ _ _ h];simp[h]
 ·rw[bI (by rw[vY];omega),bI (by omega)]
theorem aLx (K p:Nat)(hp:p < K)(us V:List Value)(v:Value):(upd K p us V).set (V.length * K+p) v=upd K p us (V++[v]):=by
 apply cW;intro j;have hK:0 < K:=by omega
 by_cases h:j < us.length
 ·rw[lO,vY,vZ _ _ _ _ _ h,vZ _ _ _ _ _ h];by_cases he:V.length * K+p=j
  ·subst he;have e1:(V.length * K+p) % K=p:=by rw[gL,Nat.mul_add_mod];exact Nat.mod_eq_of_lt hp
   have e2:(V.length * K+p) / K=V.length:=by rw[gL,Nat.mul_add_div hK,Nat.div_eq_of_lt hp];rfl
   simp[e1,e2,h]
  ·rw[if_neg he];congr 1;by_cases hm:j % K=p
   ·have hd:j / K≠V.length:=by
     intro hd;apply he;have:=iP j K;rw[hd,hm,gL]at this;exact this
    by_cases hl:j / K < V.length
    ·rw[if_pos ⟨hm,hl⟩,if_pos ⟨hm,by simp;omega⟩];simp[List.getD,bB hl]
    ·rw[if_neg (by omega),if_neg (by simp;omega)]
   ·rw[if_neg (by omega),if_neg (by omega)]
 ·rw[bI (by simp[vY];omega),bI (by rw[vY];omega)]
theorem aLy (K p:Nat)(us V:List Value)(k t:Nat)(ht:t < K)(hk:V.length<=k)(h:k * K+t < us.length):(upd K p us V)[k * K+t]?=us[k * K+t]?:=by
 have hK:0 < K:=by omega
 rw[vZ _ _ _ _ _ h];have e2:(k * K+t) / K=k:=by rw[gL,Nat.mul_add_div hK,Nat.div_eq_of_lt ht];rfl
 rw[if_neg (by rw[e2];omega)];simp[h]
theorem uZ {w w':World}{B C e K n:Nat}{v:Value}{xs:List Value}(h:w.ownsRow B e K v n xs)(hb:∀ b,v.ownBlock=some b->C<=b/\w'.heap[b]?=w.heap[b]?):w'.ownsRow C e K v n xs:=by
 refine⟨h.1,h.2.imp id ?_⟩;rintro⟨g,cap,cur,hv,hbg,hg,rest⟩;obtain⟨h1,h2⟩:=hb g (by rw[hv];rfl);exact⟨g,cap,cur,hv,h1,h2.trans hg,rest⟩
theorem iU {w:World}{B e K n:Nat}{v:Value}{xs:List Value}(h:w.ownsRow B e K v n xs){b:Nat}(hb:v.ownBlock=some b):B<=b/\b < w.heap.size:=by
 rcases h.2 with⟨hv,_⟩ | ⟨g,cap,cur,hv,hbg,hg,rest⟩
 ·rw[hv]at hb;cases hb
 ·rw[hv]at hb;cases hb;refine⟨hbg,?_⟩;rcases iC g w.heap.size with h | h
  ·exact h
  ·rw[Array.getElem?_eq_none h]at hg;cases hg
theorem aIM {w wr w2:World}{B C g cap n K p e eE KE:Nat}{us V:List Value}{M:Nat->Nat}{E:Nat->List Value}{v':Value}(hp:p < K)(hl:us.length=n * K)(hlt:V.length < n)
  (hrow:wr.ownsRow B e K (.slice (some ⟨g,0,none⟩) n cap) n (upd K p us V)) (hE:∀ i x,V[i]?=some x->wr.ownsRow B eE KE x (M i) (E i)) (hnd:(g::V.flatMap (·.ownBlock.toList)).Nodup)
  (hBs:B<=wr.heap.size) (hblk:∀ k,k < wr.heap.size->w2.heap[k]?=wr.heap[k]?) (hB2:Below B w w2) (hown2:w2.ownsRow C eE KE v' (M V.length) (E V.length)) (hC:wr.heap.size<=C) :
  (w2.setCell ⟨g,V.length * K+p,none⟩ v').ownsRow B e K (.slice (some ⟨g,0,none⟩) n cap) n (upd K p us (V++[v'])) ∧
  (∀ i x,(V++[v'])[i]?=some x->(w2.setCell ⟨g,V.length * K+p,none⟩ v').ownsRow B eE KE x (M i) (E i))/\(g::(V++[v']).flatMap (·.ownBlock.toList)).Nodup/\Below B w (w2.setCell ⟨g,V.length * K+p,none⟩ v'):=by
 obtain⟨cur,hg,hcs,hbg,hnc,hcm,htake⟩:=gD hrow;have hgs:=(iU hrow (b:=g) rfl).2;have hg2:w2.heap[g]?=some (.cells cur e (0,0)):=(hblk g hgs).trans hg;have hoth:∀ k,k≠g->(w2.setCell ⟨g,V.length * K+p,none⟩ v').heap[k]?=w2.heap[k]?:=λk hk=>heap_setCell_other w2 _ k v' hk
 have hold:∀ b,b∈V.flatMap (·.ownBlock.toList)->b < wr.heap.size:=λb hb=>by
  obtain⟨x,hx,hxb⟩:=aU.1 hb;obtain⟨i,hi⟩:=cK hx;exact(iU (hE i x hi) (by simpa using hxb)).2
 refine⟨?_,λi x hi=>?_,?_,hB2.setCell (p:=⟨g,V.length * K+p,none⟩) hbg v'⟩
 ·refine⟨by rw[vY];exact hl,.inr ⟨g,cap,cur.setIfInBounds (V.length * K+p) v',rfl,hbg,heap_setCell_same w2 g _ cur e v' hg2,hnc,hcm,by simpa using hcs,?_⟩⟩;rw[<-aLx K p hp,htake,Array.toList_setIfInBounds,List.take_set]
 ·by_cases hi2:i < V.length
  ·rw[bB hi2]at hi;refine uZ (hE i x hi) λb hb=>⟨(iU (hE i x hi) hb).1,?_⟩
   have hm:b∈V.flatMap (·.ownBlock.toList):=aU.2 ⟨x,aN hi,by simp[hb]⟩;have hne:b≠g:=λh=>(dD.1 hnd).1 (h▸hm)
   rw[hoth b hne,hblk b (hold b hm)]
  ·rw[aY (by omega)]at hi;have hik:i=V.length:=by
    have:=(aD.1 hi).1;simp at this;omega
   subst hik;simp only[mE,aJ,aB]at hi;subst hi;refine uZ hown2 λb hb=>?_
   have:=iU hown2 hb;exact⟨by omega,hoth b (by omega)⟩
 ·rw[bD,<-rI,aF];refine⟨hnd,?_,λa ha b hb=>?_⟩
  ·simp only[aR,List.flatMap_nil,eH];cases v'.ownBlock<;>simp
  ·simp only[aR,List.flatMap_nil,eH]at hb;have h2:=(iU hown2 (b:=b) (by simpa using hb)).1;rcases bK.1 ha with rfl | ha
   ·omega
   ·have:=hold a ha;omega
section
attribute [local go_sem] Oper.semAt_some
set_option maxRecDepth 100000 in
set_option maxHeartbeats 4000000 in
theorem aLZ (q:Option Addr)(n c:Nat)(us:List Value)(hl:us.length=n * 9)(hn:n<=2000000)(h1:∀ x∈us,x.oneCell'=true)(w:World)(B:Nat)(hBw:w.heap.size=B)
  (hq:n≠0->∃ ad,q=some ad/\∀ (j:Nat) x,us[j]?=some x->(ad.add j).block < w.heap.size/\w.cell? (ad.add j)=some x)
  (M:Nat->Nat) (E:Nat->List Value)
  (hel:∀ i,i < n->(∀ t,t < 7->∃ z,us[i * 9+t]?=some (.int .i64 z))/\(∃ z,us[i * 9+7]?=some (.bool z))/\(E i).length=M i * 9/\M i<=2000000/\(∀ x∈E i,x.oneCell'=true)/\∃ qi ci,us[i * 9+8]?=some (.slice qi (M i) ci) ∧
   (M i≠0->∃ ad,qi=some ad/\∀ (j:Nat) x,(E i)[j]?=some x->(ad.add j).block < B/\w.cell? (ad.add j)=some x)) :
  Calls prog 70 #[.slice q n c] w λe W=>∃ v V,e=.returned v/\V.length=n/\W.ownsRow B 78 9 v n (upd 9 8 us V)/\(∀ i x,V[i]?=some x->W.ownsRow B 102 9 x (M i) (E i)) ∧
   (v.ownBlock.toList++V.flatMap (·.ownBlock.toList)).Nodup/\Below B w W:=by
 go_enter func70,ntmps70
 go_wp2_with (go_at_call 121;refine(aL1 q n c us hl hn h1 w hq).mono ?_;rintro e w1 ⟨v,rfl,hown,hB1⟩;rw[hBw]at hown hB1;rcases hown.2 with⟨hv,hn0⟩ | ⟨g,cap,cur0,hv,hbg,hg0,hnc,hcm,hcs0,ht0⟩;all_goals subst hv)
 ·subst hn0;obtain rfl:us=[]:=bC (by omega)
  go_loopw [10] (λi wr=>i=.int .i64 0/\wr=w1) (λ_ _=>0)
  case atStart=>exact⟨rfl,rfl⟩
  case round=>
   obtain⟨rfl,rfl⟩:=hrel
   go_wp2
   go_ret
   exact⟨_,[],rfl,rfl,World.ownsRow_nil _ _ _ _,by simp,by simp[Value.ownBlock],hB1⟩
 ·go_loopw [10] (λi wr=>∃ V:List Value,V.length<=n/\i=.int .i64 V.length/\wr.ownsRow B 78 9 (.slice (some ⟨g,0,none⟩) n cap) n (upd 9 8 us V)/\(∀ i x,V[i]?=some x->wr.ownsRow B 102 9 x (M i) (E i))/\(g::V.flatMap (·.ownBlock.toList)).Nodup/\Below B w wr) (λi _=>n-(intOf i).toNat)
  case atStart=>exact⟨[],dZ _,rfl,by rw[aLz];exact hown,by simp,by simp,hB1⟩
  case round=>
   obtain⟨V,hV,rfl,hrow,hE,hnd,hB⟩:=hrel;by_cases hlt:V.length < n
   ·obtain⟨c0,c7,e1,e2,e3,qi,ci,e4,e5⟩:=hel V.length hlt;obtain⟨cur,hg,hcs,_,_,_,htake⟩:=gD hrow;have hk:∀ t,t < 9->∃ v,us[V.length * 9+t]?=some v/\wr.cell? ⟨g,V.length * 9+t,none⟩=some v/\v.oneCell'=true:=by
     intro t ht;have hlt2:V.length * 9+t < us.length:=by omega
     refine⟨us[V.length * 9+t],aC hlt2,?_,h1 _ (eB hlt2)⟩;have:=aLy 9 8 us V V.length t ht (aG _) hlt2;rw[htake,cG,if_pos (by omega),aC hlt2]at this;simp only[World.cell?,hg];simpa using this
    obtain⟨z0,hz0⟩:=c0 0 (by omega);obtain⟨x0,hx0,k0,_⟩:=hk 0 (by omega);rw[hz0]at hx0;cases hx0;obtain⟨z1,hz1⟩:=c0 1 (by omega);obtain⟨x1,hx1,k1,_⟩:=hk 1 (by omega);rw[hz1]at hx1;cases hx1;obtain⟨z2,hz2⟩:=c0 2 (by omega);obtain⟨x2,hx2,k2,_⟩:=hk 2 (by omega);rw[hz2]at hx2;cases hx2;obtain⟨z3,hz3⟩:=c0 3 (by omega);obtain⟨x3,hx3,k3,_⟩:=hk 3 (by omega);rw[hz3]at hx3;cases hx3;obtain⟨z4,hz4⟩:=c0 4 (by omega);obtain⟨x4,hx4,k4,_⟩:=hk 4 (by omega);rw[hz4]at hx4;cases hx4;obtain⟨z5,hz5⟩:=c0 5 (by omega);obtain⟨x5,hx5,k5,_⟩:=hk 5 (by omega);rw[hz5]at hx5;cases hx5;obtain⟨z6,hz6⟩:=c0 6 (by omega);obtain⟨x6,hx6,k6,_⟩:=hk 6 (by omega);rw[hz6]at hx6;cases hx6;obtain⟨z7,hz7⟩:=c7;obtain⟨x7,hx7,k7,_⟩:=hk 7 (by omega);rw[hz7]at hx7;cases hx7;obtain⟨x8,hx8,k8,o8⟩:=hk 8 (by omega);rw[e4]at hx8;cases hx8;rw[iR]at k0;have hBs:=hB.size;rw[hBw]at hBs;have hgs:g < wr.heap.size:=by
     rcases iC g wr.heap.size with h | h
     ·exact h
     ·rw[Array.getElem?_eq_none h]at hg;cases hg
    have hB2:Below B w (wr.alloc (.cells #[.int .i64 z0,.int .i64 z1,.int .i64 z2,.int .i64 z3,.int .i64 z4,.int .i64 z5,.int .i64 z6,.bool z7,.slice qi (M V.length) ci] 78)):=hB.alloc (by omega) _;have hold:∀ k,k < wr.heap.size->(wr.alloc (.cells #[.int .i64 z0,.int .i64 z1,.int .i64 z2,.int .i64 z3,.int .i64 z4,.int .i64 z5,.int .i64 z6,.bool z7,.slice qi (M V.length) ci] 78)).heap[k]?=wr.heap[k]?:=λk hk=>heap_alloc_old wr _ hk
    have hsz2:(wr.alloc (.cells #[.int .i64 z0,.int .i64 z1,.int .i64 z2,.int .i64 z3,.int .i64 z4,.int .i64 z5,.int .i64 z6,.bool z7,.slice qi (M V.length) ci] 78)).heap.size=wr.heap.size+1:=by simp
    have e5':M V.length≠0->∃ ad,qi=some ad/\∀ (j:Nat) x,(E V.length)[j]?=some x->(ad.add j).block < (wr.alloc (.cells #[.int .i64 z0,.int .i64 z1,.int .i64 z2,.int .i64 z3,.int .i64 z4,.int .i64 z5,.int .i64 z6,.bool z7,.slice qi (M V.length) ci] 78)).heap.size/\(wr.alloc (.cells #[.int .i64 z0,.int .i64 z1,.int .i64 z2,.int .i64 z3,.int .i64 z4,.int .i64 z5,.int .i64 z6,.bool z7,.slice qi (M V.length) ci] 78)).cell? (ad.add j)=some x:=λhm=>by
     obtain⟨ad,h,h'⟩:=e5 hm;exact⟨ad,h,λj x hj=>⟨by have:=(h' j x hj).1;omega,(hB2.cell (h' j x hj).1).trans (h' j x hj).2⟩⟩
    have h122:=aL0 qi (M V.length) ci (E V.length) e1 e2 e3 _ e5'
    generalize hW1:(wr.alloc (.cells #[.int .i64 z0,.int .i64 z1,.int .i64 z2,.int .i64 z3,.int .i64 z4,.int .i64 z5,.int .i64 z6,.bool z7,.slice qi (M V.length) ci] 78))=W1 at hB2 hold hsz2 h122
    have hc8:W1.cell? ⟨wr.heap.size,8,none⟩=some (.slice qi (M V.length) ci):=by subst hW1;exact(cell_of_row _ _ _ _ 78 (0,0) (World.alloc_heap_new wr _)).trans rfl
    go_wp2_with (go_at_call 122;(first | rw[hW1] | skip);refine h122.mono ?_;clear h122;rintro e w2 ⟨v',rfl,hown2,hb2⟩;(have hg2:w2.heap[g]?=some (.cells cur 78 (0,0)):=(hb2.block g (by omega)).trans ((hold g hgs).trans hg));(have kf:w2.frozen? ⟨g,V.length * 9+8,none⟩=false:=frozen_of_row w2 g _ cur 78 hg2);(have kc:w2.cell? ⟨g,V.length * 9+8,none⟩=some (.slice qi (M V.length) ci):=(cell_of_row w2 g _ cur 78 _ hg2).trans ((cell_of_row wr g _ cur 78 _ hg).symm.trans k8));rcases hown2.2 with⟨hv2,hm0⟩ | ⟨g2,cap2,cur2,hv2,hbg2,hgg2,hnc2,hcm2,hcs2,ht2⟩;all_goals subst hv2)
    all_goals
     obtain⟨f1,f2,f3,f4⟩:=aIM (p:=8) (by omega) hl hlt hrow hE hnd hBs (λk hk=>(hb2.block k (by omega)).trans (hold k hk)) (hB2.trans (hb2.mono (by omega))) hown2 (by omega);exact⟨⟨_,by simp;omega,by simp,f1,f2,f3,f4⟩,by simp[intOf];omega⟩
   ·obtain hVn:V.length=n:=by omega
    go_wp2
    go_ret
    exact⟨_,V,rfl,hVn,hrow,hE,by simpa[Value.ownBlock]using hnd,hB⟩
end
end Go.Proofs.Tryz
set_option maxHeartbeats 0
namespace Go.Proofs.Tryz
open Go Go.VM Go.RowKit
theorem aFB {β:Type}(d:Value)(f:Value->List β):∀ V:List Value,((List.range V.length).flatMap λi=>f (V.getD i d))=V.flatMap f:=by
 intro V;have h:V=(List.range V.length).map λi=>V.getD i d:=by
  apply cW;intro i;by_cases hi:i < V.length
  ·simp[hi]
  ·simp[hi,dV hi]
 conv=>rhs;rw[h]
 rw[fV]
def wU (x:List M9):Option (List M9):=if x.length<=2000000/\(∀ y∈x,y.2.2.2.2.2.2.2.2.length<=2000000)then some x else none
theorem aHy {W:World}{x:List M9}{v:Value}{cs V:List Value}{B:Nat}(S:Nat->Prop)(w:World)(hl:cs.length=x.length * 9)
  (hel:∀ (i:Nat) y,x[i]?=some y->∀ (t:Nat) l,(cxT.enc 78 false y)[t]?=some l->∃ v m,cs[i * 9+t]?=some v/\RepL cxT w S m l v)
  (hVn:V.length=x.length) (hrow:W.ownsRow B 78 9 v x.length (upd 9 8 cs V))
  (hE:∀ (i:Nat) y,x[i]?=some y->∀ u,V[i]?=some u->W.ownsRow B 102 9 u y.2.2.2.2.2.2.2.2.length (bT cxT 102 y.2.2.2.2.2.2.2.2)) :
  OwnL cxT W 2 (some (.inr { own:=2,nm:=0,e:=78,o:=true,xs:=(x:List (cxT.ty 78)) })) v (v.ownBlock.toList++V.flatMap (·.ownBlock.toList)):=by
 have:=aEw bA (w:=W) (e:=78) (K:=9) (m:=1) rfl (by omega) (xs:=(x:List (cxT.ty 78))) (v:=v) (λi=>[[],[],[],[],[],[],[],[],(V.getD i undef).ownBlock.toList]) (λ_=>rfl) (kT hrow) ?_
 ·have e1:((List.range (List.length (x:List (cxT.ty 78)))).flatMap λi=>([[],[],[],[],[],[],[],[],(V.getD i undef).ownBlock.toList]:List (List Nat)).flatten)=V.flatMap (·.ownBlock.toList):=by
   rw[<-aFB undef (·.ownBlock.toList) V,hVn];congr 1;funext i;simp
  exact(congrArg (λf=>OwnL cxT W 2 (some (.inr { own:=2,nm:=0,e:=78,o:=true,xs:=(x:List (cxT.ty 78)) })) v (v.ownBlock.toList++f)) e1).mp this
 ·intro i y hy t l c f h1 h2 h3;have hi:i < x.length:=(aD.1 hy).1;have ht:t < 9:=by
   have:=(aD.1 h3).1;simpa using this
  rw[vZ _ _ _ _ _ (by omega)]at h2;have e2:(i * 9+t) / 9=i:=by omega
  have e3:(i * 9+t) % 9=t:=by omega
  rw[e2,e3]at h2;by_cases h8:t=8
  ·subst h8;rw[if_pos ⟨rfl,by omega⟩]at h2;have hv:V[i]?=some (V.getD i undef):=by
    have:i < V.length:=by omega
    simp[this]
   have h2:V.getD i undef=c:=fA h2;have h3:(V.getD i undef).ownBlock.toList=f:=fA h3;rw[h2]at hv h3;subst h3;have hl:ls { own:=2,nm:=0,e:=102,o:=true,xs:=y.2.2.2.2.2.2.2.2 }=l:=fA h1;subst hl;exact nP (s:={ own:=2,nm:=0,e:=102,o:=true,xs:=y.2.2.2.2.2.2.2.2 }) bA rfl (kT (hE i y hy c hv))
  ·rw[if_neg (by omega)]at h2;have hplain:∃ v,l=lv v/\f=[]/\(cxT.enc 78 false y)[t]?=some (lv v):=by
    rcases(by omega:t=0\/t=1\/t=2\/t=3\/t=4\/t=5\/t=6\/t=7)with rfl | rfl | rfl | rfl | rfl | rfl | rfl | rfl
    all_goals exact⟨_,(fA h1).symm,(fA h3).symm,rfl⟩
   obtain⟨v',rfl,rfl,h4⟩:=hplain;obtain⟨u,m,k1,k2⟩:=hel i y hy t _ h4;have h5:u=v':=by cases m<;>simpa[RepL,lv]using k2
   have h2:cs.getD (i * 9+t) undef=c:=fA h2;have h6:cs.getD (i * 9+t) undef=u:=by simp[List.getD,k1]
   exact⟨by rw[<-h2,h6,h5],rfl⟩
theorem aNf:Sat prog cxT 70 (c70 wU):=by
 intro w A0 l us r hA hargs hF;obtain⟨x,t,rfl,hx,rfl⟩:=oY hF;obtain⟨u,rfl,hu⟩:=wP (show ArgAs cxT w A0 [.inl (ls (ro 78 x))] us from hargs);unfold wU at hx;split at hx
 ·rename_i hc;obtain⟨hc,hce⟩:=hc;cases hx;obtain⟨_,n,hu⟩:=(show(ro 78 x:SlD cxT.ty).own=0/\∃ n,RepL cxT w A0 n (some (.inr (ro 78 x))) u from hu)
  obtain⟨q,c,cs,rfl,hcap,hl,h1,hq,hel⟩:=aEp (K:=9) bA (rfl:cxT.size 78=9) (by decide) hu;refine(aLZ q x.length c cs hl hc h1 w w.heap.size rfl (λh0=>?_) (λi=>(x[i]?).elim 0 λy=>y.2.2.2.2.2.2.2.2.length) (λi=>(x[i]?).elim [] λy=>bT cxT 102 y.2.2.2.2.2.2.2.2) λi hi=>?_).mono ?_
  ·obtain⟨b,off,rfl,hS,h⟩:=hq h0;exact⟨_,rfl,λj v hj=>⟨by rw[Addr.add_lit];exact hA b hS,by rw[Addr.add_lit];exact h j v hj⟩⟩
  ·have hy:x[i]?=some x[i]:=aC hi;have hpl:∀ (t:Nat) v,(cxT.enc 78 false x[i])[t]?=some (lv v)->cs[i * 9+t]?=some v:=λt v h=>by
    obtain⟨u,m,k1,k2⟩:=hel i _ hy t _ h;have h5:u=v:=by cases m<;>simpa[RepL,lv]using k2
    rw[k1,h5]
   simp only[hy,Option.elim_some];refine⟨λt ht=>?_,⟨_,hpl 7 _ rfl⟩,gF (e:=102) bA rfl _,hce _ (eB hi),kY (e:=102) bA rfl _,?_⟩
   ·rcases(by omega:t=0\/t=1\/t=2\/t=3\/t=4\/t=5\/t=6)with rfl | rfl | rfl | rfl | rfl | rfl | rfl
    all_goals exact⟨_,hpl _ _ rfl⟩
   ·obtain⟨u,m,k1,k2⟩:=hel i _ hy 8 (ls (ro 102 (x[i].2.2.2.2.2.2.2.2:List (cxT.ty 102)))) rfl;obtain⟨q',c',rfl,hcap',h⟩:=aAI bA (e:=102) rfl (by decide) k2;refine⟨q',c',k1,λhm=>?_⟩;rcases h with h | ⟨b,off,rfl,hS,h⟩
    ·exact absurd (by rw[h];rfl) hm
    ·exact⟨_,rfl,λj v hj=>⟨by rw[Addr.add_lit];exact hA b hS,by rw[Addr.add_lit];exact h j v hj⟩⟩
  ·rintro e W ⟨v,V,rfl,hVn,hrow,hE,hnd,hB⟩;have hown:=aHy (W:=W) (V:=V) A0 w hl hel hVn hrow λi y hy u hu=>by
    have:=hE i u hu;simp only[hy,Option.elim_some]at this;exact this
   refine⟨v,rfl,hB,v.ownBlock.toList++V.flatMap (·.ownBlock.toList),hnd,λb hb=>?_,?_⟩
   ·rcases aA.1 hb with hb | hb
    ·exact iU hrow (by simpa using hb)
    ·obtain⟨u,hu,hub⟩:=aU.1 hb;obtain⟨i,hi⟩:=cK hu;exact iU (hE i u hi) (by simpa using hub)
   ·show ResA cxT W _ (.inl (ls { own:=2,nm:=0,e:=78,o:=true,xs:=(x:List (cxT.ty 78)) })) v _;unfold ResA ResL;simp only[ls,if_true];exact⟨trivial,2,hown⟩
 ·cases hx
end Go.Proofs.Tryz
