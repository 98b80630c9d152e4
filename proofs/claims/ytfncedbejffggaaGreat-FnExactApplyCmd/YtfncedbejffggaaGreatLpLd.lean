/- A part of the proof of FnExactApplyCmd: LpLd, LpQa, LpQb, LpQd, LpQe, LpQf, LpQga. -/
import Derived.Test.YtfncedbejffggaaGreatLpJc
import Derived.Test.YtfncedbejffggaaGreatLpPa
import Derived.Test.YtfncedbejffggaaGreatLpFc
import Derived.WalkKit
import Derived.OwnWalkIn
import Derived.Below
import Derived.WalkMore
import Derived.Deep.LoopGhost
import Derived.RangeFuncRecord
set_option linter.unusedSimpArgs false
set_option linter.unusedVariables false
set_option maxHeartbeats 0
namespace Go.Proofs.Tryz
open Go Go.VM Go.RowKit
abbrev ob (s:Value):List Nat:=s.ownBlock.toList
theorem uF (vs:LV)(ss:List Value)(k:Nat):(kJ vs ss).take (k * 4)=kJ (vs.take k) (ss.take k):=by
 unfold kJ;rw[sH (λp:Vp×Value=>vpC p.1 p.2) (K:=4) (λp=>rfl),show(vs.zip ss).take k=(vs.take k).zip (ss.take k)by simp only[List.zip,List.take_zipWith]]
theorem uG (vs:LV)(ss:List Value)(k:Nat):(kJ vs ss).drop (k * 4)=kJ (vs.drop k) (ss.drop k):=by
 unfold kJ;rw[sI (λp:Vp×Value=>vpC p.1 p.2) (K:=4) (λp=>rfl),show(vs.zip ss).drop k=(vs.drop k).zip (ss.drop k)by simp only[List.zip,List.drop_zipWith]]
theorem lN {vs vs':LV}{ss ss':List Value}(h:ss.length=vs.length):kJ (vs++vs') (ss++ss')=kJ vs ss++kJ vs' ss':=by
 unfold kJ;rw[List.zip_append h.symm,bE]
theorem aFq (b:Vp)(s:Value)(hs:s.oneCell'=true):∀ v∈vpC b s,v.oneCell'=true:=by
 intro v hv;simp[vpC]at hv;rcases hv with rfl | rfl | rfl | rfl
 ·rfl
 ·rfl
 ·rfl
 ·exact hs
theorem aCu {W:World}{B e K n:Nat}{s:Value}{xs:List Value}(h:W.ownsRow B e K s n xs):s.oneCell'=true:=by
 rcases h.2 with⟨rfl,_⟩ | ⟨g,cap,cur,rfl,_⟩<;>rfl
theorem gA {W:World}{B e K n:Nat}{s:Value}{xs:List Value}(h:W.ownsRow B e K s n xs){b:Nat}(hb:s.ownBlock=some b):b < W.heap.size:=by
 rcases h.2 with⟨rfl,_⟩ | ⟨g,cap,cur,rfl,_,hg,_⟩
 ·cases hb
 ·cases hb;exact(aL.1 hg).1
theorem fM {W W':World}{B e K n:Nat}{s:Value}{xs:List Value}(h:W.ownsRow B e K s n xs)(hw:∀ b,s.ownBlock=some b->W'.heap[b]?=W.heap[b]?):W'.ownsRow B e K s n xs:=by
 refine⟨h.1,h.2.imp id ?_⟩;rintro⟨g,cap,cur,rfl,hB,hg,rest⟩;exact⟨g,cap,cur,rfl,hB,(hw g rfl).trans hg,rest⟩
def Inn (W:World)(vs:LV)(ss:List Value):Prop:=ss.length=vs.length/\∀ (i:Nat) (x:Vp) (s:Value),vs[i]?=some x->ss[i]?=some s->W.ownsRow 0 2 1 s x.2.2.2.length (tR x.2.2.2)
theorem Inn.one {W:World}{vs:LV}{ss:List Value}(h:Inn W vs ss):∀ s∈ss,s.oneCell'=true:=λs hs=>by
 obtain⟨i,hi,rfl⟩:=dL.1 hs;have hi':i < vs.length:=by rw[<-h.1];exact hi
 exact aCu (h.2 i vs[i] _ (aC hi') (aC hi))
theorem Inn.lt {W:World}{vs:LV}{ss:List Value}(h:Inn W vs ss):∀ b∈ss.flatMap ob,b < W.heap.size:=λb hb=>by
 obtain⟨s,hs,hb⟩:=bB.1 hb;obtain⟨i,hi,rfl⟩:=dL.1 hs;have hi':i < vs.length:=by rw[<-h.1];exact hi
 exact gA (h.2 i vs[i] _ (aC hi') (aC hi)) (by simpa[ob]using hb)
theorem Inn.keep {W W':World}{vs:LV}{ss:List Value}(h:Inn W vs ss)(hw:∀ b∈ss.flatMap ob,W'.heap[b]?=W.heap[b]?):Inn W' vs ss:=by
 refine⟨h.1,λi x s h1 h2=>fM (h.2 i x s h1 h2) λb hb=>hw b ?_⟩;exact bB.2 ⟨s,bC h2,by simp[ob,hb]⟩
theorem Inn.append {W:World}{vs vs':LV}{ss ss':List Value}(h:Inn W vs ss)(h':Inn W vs' ss'):Inn W (vs++vs') (ss++ss'):=by
 refine⟨by simp[h.1,h'.1],λi x s h1 h2=>?_⟩;by_cases hi:i < vs.length
 ·rw[bM hi]at h1;rw[bM (by rw[h.1];exact hi)]at h2;exact h.2 i x s h1 h2
 ·rw[bJ (by omega)]at h1;rw[bJ (by rw[h.1];omega),h.1]at h2;exact h'.2 _ x s h1 h2
theorem Inn.take {W:World}{vs:LV}{ss:List Value}(h:Inn W vs ss)(k:Nat):Inn W (vs.take k) (ss.take k):=by
 refine⟨by simp[h.1],λi x s h1 h2=>?_⟩;rw[bK]at h1 h2;split at h1
 ·rename_i hk;rw[if_pos hk]at h2;exact h.2 i x s h1 h2
 ·cases h1
theorem Inn.drop {W:World}{vs:LV}{ss:List Value}(h:Inn W vs ss)(k:Nat):Inn W (vs.drop k) (ss.drop k):=by
 refine⟨by simp[h.1],λi x s h1 h2=>?_⟩;rw[cL]at h1 h2;exact h.2 _ x s h1 h2
theorem tP {W:World}{S:Nat->Prop}{vs:LV}{u:Value}{f:List Nat}(h:ResA cxT W S (.inl (ls { own:=2,nm:=0,e:=76,o:=true,xs:=vs })) u f) :
  ∃ ss,W.ownsRow 0 76 4 u vs.length (kJ vs ss)/\Inn W vs ss/\f=ob u++ss.flatMap ob:=by
 have h:ResL cxT W S (ls { own:=2,nm:=0,e:=76,o:=true,xs:=vs }) u f:=h;obtain⟨_,m,h2⟩:=(show(true=true/\∃ n,OwnL cxT W n (some (.inr { own:=2,nm:=0,e:=76,o:=true,xs:=vs })) u f) from h)
 obtain⟨ss,h3,h4,h5,h6⟩:=aFN h2;exact⟨ss,h4,⟨h3,h5⟩,h6⟩
theorem zO {W:World}{N:Nat->Prop}{vs:LV}{ss:List Value}{u:Value}(h:W.ownsRow 0 76 4 u vs.length (kJ vs ss))(hi:Inn W vs ss)(hnd:(ob u++ss.flatMap ob).Nodup)(hN:∀ b∈ob u++ss.flatMap ob,N b) :
  ResV cxT W (λ_=>False) N (.inr (.inl [.inl (ls { own:=2,nm:=0,e:=76,o:=true,xs:=vs })])) (.tuple [u].toArray):=by
 refine⟨ob u++ss.flatMap ob,hnd,λb hb=>⟨hN b hb,?_⟩,[u],[ob u++ss.flatMap ob],rfl,by simp,rfl,rfl,λj a u' f h1 h2 h3=>?_⟩
 ·rcases aA.1 hb with hb | hb
  ·exact gA h (by simpa[ob]using hb)
  ·exact hi.lt b hb
 ·match j with
  | 0=>cases h1;cases h2;cases h3;exact⟨rfl,2,yT hi.1 h hi.2⟩
  | j+1=>simp at h2
def m90 (x:LV×Int×LV):Option LV:=match x with
 | (vs,i,[b])=>if 0<=i/\i<=(vs.length:Int)/\vs.length<=100 then some (vs.take i.toNat++[b]++vs.drop i.toNat)else none
 | _=>none
def m91 (x:LV×Int×Int):Option LV:=if 0<=x.2.1/\x.2.1 < (x.1.length:Int)/\x.2.2=x.2.1+1/\x.1.length<=100 then some (x.1.take x.2.1.toNat++x.1.drop (x.2.1.toNat+1))else none
theorem uI {α β:Type}(f:α->List β):∀ {a b:List α},a.Sublist b->(a.flatMap f).Sublist (b.flatMap f)
 | _,_,.slnil=>dX _
 | _,_,.cons x h=>by
  rw[aR];exact(uI f h).trans (fI _ _)
 | _,_,.cons_cons x h=>by
  rw[aR,aR];exact(dX _).append (uI f h)
theorem aCe {W:World}{vs:LV}{ss:List Value}(h:Inn W vs ss):∀ v∈kJ vs ss,v.oneCell'=true:=λv hv=>by
 obtain⟨p,hp,hv⟩:=bB.1 hv;exact aFq _ _ (h.one _ (List.of_mem_zip hp).2) v hv
theorem aPW:SatI prog cxT 90 (c90 m90).nres (c90 m90).F:=by
 intro w l us fps cs hres hnd hlt hF;obtain⟨⟨bs,i,vs⟩,t,rfl,hx,rfl⟩:=sF hF;obtain⟨h1,h2,h3⟩:=(show ResAs cxT w (λ_=>False) [.inl (ls { own:=2,nm:=0,e:=76,o:=true,xs:=bs }),.inl (lv (.int .i64 i)),.inl (ls { own:=2,nm:=0,e:=76,o:=true,xs:=vs })] us fps from hres)
 match us,fps,h1,h2,h3,hnd,hlt with
 | [u0,u1,u2],[f0,f1,f2],_,_,h3,hnd,hlt=>
  obtain⟨ss,r0,i0,e0⟩:=tP (h3 0 _ _ _ rfl rfl rfl);obtain⟨e1,e1'⟩:=(show u1=.int .i64 i/\f1=[] from h3 1 _ _ _ rfl rfl rfl)
  obtain⟨s2,r2,i2,e2⟩:=tP (h3 2 _ _ _ rfl rfl rfl);subst e0;subst e1;subst e1';subst e2;unfold m90 at hx;split at hx
  ·rename_i bs' i' b heq;simp only[aY]at heq;obtain⟨rfl,rfl,rfl⟩:=heq;split at hx
   ·rename_i hc;obtain⟨hc0,hc1,hc2⟩:=hc;cases hx;obtain⟨k,rfl⟩:=jB hc0;simp only[Int.ofNat_eq_natCast,aV]at hc1 ⊢;obtain⟨s,rfl⟩:∃ s,s2=[s]:=by
     match s2,i2.1 with
     | [s],_=>exact⟨s,rfl⟩
    have hbs:kJ [b] [s]=vpC b s:=by simp[kJ]
    rw[hbs]at r2;have hnd0:((ob u0++ss.flatMap ob)++(ob u2++ob s)).Nodup:=by simpa using hnd
    have hlt0:∀ x∈(ob u0++ss.flatMap ob)++(ob u2++ob s),x < w.heap.size:=by simpa using hlt
    obtain⟨n1,n2,n3⟩:=aH.1 hnd0;obtain⟨n4,n5,n6⟩:=aH.1 n1;obtain⟨n7,n8,n9⟩:=aH.1 n2;rcases r2.2 with⟨_,h0⟩ | ⟨vb,vc,cv,rfl,_,hvb,hvc,_,_,hcv⟩
    ·simp at h0
    ·have hne:u0.ownBlock≠some vb:=λh=>n3 vb (by simp[ob,h]) vb (by simp[ob,Value.ownBlock]) rfl
     refine(aRG u0 bs.length k (kJ bs ss) (vpC b s) vb vc cv 76 w r0 (by omega) (by omega) rfl hvb (by simpa using hcv) hne (aCe i0) (aFq b s (i2.one s (by simp)))).mono ?_;rintro e W ⟨u,rfl,k1,k2,k3⟩;have hkp:∀ x,x < w.heap.size->x∉ob u0->W.heap[x]?=w.heap[x]?:=λx hx hn=>k2.block x (by
      rintro(h | h)
      ·omega
      ·exact hn (by simp[ob,h]))
     have j0:Inn W bs ss:=i0.keep λx hx=>hkp x (i0.lt x hx) λh=>n6 x h x hx rfl
     have j2:Inn W [b] [s]:=i2.keep λx hx=>hkp x (i2.lt x hx) λh=>n3 x (aA.2 (.inl h)) x (aA.2 (.inr (by simpa using hx))) rfl
     have j3:=((j0.take k).append j2).append (j0.drop k);have hcells:(kJ bs ss).take (k * 4)++vpC b s++(kJ bs ss).drop (k * 4)=kJ (bs.take k++[b]++bs.drop k) (ss.take k++[s]++ss.drop k):=by
      rw[lN (((j0.take k).append j2).1),lN (j0.take k).1,hbs,uF,uG]
     rw[hcells]at k1;have hperm:(ss.take k++[s]++ss.drop k).flatMap ob |>.Perm (ob s++ss.flatMap ob):=by
      have:(ss.take k++[s]++ss.drop k).Perm (s::ss):=by
       rw[dB];show(ss.take k++(s::ss.drop k)).Perm (s::ss);refine List.perm_middle.trans ?_;rw[dH]
      exact this.flatMap_right ob
     refine⟨[u],rfl,rfl,⟨k2.os,k2.tape,k2.output,k2.size,λx hx=>k2.block x λh=>hx (h.imp id λh=>?_)⟩,?_⟩
     ·simp[h]
     ·have hlen:(bs.take k++[b]++bs.drop k).length=bs.length+1:=by simp;omega
      refine zO (by rw[hlen];exact k1) j3 ?_ λx hx=>?_
      ·refine aH.2 ⟨by unfold ob;cases u.ownBlock<;>simp,hperm.nodup_iff.2 (aH.2 ⟨n8,n5,λa ha c hc=>λh=>n3 c (aA.2 (.inr hc)) a (aA.2 (.inr ha)) h.symm⟩),λa ha c hc h=>?_⟩;subst h;have ha':u.ownBlock=some a:=by simpa[ob]using ha
       have hc':=hperm.mem_iff.1 hc;rcases(k3 a ha').1 with h | h
       ·have:a < w.heap.size:=hlt0 a (by
         rcases aA.1 hc' with h | h
         ·exact aA.2 (.inr (aA.2 (.inr h)))
         ·exact aA.2 (.inl (aA.2 (.inr h))))
        omega
       ·have h0:a∈ob u0:=by simp[ob,h]
        rcases aA.1 hc' with h | h
        ·exact n3 a (aA.2 (.inl h0)) a (aA.2 (.inr h)) rfl
        ·exact n6 a h0 a h rfl
      ·rcases aA.1 hx with hx | hx
       ·exact(k3 x (by simpa[ob]using hx)).1.imp id λh=>by simp[h]
       ·rcases aA.1 (hperm.mem_iff.1 hx)with h | h
        ·exact .inr (by simp;exact .inr (.inr (.inr (by simpa[ob]using h))))
        ·refine .inr ?_;have:=bB.1 h;simp;exact .inr (.inl (by simpa[ob]using this))
   ·cases hx
  ·cases hx
theorem aPV:SatI prog cxT 91 (c91 m91).nres (c91 m91).F:=by
 intro w l us fps cs hres hnd hlt hF;obtain⟨⟨bs,i,j⟩,t,rfl,hx,rfl⟩:=sF hF;obtain⟨h1,h2,h3⟩:=(show ResAs cxT w (λ_=>False) [.inl (ls { own:=2,nm:=0,e:=76,o:=true,xs:=bs }),.inl (lv (.int .i64 i)),.inl (lv (.int .i64 j))] us fps from hres)
 match us,fps,h1,h2,h3,hnd,hlt with
 | [u0,u1,u2],[f0,f1,f2],_,_,h3,hnd,hlt=>
  obtain⟨ss,r0,i0,e0⟩:=tP (h3 0 _ _ _ rfl rfl rfl);obtain⟨e1,e1'⟩:=(show u1=.int .i64 i/\f1=[] from h3 1 _ _ _ rfl rfl rfl)
  obtain⟨e2,e2'⟩:=(show u2=.int .i64 j/\f2=[] from h3 2 _ _ _ rfl rfl rfl)
  subst e0;subst e1;subst e1';subst e2;subst e2';unfold m91 at hx;split at hx
  ·rename_i hc;simp only at hc hx;obtain⟨hc0,hc1,rfl,hc2⟩:=hc;cases hx;obtain⟨k,rfl⟩:=jB hc0;simp only[Int.ofNat_eq_natCast,aV]at hc1 ⊢;have hnd0:(ob u0++ss.flatMap ob).Nodup:=by simpa using hnd
   obtain⟨n4,n5,n6⟩:=aH.1 hnd0;rcases r0.2 with⟨_,h0⟩ | ⟨g,cap,cur,rfl,_,hg,hnc,hcm,hcs,htk⟩
   ·omega
   ·refine(aSp g k bs.length cap (kJ bs ss) w r0 (by omega) (by omega) (aCe i0)).mono ?_;rintro e W ⟨rfl,k1,k2⟩;have j0:Inn W bs ss:=i0.keep λx hx=>k2.block x λh=>n6 g (by simp[ob,Value.ownBlock]) x hx h.symm
    have j3:=(j0.take k).append (j0.drop (k+1));have hcells:(kJ bs ss).take (k * 4)++(kJ bs ss).drop ((k+1) * 4)=kJ (bs.take k++bs.drop (k+1)) (ss.take k++ss.drop (k+1)):=by
     rw[lN (j0.take k).1,uF,uG]
    rw[hcells]at k1;have hsub:(ss.take k++ss.drop (k+1)).Sublist ss:=by
     have h1:(ss.drop (k+1)).Sublist (ss.drop k):=by
      rw[<-tE];exact List.drop_sublist _ _
     have:=(dX (ss.take k)).append h1
     rwa [dH]at this
    have hsf:((ss.take k++ss.drop (k+1)).flatMap ob).Sublist (ss.flatMap ob):=uI ob hsub;refine⟨[_],rfl,rfl,⟨k2.os,k2.tape,k2.output,k2.size,λx hx=>k2.block x λh=>hx (.inr ?_)⟩,?_⟩
    ·rw[h];simp[Value.ownBlock,ob]
    ·have hlen:(bs.take k++bs.drop (k+1)).length=bs.length-1:=by
      rw[aW,bA,bL];omega
     refine zO (by rw[hlen];exact k1) j3 ?_ λx hx=>?_
     ·exact((dX (ob _)).append hsf).nodup hnd0
     ·refine .inr ?_;have:=((dX (ob (.slice (some ⟨g,0,none⟩) bs.length cap))).append hsf).subset (show x∈ob (.slice (some ⟨g,0,none⟩) bs.length cap)++_ from hx);simpa using this
  ·cases hx
set_option maxRecDepth 100000
abbrev Cm:=Int×Int×Int×Int×Int×Int
theorem aI5 {a b:Int}(h:¬ a=b):(a == b)=false:=by simpa using h
def pB (f:Nat):Value:=.func (.func f) #[] #[]
def ruL (k:Int):List Value:=
 if k=1 then[pB 50,pB 51,pB 52,.nilFunc,pB 53]else
 if k=2 then[pB 50,.nilFunc,pB 52,.nilFunc,pB 54]else
 if k=3 then[pB 50,.nilFunc,pB 55,.nilFunc,pB 56]else
 if k=4 then[pB 50,.nilFunc,.nilFunc,.nilFunc,pB 57]else
 if k=5 then[.nilFunc,pB 51,pB 58,pB 59,pB 60]else
 if k=6 then[.nilFunc,pB 51,pB 58,pB 59,pB 61]else
 if k=7 then[pB 50,pB 51,pB 58,pB 59,pB 62]else
 if k=8 then[pB 50,pB 51,pB 58,pB 59,pB 63]else
 [pB 50,.nilFunc,pB 64,.nilFunc,pB 65]
def F24 (l:List (A cxT.ty)):Option (Bool×V cxT.ty):=match l with
 | [.inl (some (.inl (.int .i64 k)))]=>if 1<=k/\k<=9 then some (true,.inl (.inr ((ruL k).map lv)))else none
 | _=>none
def aBx:Env cxT:={ Kc:=eF [],Kw:=eE [],lv:=λi=>[],xv:=λi=>none }
theorem aRW:eT prog aBx (bH 0) f24 [.inl (lv (.int .i64 1))]=some (.inl (.inr ((ruL 1).map lv))):=by kernel_rfl
theorem aRV:eT prog aBx (bH 0) f24 [.inl (lv (.int .i64 2))]=some (.inl (.inr ((ruL 2).map lv))):=by kernel_rfl
theorem aRU:eT prog aBx (bH 0) f24 [.inl (lv (.int .i64 3))]=some (.inl (.inr ((ruL 3).map lv))):=by kernel_rfl
theorem aRT:eT prog aBx (bH 0) f24 [.inl (lv (.int .i64 4))]=some (.inl (.inr ((ruL 4).map lv))):=by kernel_rfl
theorem aRS:eT prog aBx (bH 0) f24 [.inl (lv (.int .i64 5))]=some (.inl (.inr ((ruL 5).map lv))):=by kernel_rfl
theorem aRR:eT prog aBx (bH 0) f24 [.inl (lv (.int .i64 6))]=some (.inl (.inr ((ruL 6).map lv))):=by kernel_rfl
theorem aRQ:eT prog aBx (bH 0) f24 [.inl (lv (.int .i64 7))]=some (.inl (.inr ((ruL 7).map lv))):=by kernel_rfl
theorem aRP:eT prog aBx (bH 0) f24 [.inl (lv (.int .i64 8))]=some (.inl (.inr ((ruL 8).map lv))):=by kernel_rfl
theorem aRO:eT prog aBx (bH 0) f24 [.inl (lv (.int .i64 9))]=some (.inl (.inr ((ruL 9).map lv))):=by kernel_rfl
theorem aQv:Sat prog cxT 24 F24:=vR bZ bV (by rfl) (fn:=f24) rfl λxs r h=>by
 unfold F24 at h;split at h
 ·rename_i k;split at h
  ·rename_i hk;cases h;refine⟨aBx,0,bU,bP,?_,.inl ?_⟩
   ·have h9:k=1\/k=2\/k=3\/k=4\/k=5\/k=6\/k=7\/k=8\/k=9:=by omega
    rcases h9 with rfl | rfl | rfl | rfl | rfl | rfl | rfl | rfl | rfl
    ·exact aRW
    ·exact aRV
    ·exact aRU
    ·exact aRT
    ·exact aRS
    ·exact aRR
    ·exact aRQ
    ·exact aRP
    ·exact aRO
   ·unfold ruL
    repeat' split
    all_goals rfl
  ·cases h
 ·cases h
def nd (k:Int):Bool×Bool×Bool×Bool:=(k != 5&&k != 6,k == 1 || (decide (5<=k)&&decide (k<=8)),k != 4,decide (5<=k)&&decide (k<=8))
def m35 (k:Int):Option (Bool×Bool×Bool×Bool):=some (nd k)
theorem aQm:Sat prog cxT 35 (c35 m35):=s35 _ sR m35 λk t h=>by
 cases h;refine⟨0,?_⟩;show g35 _ 0 k=some (nd k);unfold g35 nd;simp only[bT];by_cases h5:k=5
 ·subst h5;rfl
 by_cases h6:k=6
 ·subst h6;rfl
 by_cases h1:k=1
 ·subst h1;rfl
 have e5:(k != 5)=true:=wL h5;have e6:(k != 6)=true:=wL h6;have e1:(k == 1)=false:=aI5 h1;simp only[e5,e6,e1,cond_true,cond_false,iJ,pU,bO];by_cases a:5<=k<;>by_cases b:k<=8<;>simp[a,b]
theorem aJL {w:World}{A0 N:Nat->Prop}{v u:Value}(h:ResV cxT w A0 N (.inl (.inl (lv v))) u):u=v:=by
 obtain⟨fp,_,_,h⟩:=h;exact h.1
theorem aTE {w:World}{S:Nat->Prop}(a b c:Int):ArgAs cxT w S [.inl (lv (.int .i64 a)),.inl (lv (.int .i64 b)),.inl (lv (.int .i64 c))] [.int .i64 a,.int .i64 b,.int .i64 c]:=⟨rfl,λj x u h1 h2=>by
 match j with
 | 0=>simp only[aP,aB]at h1 h2;subst h1;subst h2;exact rfl
 | 1=>simp only[dP,aP,aB]at h1 h2;subst h1;subst h2;exact rfl
 | 2=>simp only[dP,aP,aB]at h1 h2;subst h1;subst h2;exact rfl
 | j+3=>simp at h1⟩
theorem aIs (a b c:Int)(w:World):Calls prog 34 #[.int .i64 a,.int .i64 b,.int .i64 c] w λe w'=>e=.returned (.bool (decide (b<=a/\a<=c)))/\Below w.heap.size w w':=by
 have:=sR w (λ_=>False) [.inl (lv (.int .i64 a)),.inl (lv (.int .i64 b)),.inl (lv (.int .i64 c))] [.int .i64 a,.int .i64 b,.int .i64 c] (n34 (decide (b<=a/\a<=c))) (λ_ h=>h.elim) (aTE a b c) rfl;exact this.mono λe w' ⟨u,he,hb,hr⟩=>⟨by rw[he,aJL hr],hb⟩
section
attribute [local go_sem] Oper.semAt_some
set_option maxRecDepth 100000 in
set_option maxHeartbeats 4000000 in
theorem aRm (k b c d e f:Int)(hk:¬ (1<=k/\k<=9))(w:World):Calls prog 22 #[.agg #[.int .i64 k,.int .i64 b,.int .i64 c,.int .i64 d,.int .i64 e,.int .i64 f]] w λe w'=>e=.returned (.int .i64 1)/\Below w.heap.size w w':=by
 go_enter func22,ntmps22
 by_cases h1:k < 1
 ·go_wp2
  go_ret
  exact⟨rfl,(Below.refl _ _).alloc (aK _) _⟩
 ·have h9:9 < k:=by omega
  go_wp2
  go_ret
  exact⟨rfl,(Below.refl _ _).alloc (aK _) _⟩
set_option maxRecDepth 100000 in
set_option maxHeartbeats 4000000 in
theorem aTB (k b c d e f:Int)(hk:1<=k/\k<=9)(hb:¬ b=-1)(h91:∀ w:World,Calls prog 45 #[.int .i64 b] w λe w'=>e=.returned (.bool false)/\Below w.heap.size w w')(w:World):Calls prog 22 #[.agg #[.int .i64 k,.int .i64 b,.int .i64 c,.int .i64 d,.int .i64 e,.int .i64 f]] w λe w'=>e=.returned (.int .i64 3)/\Below w.heap.size w w':=by
 have hk1:¬ k < 1:=by omega
 have hk9:¬ 9 < k:=by omega
 go_enter func22,ntmps22
 go_wp2_with (go_at_call 45;refine(h91 _).mono ?_;clear h91;rintro _ w1 ⟨rfl,hb1⟩)
 go_ret
 exact⟨rfl,((Below.refl _ w).alloc (aK _) _).trans (hb1.mono (by simp))⟩
set_option maxRecDepth 100000 in
set_option maxHeartbeats 4000000 in
theorem aRn (k b c d e f:Int)(hk:¬ (1<=k/\k<=9))(w:World):Calls prog 17 #[.agg #[.int .i64 k,.int .i64 b,.int .i64 c,.int .i64 d,.int .i64 e,.int .i64 f]] w λe w'=>e=.returned (.int .i64 1)/\Below w.heap.size w w':=by
 have h:=aIs k 1 9 (w.alloc (.cells #[.int .i64 k,.int .i64 b,.int .i64 c,.int .i64 d,.int .i64 e,.int .i64 f] 37));rw[df hk]at h
 go_enter func17,ntmps17
 go_wp2_with (go_at_call 34;refine h.mono ?_;clear h;rintro e w1 ⟨rfl,hb1⟩)
 go_ret
 exact⟨rfl,((Below.refl _ w).alloc (aK _) _).trans (hb1.mono (by simp))⟩
end
theorem kZ (P:Program)(w:World)(a:Addr)(m:Mode)(f:Fn)(x y:Array Value):(store a (.func f x y) m).run P w=stored P w a (.func f x y) m:=run_store P w a _ m rfl
theorem kY (P:Program)(w:World)(a:Addr)(m:Mode):(store a .nilFunc m).run P w=stored P w a .nilFunc m:=run_store P w a _ m rfl
section
attribute [local go_sem] Oper.semAt_some kZ kY
abbrev CB (f:Nat)(us:Array Value)(v:Value):Prop:=∀ w:World,Calls prog f us w λe w'=>e=.returned v/\Below w.heap.size w w'
inductive Rl (n:Int):Value->Option Bool->Prop
 | no:Rl n .nilFunc none
 | yes (f:Nat) (b:Bool) (hE:∀ args w,(callFunc f args).run prog w=.ok (.enter f args) w) (h:CB f #[.int .i64 n] (.bool b)):Rl n (.func (.func f) #[] #[]) (some b)
theorem aEi {w w1:World}{t:TypeId}{v0 v1 v2 v3 v4 v5:Value}(h:Below (w.alloc (.cells #[v0,v1,v2,v3,v4,v5] t)).heap.size (w.alloc (.cells #[v0,v1,v2,v3,v4,v5] t)) w1) :
  ∀ o,(w1.alloc o).cell? ⟨w.heap.size,2,none⟩=some v2/\(w1.alloc o).cell? ⟨w.heap.size,3,none⟩=some v3/\(w1.alloc o).cell? ⟨w.heap.size,4,none⟩=some v4/\(w1.alloc o).cell? ⟨w.heap.size,5,none⟩=some v5:=by
 intro o;have hs:=h.size;have q:(w1.alloc o).heap[w.heap.size]?=some (.cells #[v0,v1,v2,v3,v4,v5] t (0,0)):=(Below.heap_alloc _ _ _ (by simp at hs;omega)).trans ((h.block w.heap.size (by simp)).trans (World.alloc_heap_new w _));refine⟨?_,?_,?_,?_⟩<;>simp[World.cell?,q]
theorem aTy {w w1:World}{t:TypeId}{v0 v1 v2 v3 v4 v5:Value}(h:Below (w.alloc (.cells #[v0,v1,v2,v3,v4,v5] t)).heap.size (w.alloc (.cells #[v0,v1,v2,v3,v4,v5] t)) w1) :
  w1.cell? ⟨w.heap.size,0,none⟩=some v0:=by
 have q:=(h.block w.heap.size (by simp)).trans (World.alloc_heap_new w _);simp[World.cell?,q]
theorem Rl.store {n:Int}{v:Value}{o:Option Bool}(h:Rl n v o)(w:World)(a:Addr)(m:Mode):(Go.store a v m).run prog w=stored prog w a v m:=by
 cases h
 ·exact kY _ _ _ _
 ·exact kZ _ _ _ _ _ _ _
def aHU (os:List (Option Bool))(ns:List Int)(e:Ending):Prop:=
 (e=.returned (.int .i64 3)/\∃ p,p < 4/\os.getD p none=some false) ∨
 ((∀ p,p < 4->os.getD p none≠some false)/\((e=.returned (.int .i64 1)/\∃ p,p < 4/\os.getD p none=none/\ns.getD p 0≠0)\/(e=.returned (.int .i64 0)/\∀ p,p < 4->os.getD p none=none->ns.getD p 0=0)))
end
section
attribute [local go_sem] Oper.semAt_some kZ kY
set_option maxRecDepth 100000 in
set_option maxHeartbeats 4000000 in
theorem aRL (k c d e f:Int)(hk:1<=k/\k<=9)(r0 r1 r2 r3 ap:Value)(o0 o1 o2 o3:Option Bool)(h0:Rl c r0 o0)(h1:Rl d r1 o1)(h2:Rl e r2 o2)(h3:Rl f r3 o3)
  (fa:Nat) (hap:ap=.func (.func fa) #[] #[]) (h111:CB 24 #[.int .i64 k] (.agg #[r0,r1,r2,r3,ap])) (w:World) :
  Calls prog 22 #[.agg #[.int .i64 k,.int .i64 (-1),.int .i64 c,.int .i64 d,.int .i64 e,.int .i64 f]] w λe' w'=>aHU [o0,o1,o2,o3] [c,d,e,f] e'/\Below w.heap.size w w':=by
 have hk1:¬ k < 1:=by omega
 have hk9:¬ 9 < k:=by omega
 subst hap;have hs0:=h0.store;have hs1:=h1.store;have hs2:=h2.store;have hs3:=h3.store;have hc0:r0.cells=#[r0]:=by cases h0<;>rfl
 have hc1:r1.cells=#[r1]:=by cases h1<;>rfl
 have hc2:r2.cells=#[r2]:=by cases h2<;>rfl
 have hc3:r3.cells=#[r3]:=by cases h3<;>rfl
 unfold Value.cells at hc0 hc1 hc2 hc3
 go_enter func22,ntmps22
 ·skip
  go_wp2_with (first | (go_at_call 24;refine(h111 _).mono ?_;rintro _ w1 ⟨rfl,hb1⟩;have c2:=λo=>(aEi hb1 o).1;have c3:=λo=>(aEi hb1 o).2.1;have c4:=λo=>(aEi hb1 o).2.2.1;have c5:=λo=>(aEi hb1 o).2.2.2;clear h111))
  have hs1':=hb1.size
  generalize hW:((w1.alloc (.cells #[r0,r1,r2,r3,.func (.func fa) #[] #[]] 56)).alloc (.cells #[.int .i64 c,.int .i64 d,.int .i64 e,.int .i64 f] 81)).alloc (.cells #[r0,r1,r2,r3] 82)=W2
  have hbW:Below w.heap.size w W2:=by
   rw[<-hW];exact((((((Below.refl _ w).alloc (aK _) _).trans (hb1.mono (by simp))).alloc (by simp at hs1';omega) _).alloc (by simp at hs1' ⊢;omega) _).alloc (by simp at hs1' ⊢;omega) _)
  have hfb:W2.heap[w1.heap.size+1]?=some (.cells #[.int .i64 c,.int .i64 d,.int .i64 e,.int .i64 f] 81 (0,0)):=by
   rw[<-hW];refine(Below.heap_alloc _ _ _ (by simp)).trans ?_;have:=World.alloc_heap_new (w1.alloc (.cells #[r0,r1,r2,r3,.func (.func fa) #[] #[]] 56)) (.cells #[.int .i64 c,.int .i64 d,.int .i64 e,.int .i64 f] 81)
   rwa [World.size_alloc]at this
  have hsz:w1.heap.size+1 < W2.heap.size:=(aL.1 hfb).1;have hrb:W2.heap[w1.heap.size+1+1]?=some (.cells #[r0,r1,r2,r3] 82 (0,0)):=by
   rw[<-hW];have:=World.alloc_heap_new ((w1.alloc (.cells #[r0,r1,r2,r3,.func (.func fa) #[] #[]] 56)).alloc (.cells #[.int .i64 c,.int .i64 d,.int .i64 e,.int .i64 f] 81)) (.cells #[r0,r1,r2,r3] 82)
   rwa [World.size_alloc,World.size_alloc]at this
  have hsz2:w1.heap.size+1+1 < W2.heap.size:=(aL.1 hrb).1;have hx0:∀ w,Sem.run prog (Instr.index 82 (.agg #[r0,r1,r2,r3]) (.int .i64 0)) w=.ok r0 w:=λw=>by kernel_rfl
  have hx1:∀ w,Sem.run prog (Instr.index 82 (.agg #[r0,r1,r2,r3]) (.int .i64 1)) w=.ok r1 w:=λw=>by kernel_rfl
  have hx2:∀ w,Sem.run prog (Instr.index 82 (.agg #[r0,r1,r2,r3]) (.int .i64 2)) w=.ok r2 w:=λw=>by kernel_rfl
  have hx3:∀ w,Sem.run prog (Instr.index 82 (.agg #[r0,r1,r2,r3]) (.int .i64 3)) w=.ok r3 w:=λw=>by kernel_rfl
  have hn1:∀ w,Sem.run prog (binOp .neq 53 .nilFunc .nilFunc) w=.ok (.bool false) w:=λw=>by kernel_rfl
  have hn2:∀ fn w,Sem.run prog (binOp .neq 53 (.func (.func fn) #[] #[]) .nilFunc) w=.ok (.bool true) w:=λfn w=>by kernel_rfl
  have he1:∀ w,Sem.run prog (binOp .eql 53 .nilFunc .nilFunc) w=.ok (.bool true) w:=λw=>by kernel_rfl
  have he2:∀ fn w,Sem.run prog (binOp .eql 53 (.func (.func fn) #[] #[]) .nilFunc) w=.ok (.bool false) w:=λfn w=>by kernel_rfl
  clear hs0 hs1 hs2 hs3 hc0 hc1 hc2 hc3 c2 c3 c4 c5
  go_loopg [49] 4 (λm i wx=>∃ j:Nat,j+m=4/\i=.int .i64 j/\(∀ p,p < j->[o0,o1,o2,o3].getD p none≠some false)/\Below W2.heap.size W2 wx)
  case atStart=>exact⟨0,rfl,rfl,by intro p hp;omega,Below.refl _ _⟩
  case round=>
   obtain⟨j,hjm,rfl,hg,hbr⟩:=hrel;have hq:=(hbr.block (w1.heap.size+1) hsz).trans hfb;have q0:wr.cell? ⟨w1.heap.size+1,0,none⟩=some (.int .i64 c):=by simp[World.cell?,hq]
   have q1:wr.cell? ⟨w1.heap.size+1,1,none⟩=some (.int .i64 d):=by simp[World.cell?,hq]
   have q2:wr.cell? ⟨w1.heap.size+1,2,none⟩=some (.int .i64 e):=by simp[World.cell?,hq]
   have q3:wr.cell? ⟨w1.heap.size+1,3,none⟩=some (.int .i64 f):=by simp[World.cell?,hq]
   cases gk with
   | zero=>
    obtain rfl:j=4:=by omega
    have hq2:=(hbr.block (w1.heap.size+1+1) hsz2).trans hrb;have z0:wr.cell? ⟨w1.heap.size+1+1,0,none⟩=some r0:=by simp[World.cell?,hq2]
    have z1:wr.cell? ⟨w1.heap.size+1+1,1,none⟩=some r1:=by simp[World.cell?,hq2]
    have z2:wr.cell? ⟨w1.heap.size+1+1,2,none⟩=some r2:=by simp[World.cell?,hq2]
    have z3:wr.cell? ⟨w1.heap.size+1+1,3,none⟩=some r3:=by simp[World.cell?,hq2]
    have hgg:∀ p,p < 4->[o0,o1,o2,o3].getD p none≠some false:=hg;clear hg q0 q1 q2 q3
    go_wp2
    go_loopg [65] 4 (λm i wx=>∃ j:Nat,j+m=4/\i=.int .i64 j/\(∀ p,p < j->[o0,o1,o2,o3].getD p none=none->[c,d,e,f].getD p 0=0)/\wx=wr)
    case atStart=>exact⟨0,rfl,rfl,by intro p hp;omega,rfl⟩
    case round=>
     obtain⟨j,hjm,rfl,hg,rfl⟩:=hrel;have q0:wr.cell? ⟨w1.heap.size+1,0,none⟩=some (.int .i64 c):=by simp[World.cell?,hq]
     have q1:wr.cell? ⟨w1.heap.size+1,1,none⟩=some (.int .i64 d):=by simp[World.cell?,hq]
     have q2:wr.cell? ⟨w1.heap.size+1,2,none⟩=some (.int .i64 e):=by simp[World.cell?,hq]
     have q3:wr.cell? ⟨w1.heap.size+1,3,none⟩=some (.int .i64 f):=by simp[World.cell?,hq]
     cases gk with
     | zero=>
      obtain rfl:j=4:=by omega
      go_wp2
      go_ret
      exact⟨.inr ⟨hgg,.inr ⟨rfl,hg⟩⟩,hbW.trans (hbr.mono hbW.size)⟩
     | succ m=>
      rcases(show j=0\/j=1\/j=2\/j=3 by omega)with rfl | rfl | rfl | rfl
      ·rcases h0 with _ | ⟨fn,z,hE,hz⟩
       ·by_cases hv:c=0
        ·go_wp2
         go_roundg m
         case measure=>omega
         case rel=>exact⟨1,by omega,by simp,by intro p hp hq;rcases(show p < 0\/p=0 by omega)with hp | rfl;exact hg p hp hq;exact hv,rfl⟩
        ·go_wp2
         go_ret
         exact⟨.inr ⟨hgg,.inl ⟨rfl,0,by omega,rfl,hv⟩⟩,hbW.trans (hbr.mono hbW.size)⟩
       ·go_wp2
        go_roundg m
        case measure=>omega
        case rel=>exact⟨1,by omega,by simp,by intro p hp hq;rcases(show p < 0\/p=0 by omega)with hp | rfl;exact hg p hp hq;exact absurd hq (by simp),rfl⟩
      ·rcases h1 with _ | ⟨fn,z,hE,hz⟩
       ·by_cases hv:d=0
        ·go_wp2
         go_roundg m
         case measure=>omega
         case rel=>exact⟨2,by omega,by simp,by intro p hp hq;rcases(show p < 1\/p=1 by omega)with hp | rfl;exact hg p hp hq;exact hv,rfl⟩
        ·go_wp2
         go_ret
         exact⟨.inr ⟨hgg,.inl ⟨rfl,1,by omega,rfl,hv⟩⟩,hbW.trans (hbr.mono hbW.size)⟩
       ·go_wp2
        go_roundg m
        case measure=>omega
        case rel=>exact⟨2,by omega,by simp,by intro p hp hq;rcases(show p < 1\/p=1 by omega)with hp | rfl;exact hg p hp hq;exact absurd hq (by simp),rfl⟩
      ·rcases h2 with _ | ⟨fn,z,hE,hz⟩
       ·by_cases hv:e=0
        ·go_wp2
         go_roundg m
         case measure=>omega
         case rel=>exact⟨3,by omega,by simp,by intro p hp hq;rcases(show p < 2\/p=2 by omega)with hp | rfl;exact hg p hp hq;exact hv,rfl⟩
        ·go_wp2
         go_ret
         exact⟨.inr ⟨hgg,.inl ⟨rfl,2,by omega,rfl,hv⟩⟩,hbW.trans (hbr.mono hbW.size)⟩
       ·go_wp2
        go_roundg m
        case measure=>omega
        case rel=>exact⟨3,by omega,by simp,by intro p hp hq;rcases(show p < 2\/p=2 by omega)with hp | rfl;exact hg p hp hq;exact absurd hq (by simp),rfl⟩
      ·rcases h3 with _ | ⟨fn,z,hE,hz⟩
       ·by_cases hv:f=0
        ·go_wp2
         go_roundg m
         case measure=>omega
         case rel=>exact⟨4,by omega,by simp,by intro p hp hq;rcases(show p < 3\/p=3 by omega)with hp | rfl;exact hg p hp hq;exact hv,rfl⟩
        ·go_wp2
         go_ret
         exact⟨.inr ⟨hgg,.inl ⟨rfl,3,by omega,rfl,hv⟩⟩,hbW.trans (hbr.mono hbW.size)⟩
       ·go_wp2
        go_roundg m
        case measure=>omega
        case rel=>exact⟨4,by omega,by simp,by intro p hp hq;rcases(show p < 3\/p=3 by omega)with hp | rfl;exact hg p hp hq;exact absurd hq (by simp),rfl⟩
   | succ m=>
    rcases(show j=0\/j=1\/j=2\/j=3 by omega)with rfl | rfl | rfl | rfl
    ·rcases h0 with _ | ⟨fn,_ | _,hE,hz⟩
     ·go_wp2
      go_roundg m
      case measure=>omega
      case rel=>exact⟨1,by omega,by simp,by intro p hp;rcases(show p < 0\/p=0 by omega)with hp | rfl;exact hg p hp;simp,hbr⟩
     ·go_wp2_with (refine(hz _).mono ?_;rintro _ w3 ⟨rfl,hb3⟩)
      go_ret
      exact⟨.inl ⟨rfl,0,by omega,rfl⟩,hbW.trans ((hbr.trans (hb3.mono hbr.size)).mono hbW.size)⟩
     ·go_wp2_with (refine(hz _).mono ?_;rintro _ w3 ⟨rfl,hb3⟩)
      go_roundg m
      case measure=>omega
      case rel=>exact⟨1,by omega,by simp,by intro p hp;rcases(show p < 0\/p=0 by omega)with hp | rfl;exact hg p hp;simp,hbr.trans (hb3.mono hbr.size)⟩
    ·rcases h1 with _ | ⟨fn,_ | _,hE,hz⟩
     ·go_wp2
      go_roundg m
      case measure=>omega
      case rel=>exact⟨2,by omega,by simp,by intro p hp;rcases(show p < 1\/p=1 by omega)with hp | rfl;exact hg p hp;simp,hbr⟩
     ·go_wp2_with (refine(hz _).mono ?_;rintro _ w3 ⟨rfl,hb3⟩)
      go_ret
      exact⟨.inl ⟨rfl,1,by omega,rfl⟩,hbW.trans ((hbr.trans (hb3.mono hbr.size)).mono hbW.size)⟩
     ·go_wp2_with (refine(hz _).mono ?_;rintro _ w3 ⟨rfl,hb3⟩)
      go_roundg m
      case measure=>omega
      case rel=>exact⟨2,by omega,by simp,by intro p hp;rcases(show p < 1\/p=1 by omega)with hp | rfl;exact hg p hp;simp,hbr.trans (hb3.mono hbr.size)⟩
    ·rcases h2 with _ | ⟨fn,_ | _,hE,hz⟩
     ·go_wp2
      go_roundg m
      case measure=>omega
      case rel=>exact⟨3,by omega,by simp,by intro p hp;rcases(show p < 2\/p=2 by omega)with hp | rfl;exact hg p hp;simp,hbr⟩
     ·go_wp2_with (refine(hz _).mono ?_;rintro _ w3 ⟨rfl,hb3⟩)
      go_ret
      exact⟨.inl ⟨rfl,2,by omega,rfl⟩,hbW.trans ((hbr.trans (hb3.mono hbr.size)).mono hbW.size)⟩
     ·go_wp2_with (refine(hz _).mono ?_;rintro _ w3 ⟨rfl,hb3⟩)
      go_roundg m
      case measure=>omega
      case rel=>exact⟨3,by omega,by simp,by intro p hp;rcases(show p < 2\/p=2 by omega)with hp | rfl;exact hg p hp;simp,hbr.trans (hb3.mono hbr.size)⟩
    ·rcases h3 with _ | ⟨fn,_ | _,hE,hz⟩
     ·go_wp2
      go_roundg m
      case measure=>omega
      case rel=>exact⟨4,by omega,by simp,by intro p hp;rcases(show p < 3\/p=3 by omega)with hp | rfl;exact hg p hp;simp,hbr⟩
     ·go_wp2_with (refine(hz _).mono ?_;rintro _ w3 ⟨rfl,hb3⟩)
      go_ret
      exact⟨.inl ⟨rfl,3,by omega,rfl⟩,hbW.trans ((hbr.trans (hb3.mono hbr.size)).mono hbW.size)⟩
     ·go_wp2_with (refine(hz _).mono ?_;rintro _ w3 ⟨rfl,hb3⟩)
      go_roundg m
      case measure=>omega
      case rel=>exact⟨4,by omega,by simp,by intro p hp;rcases(show p < 3\/p=3 by omega)with hp | rfl;exact hg p hp;simp,hbr.trans (hb3.mono hbr.size)⟩
end
section
attribute [local go_sem] Oper.semAt_some kZ kY
set_option maxRecDepth 100000 in
set_option maxHeartbeats 4000000 in
theorem aRK (k b c d e f:Int)(hk:1<=k/\k<=9)(hne:¬ b=-1)(h91:CB 45 #[.int .i64 b] (.bool true))(r0 r1 r2 r3 ap:Value)(o0 o1 o2 o3:Option Bool)(h0:Rl c r0 o0)(h1:Rl d r1 o1)(h2:Rl e r2 o2)(h3:Rl f r3 o3)
  (fa:Nat) (hap:ap=.func (.func fa) #[] #[]) (h111:CB 24 #[.int .i64 k] (.agg #[r0,r1,r2,r3,ap])) (w:World) :
  Calls prog 22 #[.agg #[.int .i64 k,.int .i64 b,.int .i64 c,.int .i64 d,.int .i64 e,.int .i64 f]] w λe' w'=>aHU [o0,o1,o2,o3] [c,d,e,f] e'/\Below w.heap.size w w':=by
 have hk1:¬ k < 1:=by omega
 have hk9:¬ 9 < k:=by omega
 subst hap;have hs0:=h0.store;have hs1:=h1.store;have hs2:=h2.store;have hs3:=h3.store;have hc0:r0.cells=#[r0]:=by cases h0<;>rfl
 have hc1:r1.cells=#[r1]:=by cases h1<;>rfl
 have hc2:r2.cells=#[r2]:=by cases h2<;>rfl
 have hc3:r3.cells=#[r3]:=by cases h3<;>rfl
 unfold Value.cells at hc0 hc1 hc2 hc3
 go_enter func22,ntmps22
 ·skip
  go_wp2_with (first | (go_at_call 45;refine(h91 _).mono ?_;rintro _ w0 ⟨rfl,hb0⟩;have c0:=aTy hb0;clear h91) | (go_at_call 24;refine(h111 _).mono ?_;rintro _ w1 ⟨rfl,hb1z⟩;have hb1:=hb0.trans (hb1z.mono hb0.size);clear hb1z c0;have c2:=λo=>(aEi hb1 o).1;have c3:=λo=>(aEi hb1 o).2.1;have c4:=λo=>(aEi hb1 o).2.2.1;have c5:=λo=>(aEi hb1 o).2.2.2;clear h111))
  have hs1':=hb1.size
  generalize hW:((w1.alloc (.cells #[r0,r1,r2,r3,.func (.func fa) #[] #[]] 56)).alloc (.cells #[.int .i64 c,.int .i64 d,.int .i64 e,.int .i64 f] 81)).alloc (.cells #[r0,r1,r2,r3] 82)=W2
  have hbW:Below w.heap.size w W2:=by
   rw[<-hW];exact((((((Below.refl _ w).alloc (aK _) _).trans (hb1.mono (by simp))).alloc (by simp at hs1';omega) _).alloc (by simp at hs1' ⊢;omega) _).alloc (by simp at hs1' ⊢;omega) _)
  have hfb:W2.heap[w1.heap.size+1]?=some (.cells #[.int .i64 c,.int .i64 d,.int .i64 e,.int .i64 f] 81 (0,0)):=by
   rw[<-hW];refine(Below.heap_alloc _ _ _ (by simp)).trans ?_;have:=World.alloc_heap_new (w1.alloc (.cells #[r0,r1,r2,r3,.func (.func fa) #[] #[]] 56)) (.cells #[.int .i64 c,.int .i64 d,.int .i64 e,.int .i64 f] 81)
   rwa [World.size_alloc]at this
  have hsz:w1.heap.size+1 < W2.heap.size:=(aL.1 hfb).1;have hrb:W2.heap[w1.heap.size+1+1]?=some (.cells #[r0,r1,r2,r3] 82 (0,0)):=by
   rw[<-hW];have:=World.alloc_heap_new ((w1.alloc (.cells #[r0,r1,r2,r3,.func (.func fa) #[] #[]] 56)).alloc (.cells #[.int .i64 c,.int .i64 d,.int .i64 e,.int .i64 f] 81)) (.cells #[r0,r1,r2,r3] 82)
   rwa [World.size_alloc,World.size_alloc]at this
  have hsz2:w1.heap.size+1+1 < W2.heap.size:=(aL.1 hrb).1;have hx0:∀ w,Sem.run prog (Instr.index 82 (.agg #[r0,r1,r2,r3]) (.int .i64 0)) w=.ok r0 w:=λw=>by kernel_rfl
  have hx1:∀ w,Sem.run prog (Instr.index 82 (.agg #[r0,r1,r2,r3]) (.int .i64 1)) w=.ok r1 w:=λw=>by kernel_rfl
  have hx2:∀ w,Sem.run prog (Instr.index 82 (.agg #[r0,r1,r2,r3]) (.int .i64 2)) w=.ok r2 w:=λw=>by kernel_rfl
  have hx3:∀ w,Sem.run prog (Instr.index 82 (.agg #[r0,r1,r2,r3]) (.int .i64 3)) w=.ok r3 w:=λw=>by kernel_rfl
  have hn1:∀ w,Sem.run prog (binOp .neq 53 .nilFunc .nilFunc) w=.ok (.bool false) w:=λw=>by kernel_rfl
  have hn2:∀ fn w,Sem.run prog (binOp .neq 53 (.func (.func fn) #[] #[]) .nilFunc) w=.ok (.bool true) w:=λfn w=>by kernel_rfl
  have he1:∀ w,Sem.run prog (binOp .eql 53 .nilFunc .nilFunc) w=.ok (.bool true) w:=λw=>by kernel_rfl
  have he2:∀ fn w,Sem.run prog (binOp .eql 53 (.func (.func fn) #[] #[]) .nilFunc) w=.ok (.bool false) w:=λfn w=>by kernel_rfl
  clear hs0 hs1 hs2 hs3 hc0 hc1 hc2 hc3 c2 c3 c4 c5
  go_loopg [49] 4 (λm i wx=>∃ j:Nat,j+m=4/\i=.int .i64 j/\(∀ p,p < j->[o0,o1,o2,o3].getD p none≠some false)/\Below W2.heap.size W2 wx)
  case atStart=>exact⟨0,rfl,rfl,by intro p hp;omega,Below.refl _ _⟩
  case round=>
   obtain⟨j,hjm,rfl,hg,hbr⟩:=hrel;have hq:=(hbr.block (w1.heap.size+1) hsz).trans hfb;have q0:wr.cell? ⟨w1.heap.size+1,0,none⟩=some (.int .i64 c):=by simp[World.cell?,hq]
   have q1:wr.cell? ⟨w1.heap.size+1,1,none⟩=some (.int .i64 d):=by simp[World.cell?,hq]
   have q2:wr.cell? ⟨w1.heap.size+1,2,none⟩=some (.int .i64 e):=by simp[World.cell?,hq]
   have q3:wr.cell? ⟨w1.heap.size+1,3,none⟩=some (.int .i64 f):=by simp[World.cell?,hq]
   cases gk with
   | zero=>
    obtain rfl:j=4:=by omega
    have hq2:=(hbr.block (w1.heap.size+1+1) hsz2).trans hrb;have z0:wr.cell? ⟨w1.heap.size+1+1,0,none⟩=some r0:=by simp[World.cell?,hq2]
    have z1:wr.cell? ⟨w1.heap.size+1+1,1,none⟩=some r1:=by simp[World.cell?,hq2]
    have z2:wr.cell? ⟨w1.heap.size+1+1,2,none⟩=some r2:=by simp[World.cell?,hq2]
    have z3:wr.cell? ⟨w1.heap.size+1+1,3,none⟩=some r3:=by simp[World.cell?,hq2]
    have hgg:∀ p,p < 4->[o0,o1,o2,o3].getD p none≠some false:=hg;clear hg q0 q1 q2 q3
    go_wp2
    go_loopg [65] 4 (λm i wx=>∃ j:Nat,j+m=4/\i=.int .i64 j/\(∀ p,p < j->[o0,o1,o2,o3].getD p none=none->[c,d,e,f].getD p 0=0)/\wx=wr)
    case atStart=>exact⟨0,rfl,rfl,by intro p hp;omega,rfl⟩
    case round=>
     obtain⟨j,hjm,rfl,hg,rfl⟩:=hrel;have q0:wr.cell? ⟨w1.heap.size+1,0,none⟩=some (.int .i64 c):=by simp[World.cell?,hq]
     have q1:wr.cell? ⟨w1.heap.size+1,1,none⟩=some (.int .i64 d):=by simp[World.cell?,hq]
     have q2:wr.cell? ⟨w1.heap.size+1,2,none⟩=some (.int .i64 e):=by simp[World.cell?,hq]
     have q3:wr.cell? ⟨w1.heap.size+1,3,none⟩=some (.int .i64 f):=by simp[World.cell?,hq]
     cases gk with
     | zero=>
      obtain rfl:j=4:=by omega
      go_wp2
      go_ret
      exact⟨.inr ⟨hgg,.inr ⟨rfl,hg⟩⟩,hbW.trans (hbr.mono hbW.size)⟩
     | succ m=>
      rcases(show j=0\/j=1\/j=2\/j=3 by omega)with rfl | rfl | rfl | rfl
      ·rcases h0 with _ | ⟨fn,z,hE,hz⟩
       ·by_cases hv:c=0
        ·go_wp2
         go_roundg m
         case measure=>omega
         case rel=>exact⟨1,by omega,by simp,by intro p hp hq;rcases(show p < 0\/p=0 by omega)with hp | rfl;exact hg p hp hq;exact hv,rfl⟩
        ·go_wp2
         go_ret
         exact⟨.inr ⟨hgg,.inl ⟨rfl,0,by omega,rfl,hv⟩⟩,hbW.trans (hbr.mono hbW.size)⟩
       ·go_wp2
        go_roundg m
        case measure=>omega
        case rel=>exact⟨1,by omega,by simp,by intro p hp hq;rcases(show p < 0\/p=0 by omega)with hp | rfl;exact hg p hp hq;exact absurd hq (by simp),rfl⟩
      ·rcases h1 with _ | ⟨fn,z,hE,hz⟩
       ·by_cases hv:d=0
        ·go_wp2
         go_roundg m
         case measure=>omega
         case rel=>exact⟨2,by omega,by simp,by intro p hp hq;rcases(show p < 1\/p=1 by omega)with hp | rfl;exact hg p hp hq;exact hv,rfl⟩
        ·go_wp2
         go_ret
         exact⟨.inr ⟨hgg,.inl ⟨rfl,1,by omega,rfl,hv⟩⟩,hbW.trans (hbr.mono hbW.size)⟩
       ·go_wp2
        go_roundg m
        case measure=>omega
        case rel=>exact⟨2,by omega,by simp,by intro p hp hq;rcases(show p < 1\/p=1 by omega)with hp | rfl;exact hg p hp hq;exact absurd hq (by simp),rfl⟩
      ·rcases h2 with _ | ⟨fn,z,hE,hz⟩
       ·by_cases hv:e=0
        ·go_wp2
         go_roundg m
         case measure=>omega
         case rel=>exact⟨3,by omega,by simp,by intro p hp hq;rcases(show p < 2\/p=2 by omega)with hp | rfl;exact hg p hp hq;exact hv,rfl⟩
        ·go_wp2
         go_ret
         exact⟨.inr ⟨hgg,.inl ⟨rfl,2,by omega,rfl,hv⟩⟩,hbW.trans (hbr.mono hbW.size)⟩
       ·go_wp2
        go_roundg m
        case measure=>omega
        case rel=>exact⟨3,by omega,by simp,by intro p hp hq;rcases(show p < 2\/p=2 by omega)with hp | rfl;exact hg p hp hq;exact absurd hq (by simp),rfl⟩
      ·rcases h3 with _ | ⟨fn,z,hE,hz⟩
       ·by_cases hv:f=0
        ·go_wp2
         go_roundg m
         case measure=>omega
         case rel=>exact⟨4,by omega,by simp,by intro p hp hq;rcases(show p < 3\/p=3 by omega)with hp | rfl;exact hg p hp hq;exact hv,rfl⟩
        ·go_wp2
         go_ret
         exact⟨.inr ⟨hgg,.inl ⟨rfl,3,by omega,rfl,hv⟩⟩,hbW.trans (hbr.mono hbW.size)⟩
       ·go_wp2
        go_roundg m
        case measure=>omega
        case rel=>exact⟨4,by omega,by simp,by intro p hp hq;rcases(show p < 3\/p=3 by omega)with hp | rfl;exact hg p hp hq;exact absurd hq (by simp),rfl⟩
   | succ m=>
    rcases(show j=0\/j=1\/j=2\/j=3 by omega)with rfl | rfl | rfl | rfl
    ·rcases h0 with _ | ⟨fn,_ | _,hE,hz⟩
     ·go_wp2
      go_roundg m
      case measure=>omega
      case rel=>exact⟨1,by omega,by simp,by intro p hp;rcases(show p < 0\/p=0 by omega)with hp | rfl;exact hg p hp;simp,hbr⟩
     ·go_wp2_with (refine(hz _).mono ?_;rintro _ w3 ⟨rfl,hb3⟩)
      go_ret
      exact⟨.inl ⟨rfl,0,by omega,rfl⟩,hbW.trans ((hbr.trans (hb3.mono hbr.size)).mono hbW.size)⟩
     ·go_wp2_with (refine(hz _).mono ?_;rintro _ w3 ⟨rfl,hb3⟩)
      go_roundg m
      case measure=>omega
      case rel=>exact⟨1,by omega,by simp,by intro p hp;rcases(show p < 0\/p=0 by omega)with hp | rfl;exact hg p hp;simp,hbr.trans (hb3.mono hbr.size)⟩
    ·rcases h1 with _ | ⟨fn,_ | _,hE,hz⟩
     ·go_wp2
      go_roundg m
      case measure=>omega
      case rel=>exact⟨2,by omega,by simp,by intro p hp;rcases(show p < 1\/p=1 by omega)with hp | rfl;exact hg p hp;simp,hbr⟩
     ·go_wp2_with (refine(hz _).mono ?_;rintro _ w3 ⟨rfl,hb3⟩)
      go_ret
      exact⟨.inl ⟨rfl,1,by omega,rfl⟩,hbW.trans ((hbr.trans (hb3.mono hbr.size)).mono hbW.size)⟩
     ·go_wp2_with (refine(hz _).mono ?_;rintro _ w3 ⟨rfl,hb3⟩)
      go_roundg m
      case measure=>omega
      case rel=>exact⟨2,by omega,by simp,by intro p hp;rcases(show p < 1\/p=1 by omega)with hp | rfl;exact hg p hp;simp,hbr.trans (hb3.mono hbr.size)⟩
    ·rcases h2 with _ | ⟨fn,_ | _,hE,hz⟩
     ·go_wp2
      go_roundg m
      case measure=>omega
      case rel=>exact⟨3,by omega,by simp,by intro p hp;rcases(show p < 2\/p=2 by omega)with hp | rfl;exact hg p hp;simp,hbr⟩
     ·go_wp2_with (refine(hz _).mono ?_;rintro _ w3 ⟨rfl,hb3⟩)
      go_ret
      exact⟨.inl ⟨rfl,2,by omega,rfl⟩,hbW.trans ((hbr.trans (hb3.mono hbr.size)).mono hbW.size)⟩
     ·go_wp2_with (refine(hz _).mono ?_;rintro _ w3 ⟨rfl,hb3⟩)
      go_roundg m
      case measure=>omega
      case rel=>exact⟨3,by omega,by simp,by intro p hp;rcases(show p < 2\/p=2 by omega)with hp | rfl;exact hg p hp;simp,hbr.trans (hb3.mono hbr.size)⟩
    ·rcases h3 with _ | ⟨fn,_ | _,hE,hz⟩
     ·go_wp2
      go_roundg m
      case measure=>omega
      case rel=>exact⟨4,by omega,by simp,by intro p hp;rcases(show p < 3\/p=3 by omega)with hp | rfl;exact hg p hp;simp,hbr⟩
     ·go_wp2_with (refine(hz _).mono ?_;rintro _ w3 ⟨rfl,hb3⟩)
      go_ret
      exact⟨.inl ⟨rfl,3,by omega,rfl⟩,hbW.trans ((hbr.trans (hb3.mono hbr.size)).mono hbW.size)⟩
     ·go_wp2_with (refine(hz _).mono ?_;rintro _ w3 ⟨rfl,hb3⟩)
      go_roundg m
      case measure=>omega
      case rel=>exact⟨4,by omega,by simp,by intro p hp;rcases(show p < 3\/p=3 by omega)with hp | rfl;exact hg p hp;simp,hbr.trans (hb3.mono hbr.size)⟩
end
section
attribute [local go_sem] Oper.semAt_some
theorem cJ {w w1:World}{t:TypeId}{v0 v1 v2 v3 v4 v5:Value}(h:Below (w.alloc (.cells #[v0,v1,v2,v3,v4,v5] t)).heap.size (w.alloc (.cells #[v0,v1,v2,v3,v4,v5] t)) w1) :
  w1.cell? ⟨w.heap.size,0,none⟩=some v0/\w1.cell? ⟨w.heap.size,1,none⟩=some v1/\w1.cell? ⟨w.heap.size,2,none⟩=some v2/\w1.cell? ⟨w.heap.size,3,none⟩=some v3/\w1.cell? ⟨w.heap.size,4,none⟩=some v4/\w1.cell? ⟨w.heap.size,5,none⟩=some v5:=by
 have q:=(h.block w.heap.size (by simp)).trans (World.alloc_heap_new w _);refine⟨?_,?_,?_,?_,?_,?_⟩<;>simp[World.cell?,q]
set_option maxRecDepth 100000 in
set_option maxHeartbeats 8000000 in
theorem aRN (k b c d e f:Int)(z0 z1:Bool)(hz:(b != -1)=z0)(h105:CB 34 #[.int .i64 k,.int .i64 1,.int .i64 9] (.bool true))(h90:CB 35 #[.int .i64 k] (.tuple #[.bool true,.bool true,.bool true,.bool false]))(h99:CB 31 #[.int .i64 b] (.bool z1))(z2:Bool)(h106:CB 36 #[.int .i64 c] (.bool z2))(z3:Bool)(h107:CB 37 #[.int .i64 d] (.bool z3))(z4:Bool)(h108:CB 38 #[.agg #[.int .i64 k,.int .i64 b,.int .i64 c,.int .i64 d,.int .i64 e,.int .i64 f]] (.bool z4))(r:Int)(hr:(bif (z0&&!z1) || !z2 || !z3 || !z4 then 3 else if f≠0 then 1 else 0)=r)(w:World) :
  Calls prog 17 #[.agg #[.int .i64 k,.int .i64 b,.int .i64 c,.int .i64 d,.int .i64 e,.int .i64 f]] w λe' w'=>e'=.returned (.int .i64 r)/\Below w.heap.size w w':=by
 have hB:=Below.refl (w.alloc (.cells #[.int .i64 k,.int .i64 b,.int .i64 c,.int .i64 d,.int .i64 e,.int .i64 f] 37)).heap.size (w.alloc (.cells #[.int .i64 k,.int .i64 b,.int .i64 c,.int .i64 d,.int .i64 e,.int .i64 f] 37))
 go_enter func17,ntmps17
 by_cases hb:b=-1
 ·subst hb;have hz0:z0=false:=by rw[<-hz];rfl
  subst hz0;cases z2
  case false=>
   go_wp2_with (first | (go_at_call 34;refine(h105 _).mono ?_;clear h105;rintro _ wn ⟨rfl,hbn⟩;replace hB:=hB.trans (hbn.mono hB.size);obtain⟨k0,k1,k2,k3,k4,k5⟩:=cJ hB) | (go_at_call 35;refine(h90 _).mono ?_;clear h90;rintro _ wn ⟨rfl,hbn⟩;replace hB:=hB.trans (hbn.mono hB.size);obtain⟨k0,k1,k2,k3,k4,k5⟩:=cJ hB) | (go_at_call 31;refine(h99 _).mono ?_;clear h99;rintro _ wn ⟨rfl,hbn⟩;replace hB:=hB.trans (hbn.mono hB.size);obtain⟨k0,k1,k2,k3,k4,k5⟩:=cJ hB) | (go_at_call 36;refine(h106 _).mono ?_;clear h106;rintro _ wn ⟨rfl,hbn⟩;replace hB:=hB.trans (hbn.mono hB.size);obtain⟨k0,k1,k2,k3,k4,k5⟩:=cJ hB) | (go_at_call 37;refine(h107 _).mono ?_;clear h107;rintro _ wn ⟨rfl,hbn⟩;replace hB:=hB.trans (hbn.mono hB.size);obtain⟨k0,k1,k2,k3,k4,k5⟩:=cJ hB) | (go_at_call 38;refine(h108 _).mono ?_;clear h108;rintro _ wn ⟨rfl,hbn⟩;replace hB:=hB.trans (hbn.mono hB.size);obtain⟨k0,k1,k2,k3,k4,k5⟩:=cJ hB))
   go_ret
   exact⟨by rw[<-hr];simp,((Below.refl _ w).alloc (aK _) _).trans (hB.mono (by simp))⟩
  case true=>
   cases z3
   case false=>
    go_wp2_with (first | (go_at_call 34;refine(h105 _).mono ?_;clear h105;rintro _ wn ⟨rfl,hbn⟩;replace hB:=hB.trans (hbn.mono hB.size);obtain⟨k0,k1,k2,k3,k4,k5⟩:=cJ hB) | (go_at_call 35;refine(h90 _).mono ?_;clear h90;rintro _ wn ⟨rfl,hbn⟩;replace hB:=hB.trans (hbn.mono hB.size);obtain⟨k0,k1,k2,k3,k4,k5⟩:=cJ hB) | (go_at_call 31;refine(h99 _).mono ?_;clear h99;rintro _ wn ⟨rfl,hbn⟩;replace hB:=hB.trans (hbn.mono hB.size);obtain⟨k0,k1,k2,k3,k4,k5⟩:=cJ hB) | (go_at_call 36;refine(h106 _).mono ?_;clear h106;rintro _ wn ⟨rfl,hbn⟩;replace hB:=hB.trans (hbn.mono hB.size);obtain⟨k0,k1,k2,k3,k4,k5⟩:=cJ hB) | (go_at_call 37;refine(h107 _).mono ?_;clear h107;rintro _ wn ⟨rfl,hbn⟩;replace hB:=hB.trans (hbn.mono hB.size);obtain⟨k0,k1,k2,k3,k4,k5⟩:=cJ hB) | (go_at_call 38;refine(h108 _).mono ?_;clear h108;rintro _ wn ⟨rfl,hbn⟩;replace hB:=hB.trans (hbn.mono hB.size);obtain⟨k0,k1,k2,k3,k4,k5⟩:=cJ hB))
    go_ret
    exact⟨by rw[<-hr];simp,((Below.refl _ w).alloc (aK _) _).trans (hB.mono (by simp))⟩
   case true=>
    cases z4
    case false=>
     go_wp2_with (first | (go_at_call 34;refine(h105 _).mono ?_;clear h105;rintro _ wn ⟨rfl,hbn⟩;replace hB:=hB.trans (hbn.mono hB.size);obtain⟨k0,k1,k2,k3,k4,k5⟩:=cJ hB) | (go_at_call 35;refine(h90 _).mono ?_;clear h90;rintro _ wn ⟨rfl,hbn⟩;replace hB:=hB.trans (hbn.mono hB.size);obtain⟨k0,k1,k2,k3,k4,k5⟩:=cJ hB) | (go_at_call 31;refine(h99 _).mono ?_;clear h99;rintro _ wn ⟨rfl,hbn⟩;replace hB:=hB.trans (hbn.mono hB.size);obtain⟨k0,k1,k2,k3,k4,k5⟩:=cJ hB) | (go_at_call 36;refine(h106 _).mono ?_;clear h106;rintro _ wn ⟨rfl,hbn⟩;replace hB:=hB.trans (hbn.mono hB.size);obtain⟨k0,k1,k2,k3,k4,k5⟩:=cJ hB) | (go_at_call 37;refine(h107 _).mono ?_;clear h107;rintro _ wn ⟨rfl,hbn⟩;replace hB:=hB.trans (hbn.mono hB.size);obtain⟨k0,k1,k2,k3,k4,k5⟩:=cJ hB) | (go_at_call 38;refine(h108 _).mono ?_;clear h108;rintro _ wn ⟨rfl,hbn⟩;replace hB:=hB.trans (hbn.mono hB.size);obtain⟨k0,k1,k2,k3,k4,k5⟩:=cJ hB))
     go_ret
     exact⟨by rw[<-hr];simp,((Below.refl _ w).alloc (aK _) _).trans (hB.mono (by simp))⟩
    case true=>
     by_cases hv3:f=0
     ·subst hv3
      go_wp2_with (first | (go_at_call 34;refine(h105 _).mono ?_;clear h105;rintro _ wn ⟨rfl,hbn⟩;replace hB:=hB.trans (hbn.mono hB.size);obtain⟨k0,k1,k2,k3,k4,k5⟩:=cJ hB) | (go_at_call 35;refine(h90 _).mono ?_;clear h90;rintro _ wn ⟨rfl,hbn⟩;replace hB:=hB.trans (hbn.mono hB.size);obtain⟨k0,k1,k2,k3,k4,k5⟩:=cJ hB) | (go_at_call 31;refine(h99 _).mono ?_;clear h99;rintro _ wn ⟨rfl,hbn⟩;replace hB:=hB.trans (hbn.mono hB.size);obtain⟨k0,k1,k2,k3,k4,k5⟩:=cJ hB) | (go_at_call 36;refine(h106 _).mono ?_;clear h106;rintro _ wn ⟨rfl,hbn⟩;replace hB:=hB.trans (hbn.mono hB.size);obtain⟨k0,k1,k2,k3,k4,k5⟩:=cJ hB) | (go_at_call 37;refine(h107 _).mono ?_;clear h107;rintro _ wn ⟨rfl,hbn⟩;replace hB:=hB.trans (hbn.mono hB.size);obtain⟨k0,k1,k2,k3,k4,k5⟩:=cJ hB) | (go_at_call 38;refine(h108 _).mono ?_;clear h108;rintro _ wn ⟨rfl,hbn⟩;replace hB:=hB.trans (hbn.mono hB.size);obtain⟨k0,k1,k2,k3,k4,k5⟩:=cJ hB))
      go_ret
      exact⟨by rw[<-hr];simp,((Below.refl _ w).alloc (aK _) _).trans (hB.mono (by simp))⟩
     ·skip
      go_wp2_with (first | (go_at_call 34;refine(h105 _).mono ?_;clear h105;rintro _ wn ⟨rfl,hbn⟩;replace hB:=hB.trans (hbn.mono hB.size);obtain⟨k0,k1,k2,k3,k4,k5⟩:=cJ hB) | (go_at_call 35;refine(h90 _).mono ?_;clear h90;rintro _ wn ⟨rfl,hbn⟩;replace hB:=hB.trans (hbn.mono hB.size);obtain⟨k0,k1,k2,k3,k4,k5⟩:=cJ hB) | (go_at_call 31;refine(h99 _).mono ?_;clear h99;rintro _ wn ⟨rfl,hbn⟩;replace hB:=hB.trans (hbn.mono hB.size);obtain⟨k0,k1,k2,k3,k4,k5⟩:=cJ hB) | (go_at_call 36;refine(h106 _).mono ?_;clear h106;rintro _ wn ⟨rfl,hbn⟩;replace hB:=hB.trans (hbn.mono hB.size);obtain⟨k0,k1,k2,k3,k4,k5⟩:=cJ hB) | (go_at_call 37;refine(h107 _).mono ?_;clear h107;rintro _ wn ⟨rfl,hbn⟩;replace hB:=hB.trans (hbn.mono hB.size);obtain⟨k0,k1,k2,k3,k4,k5⟩:=cJ hB) | (go_at_call 38;refine(h108 _).mono ?_;clear h108;rintro _ wn ⟨rfl,hbn⟩;replace hB:=hB.trans (hbn.mono hB.size);obtain⟨k0,k1,k2,k3,k4,k5⟩:=cJ hB))
      go_ret
      exact⟨by rw[<-hr];simp[hv3],((Below.refl _ w).alloc (aK _) _).trans (hB.mono (by simp))⟩
 ·have hz0:z0=true:=by rw[<-hz];simpa using hb
  subst hz0;cases z1
  case false=>
   go_wp2_with (first | (go_at_call 34;refine(h105 _).mono ?_;clear h105;rintro _ wn ⟨rfl,hbn⟩;replace hB:=hB.trans (hbn.mono hB.size);obtain⟨k0,k1,k2,k3,k4,k5⟩:=cJ hB) | (go_at_call 35;refine(h90 _).mono ?_;clear h90;rintro _ wn ⟨rfl,hbn⟩;replace hB:=hB.trans (hbn.mono hB.size);obtain⟨k0,k1,k2,k3,k4,k5⟩:=cJ hB) | (go_at_call 31;refine(h99 _).mono ?_;clear h99;rintro _ wn ⟨rfl,hbn⟩;replace hB:=hB.trans (hbn.mono hB.size);obtain⟨k0,k1,k2,k3,k4,k5⟩:=cJ hB) | (go_at_call 36;refine(h106 _).mono ?_;clear h106;rintro _ wn ⟨rfl,hbn⟩;replace hB:=hB.trans (hbn.mono hB.size);obtain⟨k0,k1,k2,k3,k4,k5⟩:=cJ hB) | (go_at_call 37;refine(h107 _).mono ?_;clear h107;rintro _ wn ⟨rfl,hbn⟩;replace hB:=hB.trans (hbn.mono hB.size);obtain⟨k0,k1,k2,k3,k4,k5⟩:=cJ hB) | (go_at_call 38;refine(h108 _).mono ?_;clear h108;rintro _ wn ⟨rfl,hbn⟩;replace hB:=hB.trans (hbn.mono hB.size);obtain⟨k0,k1,k2,k3,k4,k5⟩:=cJ hB))
   go_ret
   exact⟨by rw[<-hr];simp,((Below.refl _ w).alloc (aK _) _).trans (hB.mono (by simp))⟩
  case true=>
   cases z2
   case false=>
    go_wp2_with (first | (go_at_call 34;refine(h105 _).mono ?_;clear h105;rintro _ wn ⟨rfl,hbn⟩;replace hB:=hB.trans (hbn.mono hB.size);obtain⟨k0,k1,k2,k3,k4,k5⟩:=cJ hB) | (go_at_call 35;refine(h90 _).mono ?_;clear h90;rintro _ wn ⟨rfl,hbn⟩;replace hB:=hB.trans (hbn.mono hB.size);obtain⟨k0,k1,k2,k3,k4,k5⟩:=cJ hB) | (go_at_call 31;refine(h99 _).mono ?_;clear h99;rintro _ wn ⟨rfl,hbn⟩;replace hB:=hB.trans (hbn.mono hB.size);obtain⟨k0,k1,k2,k3,k4,k5⟩:=cJ hB) | (go_at_call 36;refine(h106 _).mono ?_;clear h106;rintro _ wn ⟨rfl,hbn⟩;replace hB:=hB.trans (hbn.mono hB.size);obtain⟨k0,k1,k2,k3,k4,k5⟩:=cJ hB) | (go_at_call 37;refine(h107 _).mono ?_;clear h107;rintro _ wn ⟨rfl,hbn⟩;replace hB:=hB.trans (hbn.mono hB.size);obtain⟨k0,k1,k2,k3,k4,k5⟩:=cJ hB) | (go_at_call 38;refine(h108 _).mono ?_;clear h108;rintro _ wn ⟨rfl,hbn⟩;replace hB:=hB.trans (hbn.mono hB.size);obtain⟨k0,k1,k2,k3,k4,k5⟩:=cJ hB))
    go_ret
    exact⟨by rw[<-hr];simp,((Below.refl _ w).alloc (aK _) _).trans (hB.mono (by simp))⟩
   case true=>
    cases z3
    case false=>
     go_wp2_with (first | (go_at_call 34;refine(h105 _).mono ?_;clear h105;rintro _ wn ⟨rfl,hbn⟩;replace hB:=hB.trans (hbn.mono hB.size);obtain⟨k0,k1,k2,k3,k4,k5⟩:=cJ hB) | (go_at_call 35;refine(h90 _).mono ?_;clear h90;rintro _ wn ⟨rfl,hbn⟩;replace hB:=hB.trans (hbn.mono hB.size);obtain⟨k0,k1,k2,k3,k4,k5⟩:=cJ hB) | (go_at_call 31;refine(h99 _).mono ?_;clear h99;rintro _ wn ⟨rfl,hbn⟩;replace hB:=hB.trans (hbn.mono hB.size);obtain⟨k0,k1,k2,k3,k4,k5⟩:=cJ hB) | (go_at_call 36;refine(h106 _).mono ?_;clear h106;rintro _ wn ⟨rfl,hbn⟩;replace hB:=hB.trans (hbn.mono hB.size);obtain⟨k0,k1,k2,k3,k4,k5⟩:=cJ hB) | (go_at_call 37;refine(h107 _).mono ?_;clear h107;rintro _ wn ⟨rfl,hbn⟩;replace hB:=hB.trans (hbn.mono hB.size);obtain⟨k0,k1,k2,k3,k4,k5⟩:=cJ hB) | (go_at_call 38;refine(h108 _).mono ?_;clear h108;rintro _ wn ⟨rfl,hbn⟩;replace hB:=hB.trans (hbn.mono hB.size);obtain⟨k0,k1,k2,k3,k4,k5⟩:=cJ hB))
     go_ret
     exact⟨by rw[<-hr];simp,((Below.refl _ w).alloc (aK _) _).trans (hB.mono (by simp))⟩
    case true=>
     cases z4
     case false=>
      go_wp2_with (first | (go_at_call 34;refine(h105 _).mono ?_;clear h105;rintro _ wn ⟨rfl,hbn⟩;replace hB:=hB.trans (hbn.mono hB.size);obtain⟨k0,k1,k2,k3,k4,k5⟩:=cJ hB) | (go_at_call 35;refine(h90 _).mono ?_;clear h90;rintro _ wn ⟨rfl,hbn⟩;replace hB:=hB.trans (hbn.mono hB.size);obtain⟨k0,k1,k2,k3,k4,k5⟩:=cJ hB) | (go_at_call 31;refine(h99 _).mono ?_;clear h99;rintro _ wn ⟨rfl,hbn⟩;replace hB:=hB.trans (hbn.mono hB.size);obtain⟨k0,k1,k2,k3,k4,k5⟩:=cJ hB) | (go_at_call 36;refine(h106 _).mono ?_;clear h106;rintro _ wn ⟨rfl,hbn⟩;replace hB:=hB.trans (hbn.mono hB.size);obtain⟨k0,k1,k2,k3,k4,k5⟩:=cJ hB) | (go_at_call 37;refine(h107 _).mono ?_;clear h107;rintro _ wn ⟨rfl,hbn⟩;replace hB:=hB.trans (hbn.mono hB.size);obtain⟨k0,k1,k2,k3,k4,k5⟩:=cJ hB) | (go_at_call 38;refine(h108 _).mono ?_;clear h108;rintro _ wn ⟨rfl,hbn⟩;replace hB:=hB.trans (hbn.mono hB.size);obtain⟨k0,k1,k2,k3,k4,k5⟩:=cJ hB))
      go_ret
      exact⟨by rw[<-hr];simp,((Below.refl _ w).alloc (aK _) _).trans (hB.mono (by simp))⟩
     case true=>
      by_cases hv3:f=0
      ·subst hv3
       go_wp2_with (first | (go_at_call 34;refine(h105 _).mono ?_;clear h105;rintro _ wn ⟨rfl,hbn⟩;replace hB:=hB.trans (hbn.mono hB.size);obtain⟨k0,k1,k2,k3,k4,k5⟩:=cJ hB) | (go_at_call 35;refine(h90 _).mono ?_;clear h90;rintro _ wn ⟨rfl,hbn⟩;replace hB:=hB.trans (hbn.mono hB.size);obtain⟨k0,k1,k2,k3,k4,k5⟩:=cJ hB) | (go_at_call 31;refine(h99 _).mono ?_;clear h99;rintro _ wn ⟨rfl,hbn⟩;replace hB:=hB.trans (hbn.mono hB.size);obtain⟨k0,k1,k2,k3,k4,k5⟩:=cJ hB) | (go_at_call 36;refine(h106 _).mono ?_;clear h106;rintro _ wn ⟨rfl,hbn⟩;replace hB:=hB.trans (hbn.mono hB.size);obtain⟨k0,k1,k2,k3,k4,k5⟩:=cJ hB) | (go_at_call 37;refine(h107 _).mono ?_;clear h107;rintro _ wn ⟨rfl,hbn⟩;replace hB:=hB.trans (hbn.mono hB.size);obtain⟨k0,k1,k2,k3,k4,k5⟩:=cJ hB) | (go_at_call 38;refine(h108 _).mono ?_;clear h108;rintro _ wn ⟨rfl,hbn⟩;replace hB:=hB.trans (hbn.mono hB.size);obtain⟨k0,k1,k2,k3,k4,k5⟩:=cJ hB))
       go_ret
       exact⟨by rw[<-hr];simp,((Below.refl _ w).alloc (aK _) _).trans (hB.mono (by simp))⟩
      ·skip
       go_wp2_with (first | (go_at_call 34;refine(h105 _).mono ?_;clear h105;rintro _ wn ⟨rfl,hbn⟩;replace hB:=hB.trans (hbn.mono hB.size);obtain⟨k0,k1,k2,k3,k4,k5⟩:=cJ hB) | (go_at_call 35;refine(h90 _).mono ?_;clear h90;rintro _ wn ⟨rfl,hbn⟩;replace hB:=hB.trans (hbn.mono hB.size);obtain⟨k0,k1,k2,k3,k4,k5⟩:=cJ hB) | (go_at_call 31;refine(h99 _).mono ?_;clear h99;rintro _ wn ⟨rfl,hbn⟩;replace hB:=hB.trans (hbn.mono hB.size);obtain⟨k0,k1,k2,k3,k4,k5⟩:=cJ hB) | (go_at_call 36;refine(h106 _).mono ?_;clear h106;rintro _ wn ⟨rfl,hbn⟩;replace hB:=hB.trans (hbn.mono hB.size);obtain⟨k0,k1,k2,k3,k4,k5⟩:=cJ hB) | (go_at_call 37;refine(h107 _).mono ?_;clear h107;rintro _ wn ⟨rfl,hbn⟩;replace hB:=hB.trans (hbn.mono hB.size);obtain⟨k0,k1,k2,k3,k4,k5⟩:=cJ hB) | (go_at_call 38;refine(h108 _).mono ?_;clear h108;rintro _ wn ⟨rfl,hbn⟩;replace hB:=hB.trans (hbn.mono hB.size);obtain⟨k0,k1,k2,k3,k4,k5⟩:=cJ hB))
       go_ret
       exact⟨by rw[<-hr];simp[hv3],((Below.refl _ w).alloc (aK _) _).trans (hB.mono (by simp))⟩
end
end Go.Proofs.Tryz
