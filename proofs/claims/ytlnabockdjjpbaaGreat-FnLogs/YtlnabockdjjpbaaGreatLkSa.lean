/- A part of the proof of FnLogs: LkSa, LkSb, LkSc. -/
import Derived.Test.YtlnabockdjjpbaaGreatLkPc
import Derived.Test.YtlnabockdjjpbaaGreatVmGr
import Derived.WalkKit
import Derived.OwnWalkIn
import Derived.Below
import Derived.WalkMore
set_option linter.unusedSimpArgs false
set_option linter.unusedVariables false
namespace Go.Proofs.Tryz
open Go.IntKind (wrap)
open Go Go.VM Go.RowKit
theorem aGA:(prog.info? 35).map (λi=>(i.zero.isSome,(i.zero.getD .nilFunc).cells.size,i.size,i.bytes))=some (true,9,9,72):=by kernel_rfl
theorem aCC:∃ i z,prog.info? 35=some i/\i.zero=some z/\z.cells.size=9/\i.size=9/\i.bytes=72:=by
 have h:=aGA;obtain⟨i,hi,h⟩:=Option.map_eq_some_iff.1 h;simp only[aJ]at h;obtain⟨h1,h2,h3,h4⟩:=h;obtain⟨z,hz⟩:=bR.1 h1;rw[hz]at h2;exact⟨i,z,hi,hz,h2,h3,h4⟩
section
attribute [local go_sem] Oper.semAt_some
set_option maxRecDepth 100000 in
set_option maxHeartbeats 4000000 in
theorem aGB (n:Nat)(hn:n<=1000000000)(w:World) :
  Calls prog 48 #[.slice none 0 0,.int .i64 n] w λe W=>∃ v,e=.returned v/\W.ownsRow w.heap.size 35 9 v 0 []/\Below w.heap.size w W:=by
 obtain⟨i,z,hi,hz,hz1,hz2,hz3⟩:=aCC;have hw:wrap .i64 ((n:Int)-0)=n:=by rw[Int.sub_zero];exact wi (by omega) (by omega)
 have hneg:¬ ((n:Int) < 0):=by omega
 by_cases h0:n=0
 ·subst h0
  go_enter func48,ntmps48
  go_wp2
  go_ret
  exact⟨_,rfl,World.ownsRow_nil _ _ _ _,Below.refl _ _⟩
 ·have hp:(0:Int) < (n:Int):=by omega
  go_enter func48,ntmps48
  go_wp2_with (at_builtin;refine lZ _ rfl _ _ 52 3 .i64 rfl 35 i z 9 72 underlying52 underlying3 hi hz hz2 hz3 hz1 rfl n rfl (by omega) (by unfold maxLen;omega) (by omega) ?_;intro cap w' hcap hown hbel)
  go_ret
  exact⟨_,rfl,hown,hbel⟩
end
end Go.Proofs.Tryz
namespace Go.Proofs.Tryz
open Go.IntKind (wrap)
open Go Go.VM Go.RowKit
def PcAt (w:World)(p:Value×Nat×List Value):Prop:=
 p.2.2.length=p.2.1 * 9/\(∀ x∈p.2.2,x.oneCell'=true)/\∃ q c,p.1=.slice q p.2.1 c ∧
  ((q=none/\p.2.1=0)\/∃ ad,q=some ad/\(p.2.1≠0->ad.block < w.heap.size)/\∀ j x,p.2.2[j]?=some x->w.cell? (ad.add j)=some x)
def nK (ps:List (Value×Nat×List Value)):Nat:=(ps.map λp=>p.2.1).sum
def aA6 (ps:List (Value×Nat×List Value)):List Value:=ps.flatMap λp=>p.2.2
theorem xA {ps:List (Value×Nat×List Value)}{k:Nat}{p}(h:ps[k]?=some p):nK (ps.take (k+1))=nK (ps.take k)+p.2.1:=by
 unfold nK;rw[jH,h];simp
theorem aDi {ps:List (Value×Nat×List Value)}{k:Nat}{p}(h:ps[k]?=some p):aA6 (ps.take (k+1))=aA6 (ps.take k)++p.2.2:=by
 unfold aA6;rw[jH,h];simp
theorem aB7 {ps:List (Value×Nat×List Value)}(k:Nat):nK (ps.take k)<=nK ps:=by
 unfold nK
 conv=>rhs;rw[<-cB k ps]
 rw[cF,List.sum_append];omega
section
attribute [local go_sem] Oper.semAt_some
set_option maxRecDepth 100000 in
set_option maxHeartbeats 4000000 in
theorem aEr (bo off cap:Nat)(ps:List (Value×Nat×List Value))(hlen:ps.length<=1000)(w:World)(B:Nat)(hBw:w.heap.size=B)(hp:∀ p∈ps,PcAt w p)(htot:nK ps<=1000000000)(hbo:bo < B)
  (hcell:∀ i p,ps[i]?=some p->w.cell? ⟨bo,off+i,none⟩=some p.1) :
  Calls prog 44 #[.slice (some ⟨bo,off,none⟩) ps.length cap] w λe W=>∃ v,e=.returned v/\W.ownsRow B 35 9 v (nK ps) (aA6 ps)/\Below B w W:=by
 obtain⟨i0,z,hi,hz,hz1,hz2,hz3⟩:=aCC
 go_enter func44,ntmps44
 go_wp2
 go_loopw [3,11] (λs i wr=>∃ k:Nat,k<=ps.length/\i=.int .i64 k/\s=.int .i64 (nK (ps.take k):Nat)/\wr=w) (λ_ i _=>ps.length-(intOf i).toNat)
 case atStart=>exact⟨0,eN _,rfl,rfl,rfl⟩
 case round=>
  obtain⟨k,hk,rfl,rfl,rfl⟩:=hrel;by_cases hlt:k < ps.length
  ·have hs:=aC hlt;obtain⟨q,hq⟩:∃ q,ps[k]=q:=⟨_,rfl⟩
   rw[hq]at hs;have hc:=hcell k q hs;have hpq:=hp q (aM hs);obtain⟨u,m,cs⟩:=q;obtain⟨hl,h1,a,c,hu,hr⟩:=hpq;simp only at hl h1 hu hr hc;subst hu;have hst:=xA hs;simp only at hst;have hle:=aB7 (ps:=ps) (k+1);have hw1:wrap .i64 ((nK (ps.take k):Nat)+(m:Int))=(nK (ps.take k):Nat)+(m:Int):=wi (by omega) (by omega);have hnn:¬ (((nK (ps.take k):Nat):Int)+(m:Int) < 0):=by omega
   go_wp2
   go_roundw
   case rel=>exact⟨k+1,by omega,by simp,by rw[hst];simp,trivial⟩
   case measure=>simp[intOf];omega
  ·obtain rfl:k=ps.length:=by omega
   rw[nD]
   go_wp2_with (go_at_call 48;refine(aGB (nK ps) htot _).mono ?_;rintro e w1 ⟨v0,rfl,hrow0,hB0⟩;rw[hBw]at hrow0 hB0)
   go_loopw [6,27] (λv i wi=>∃ k:Nat,k<=ps.length/\i=.int .i64 k/\wi.ownsRow B 35 9 v (nK (ps.take k)) (aA6 (ps.take k))/\Below B wr wi) (λ_ i _=>ps.length-(intOf i).toNat)
   case atStart=>exact⟨0,eN _,rfl,by simpa[nK,aA6]using hrow0,hB0⟩
   case round=>
    obtain⟨k,hk,rfl,hrow,hB⟩:=hrel;by_cases hlt:k < ps.length
    ·have hs:=aC hlt;obtain⟨q,hq⟩:∃ q,ps[k]=q:=⟨_,rfl⟩
     rw[hq]at hs;have hc:=hcell k q hs;have hpq:=hp q (aM hs);obtain⟨u,m,cs⟩:=q;obtain⟨hl,h1,a,c,hu,hr⟩:=hpq;simp only at hl h1 hu hr hc;subst hu;have hst:=xA hs;have hct:=aDi hs;simp only at hst hct;have hle:=aB7 (ps:=ps) (k+1);have hBs:=hB.size;rw[hBw]at hBs;have hd:=(hB.cell (p:=⟨bo,off+k,none⟩) hbo).trans hc;rcases hr with⟨rfl,rfl⟩ | ⟨ad,rfl,hb,hcs⟩
     ·go_wp2_with (at_builtin;refine nJ _ rfl _ _ 52 rfl B 35 i0 9 underlying52 hi _ _ _ rfl hrow c rfl ?_)
      go_roundw
      case rel=>exact⟨k+1,by omega,by simp,by rw[hst,hct];simpa[mX.1 hl]using hrow,hB⟩
      case measure=>simp[intOf];omega
     ·have hlt2:∀ (j:Nat) (x:Value),cs[j]?=some x->(ad.add j).block < B:=λj x hj=>by
       have hm:m≠0:=by rintro rfl;simp at hl;rw[hl]at hj;simp at hj
       have e1:(ad.add j).block=ad.block:=by unfold Addr.add;split<;>rfl
       rw[e1,<-hBw];exact hb hm
      have hcs':=λ(j:Nat) (x:Value) (hj:cs[j]?=some x)=>(hB.cell (p:=ad.add j) (hlt2 j x hj)).trans (hcs j x hj)
      go_wp2_with (at_builtin;refine wpList_append_own _ rfl _ _ 52 rfl B 35 i0 z 9 72 underlying52 hi hz hz2 hz3 hz1 (by decide) _ _ _ rfl hrow ad m c cs rfl hl hcs' h1 (by unfold maxLen;omega) (by omega) hBs ?_;intro v' w4 hown' hgrow _)
      go_roundw
      case rel=>
       refine⟨k+1,by omega,by simp,by rw[hst,hct];exact hown',hB.trans ?_⟩;exact aA9 hBs hrow hgrow
      case measure=>simp[intOf];omega
    ·obtain rfl:k=ps.length:=by omega
     rw[nD]at hrow
     go_wp2
     go_ret
     exact⟨_,rfl,hrow,hB⟩
end
end Go.Proofs.Tryz
set_option maxHeartbeats 0
namespace Go.Proofs.Tryz
open Go.IntKind (wrap)
open Go Go.VM Go.RowKit
def aBi (x:List (List En)):Nat:=(x.map List.length).sum
def uM (x:List (List En)):Option (List En):=if x≠[]/\x.length<=1000/\aBi x<=1000000000 then some x.flatten else none
theorem zD:bL.flat 35=true:=rfl
theorem aGm:bL.size 35=9:=rfl
theorem aH3:Sat prog bL 44 (c44 uM):=by
 intro w A0 l us r hA hargs hF;obtain⟨x,t,rfl,hx,rfl⟩:=oU hF;obtain⟨u,rfl,hu⟩:=aCt (show ArgAs bL w A0 [.inl (ls (ro 52 x))] us from hargs);unfold uM at hx;split at hx
 ·rename_i hc;obtain⟨hne,hlen,htot⟩:=hc;cases hx;obtain⟨_,n,hu⟩:=(show(ro 52 x:SlD bL.ty).own=0/\∃ n,RepL bL w A0 n (some (.inr (ro 52 x))) u from hu)
  obtain⟨q,c,rfl,hcap,hrow⟩:=aCj hu;rcases hrow with h | ⟨bo,off,rfl,hS,hel⟩
  ·exact absurd h hne
  have each:∀ (i:Nat) (y:List En),x[i]?=some y->∃ p:Value×Nat×List Value,w.cell? ⟨bo,off+i,none⟩=some p.1/\p.2.1=y.length/\p.2.2=bD bL 35 y/\PcAt w p:=by
   intro i y hy;obtain⟨v,m,h1,h2⟩:=hel i y hy 0 (ls (ro 35 y)) rfl;have h1:w.cell? ⟨bo,off+(i * 1+0),none⟩=some v:=h1;rw[mU,fL]at h1;obtain⟨q',c',rfl,hc',h3⟩:=aDL cC zD (by decide) h2;refine⟨(.slice q' y.length c',y.length,bD bL 35 y),h1,rfl,rfl,?_,mK cC zD y,q',c',rfl,?_⟩
   ·have:=fI cC zD y;rw[aGm]at this;exact this
   ·rcases h3 with rfl | ⟨b',off',rfl,hS',h4⟩
    ·cases q' with
     | none=>exact .inl ⟨rfl,rfl⟩
     | some ad=>exact .inr ⟨ad,rfl,λh=>absurd rfl h,λj x hj=>by
       have:bD bL 35 ([]:List (bL.ty 35))=[]:=rfl;simp only at hj;rw[this]at hj;simp at hj⟩
    ·exact .inr ⟨⟨b',off',none⟩,rfl,λ_=>hA b' hS',λj v hj=>by rw[Addr.add_lit];exact h4 j v hj⟩
  have all:∀ k,k<=x.length->∃ ps:List (Value×Nat×List Value),ps.length=k/\(∀ p∈ps,PcAt w p)/\nK ps=aBi (x.take k)/\aA6 ps=bD bL 35 (x.take k).flatten/\∀ i p,ps[i]?=some p->w.cell? ⟨bo,off+i,none⟩=some p.1:=by
   intro k
   induction k with
   | zero=>exact λ_=>⟨[],rfl,by simp,by simp[nK,aBi],rfl,by simp⟩
   | succ k ih=>
    intro hk;obtain⟨ps,h1,h2,h3,h4,h5⟩:=ih (by omega);obtain⟨y,hy⟩:∃ y,x[k]?=some y:=⟨_,aC (by omega)⟩
    obtain⟨p,k1,k2,k3,k4⟩:=each k y hy;refine⟨ps++[p],by simp[h1],λz hz=>?_,?_,?_,λi z hz=>?_⟩
    ·rcases aB.1 hz with hz | hz
     ·exact h2 z hz
     ·simp only[aH]at hz;subst hz;exact k4
    ·unfold nK aBi at h3 ⊢;rw[jH,hy];simp[h3,k2]
    ·unfold aA6 at h4 ⊢;rw[jH,hy];simp only[Option.toList_some,dB,bI,List.flatten_nil,dR,aR,aO,List.flatMap_nil];rw[h4,k3];exact(nB 35 _ _).symm
    ·by_cases hi:i < ps.length
     ·rw[aU hi]at hz;exact h5 i z hz
     ·rw[aS (by omega)]at hz;have hik:i=k:=by
       have:=(aE.1 hz).1;simp at this;omega
      have e0:i-ps.length=0:=by omega
      rw[e0]at hz;simp only[aK,aA]at hz;subst hz;subst hik;exact k1
  obtain⟨ps,h1,h2,h3,h4,h5⟩:=all x.length (aI _);rw[nD]at h3 h4;have:=aEr bo off c ps (by omega) w _ rfl h2 (by omega) (hA bo hS) h5;rw[h1]at this;refine this.mono ?_;rintro e W ⟨v,rfl,hown,hB⟩;have hln:aBi x=x.flatten.length:=by simp[aBi,List.length_flatten]
  refine⟨v,rfl,hB,?_⟩;refine aE1 (xs:=x.flatten) cC zD (λb hb=>?_) ?_
  ·have:=hown.lt b hb;exact this
  ·rw[h3,hln,h4]at hown;exact yV hown
 ·cases hx
end Go.Proofs.Tryz
