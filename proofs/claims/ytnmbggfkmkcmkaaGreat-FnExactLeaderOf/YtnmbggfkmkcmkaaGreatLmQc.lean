/- A part of the proof of FnExactLeaderOf: LmQc, LmQh, LmQi. -/
import Derived.Test.YtnmbggfkmkcmkaaGreatLmQa
import Derived.Test.YtnmbggfkmkcmkaaGreatVmCb
import Derived.Test.YtnmbggfkmkcmkaaGreatLmFi
import Derived.Test.YtnmbggfkmkcmkaaGreatLmQe
import Derived.Test.YtnmbggfkmkcmkaaGreatLmQga
import Derived.Test.YtnmbggfkmkcmkaaGreatLmQgb
import Derived.Test.YtnmbggfkmkcmkaaGreatLmQgc
import Derived.Test.YtnmbggfkmkcmkaaGreatLmQgd
import Derived.Test.YtnmbggfkmkcmkaaGreatLmQge
set_option linter.unusedSimpArgs false
set_option linter.unusedVariables false
set_option maxHeartbeats 0
namespace Go.Proofs.Tryz
open Go Go.VM Go.RowKit
def aDl (x:Int):Bool:=decide (x=0\/x=1)
theorem aNY:Sat prog cxT 154 (aVy λx=>some (aDl x)):=aX1 _ λx t h=>by cases h;exact⟨0,aE7⟩
def qF (k n:Int):Bool:=if k=1\/k=2 then aF7 n else if k=3 then aHu n else if k=9 then aDl n else sE n
theorem aJP (x:Int):decide ((0:Int)<=x/\x<=1)=aDl x:=by
 unfold aDl;by_cases h:x=0\/x=1
 ·rw[dt h,dt (by omega)]
 ·rw[df h,df (by omega)]
theorem aOm:Sat prog cxT 119 (aVH λx=>some (qF x.1 x.2.2.2.2.1)):=aYq _ _ nA aN7 _ λx t h=>by
 obtain⟨k,b,c,d,n,p⟩:=x;cases h;refine⟨0,?_⟩;show aIQ _ _ 0 k b c d n p=some (qF k n)
 (try unfold w187);unfold aIQ G119 qF;dsimp only
 simp only[aP];by_cases h1:k=1
 ·subst h1;rfl
 by_cases h2:k=2
 ·subst h2;rfl
 by_cases h3:k=3
 ·subst h3;rfl
 by_cases h9:k=9
 ·subst h9;show some (decide ((0:Int)<=n/\n<=1))=some (aDl n);rw[aJP]
 rw[aE9 h1,aE9 h2,aE9 h3,aE9 h9,if_neg (by omega),if_neg h3,if_neg h9]
 rfl
def cmF (x:Cm):Int:=
  if 1<=x.1/\x.1<=9 then
    (bif (x.2.1 != -1&&!pZ x.2.1) || ((nd x.1).1&&!uQ x.2.2.1) || ((nd x.1).2.1&&!aA6 x.2.2.2.1) || ((nd x.1).2.2.1&&!qF x.1 x.2.2.2.2.1) || ((nd x.1).2.2.2&&!aBb x.2.2.2.2.2)then 3
     else bif (!(nd x.1).1&&x.2.2.1 != 0) || (!(nd x.1).2.1&&x.2.2.2.1 != 0) || (!(nd x.1).2.2.1&&x.2.2.2.2.1 != 0) || (!(nd x.1).2.2.2&&x.2.2.2.2.2 != 0)then 1 else 0)
  else 1
theorem aNl (n:Int):CB 138 #[.int .i64 n] (.bool (pZ n)):=gV aN6 (λ_=>iF [.int .i64 n]) rfl
theorem aVs (n:Int):CB 140 #[.int .i64 n] (.bool (uQ n)):=gV aN4 (λ_=>iF [.int .i64 n]) rfl
theorem aVr (n:Int):CB 141 #[.int .i64 n] (.bool (aA6 n)):=gV aN3 (λ_=>iF [.int .i64 n]) rfl
theorem aVq (n:Int):CB 142 #[.int .i64 n] (.bool (aF7 n)):=gV aN2 (λ_=>iF [.int .i64 n]) rfl
theorem aVp (n:Int):CB 145 #[.int .i64 n] (.bool (aHu n)):=gV aN1 (λ_=>iF [.int .i64 n]) rfl
theorem aVo (n:Int):CB 148 #[.int .i64 n] (.bool (sE n)):=gV aN0 (λ_=>iF [.int .i64 n]) rfl
theorem aVn (n:Int):CB 149 #[.int .i64 n] (.bool (aBb n)):=gV aNZ (λ_=>iF [.int .i64 n]) rfl
theorem aVm (n:Int):CB 154 #[.int .i64 n] (.bool (aDl n)):=gV aNY (λ_=>iF [.int .i64 n]) rfl
theorem vE (n:Int):CB 116 #[.int .i64 n] (.bool (pZ n)):=gV aOp (λ_=>iF [.int .i64 n]) rfl
theorem aAZ (n:Int):CB 117 #[.int .i64 n] (.bool (uQ n)):=gV aOo (λ_=>iF [.int .i64 n]) rfl
theorem aD7 (n:Int):CB 118 #[.int .i64 n] (.bool (aA6 n)):=gV aOn (λ_=>iF [.int .i64 n]) rfl
theorem aFZ (n:Int):CB 120 #[.int .i64 n] (.bool (aBb n)):=gV aOl (λ_=>iF [.int .i64 n]) rfl
theorem bBH (a b c:Int):CB 70 #[.int .i64 a,.int .i64 b,.int .i64 c] (.bool (decide (b<=a/\a<=c))):=gV nA (λ_=>iF [.int .i64 a,.int .i64 b,.int .i64 c]) rfl
def cV (x:Cm):List Value:=[.int .i64 x.1,.int .i64 x.2.1,.int .i64 x.2.2.1,.int .i64 x.2.2.2.1,.int .i64 x.2.2.2.2.1,.int .i64 x.2.2.2.2.2]
theorem aVu (x:Cm):CB 119 #[.agg (cV x).toArray] (.bool (qF x.1 x.2.2.2.2.1)):=gV aOm (λ_=>aJw (cV x)) rfl
theorem aVv (k:Int):CB 115 #[.int .i64 k] (.tuple #[.bool (nd k).1,.bool (nd k).2.1,.bool (nd k).2.2.1,.bool (nd k).2.2.2]):=aJh (vs:=[.bool (nd k).1,.bool (nd k).2.1,.bool (nd k).2.2.1,.bool (nd k).2.2.2]) aOq (λ_=>iF [.int .i64 k]) rfl
theorem aVt {k:Int}(hk:1<=k/\k<=9):CB 139 #[.int .i64 k] (.agg (ruL k).toArray):=aJi (vs:=ruL k) aN5 (λ_=>iF [.int .i64 k]) (if_pos hk)
theorem zI (n:Int):Rl n (oN 140) (some (uQ n)):=.yes 140 _ (λ_ _=>by kernel_rfl) (aVs n)
theorem aDz (n:Int):Rl n (oN 141) (some (aA6 n)):=.yes 141 _ (λ_ _=>by kernel_rfl) (aVr n)
theorem aLl (n:Int):Rl n (oN 142) (some (aF7 n)):=.yes 142 _ (λ_ _=>by kernel_rfl) (aVq n)
theorem aRD (n:Int):Rl n (oN 145) (some (aHu n)):=.yes 145 _ (λ_ _=>by kernel_rfl) (aVp n)
theorem aFp (n:Int):Rl n (oN 148) (some (sE n)):=.yes 148 _ (λ_ _=>by kernel_rfl) (aVo n)
theorem aFo (n:Int):Rl n (oN 149) (some (aBb n)):=.yes 149 _ (λ_ _=>by kernel_rfl) (aVn n)
theorem aRC (n:Int):Rl n (oN 154) (some (aDl n)):=.yes 154 _ (λ_ _=>by kernel_rfl) (aVm n)
def osK (k c d e f:Int):List (Option Bool):=
 if k=1 then[some (uQ c),some (aA6 d),some (aF7 e),none]else
 if k=2 then[some (uQ c),none,some (aF7 e),none]else
 if k=3 then[some (uQ c),none,some (aHu e),none]else
 if k=4 then[some (uQ c),none,none,none]else
 if k=5\/k=6 then[none,some (aA6 d),some (sE e),some (aBb f)]else
 if k=7\/k=8 then[some (uQ c),some (aA6 d),some (sE e),some (aBb f)]else
 [some (uQ c),none,some (aDl e),none]
theorem aOC {k:Int}(hk:1<=k/\k<=9):k=1\/k=2\/k=3\/k=4\/k=5\/k=6\/k=7\/k=8\/k=9:=by omega
theorem aRA (k c d e f:Int)(hk:1<=k/\k<=9):∃ r0 r1 r2 r3 fa o0 o1 o2 o3,ruL k=[r0,r1,r2,r3,.func (.func fa) #[] #[]]/\osK k c d e f=[o0,o1,o2,o3]/\Rl c r0 o0/\Rl d r1 o1/\Rl e r2 o2/\Rl f r3 o3:=by
 rcases aOC hk with rfl | rfl | rfl | rfl | rfl | rfl | rfl | rfl | rfl
 ·exact⟨_,_,_,_,_,_,_,_,_,rfl,rfl,zI c,aDz d,aLl e,.no⟩
 ·exact⟨_,_,_,_,_,_,_,_,_,rfl,rfl,zI c,.no,aLl e,.no⟩
 ·exact⟨_,_,_,_,_,_,_,_,_,rfl,rfl,zI c,.no,aRD e,.no⟩
 ·exact⟨_,_,_,_,_,_,_,_,_,rfl,rfl,zI c,.no,.no,.no⟩
 ·exact⟨_,_,_,_,_,_,_,_,_,rfl,rfl,.no,aDz d,aFp e,aFo f⟩
 ·exact⟨_,_,_,_,_,_,_,_,_,rfl,rfl,.no,aDz d,aFp e,aFo f⟩
 ·exact⟨_,_,_,_,_,_,_,_,_,rfl,rfl,zI c,aDz d,aFp e,aFo f⟩
 ·exact⟨_,_,_,_,_,_,_,_,_,rfl,rfl,zI c,aDz d,aFp e,aFo f⟩
 ·exact⟨_,_,_,_,_,_,_,_,_,rfl,rfl,zI c,.no,aRC e,.no⟩
def fR (n1 n2 n3 n4 z2 z3 z4 z5:Bool)(c d e f:Int):Int:=
 bif (n1&&!z2) || (n2&&!z3) || (n3&&!z4) || (n4&&!z5)then 3 else bif (!n1&&c != 0) || (!n2&&d != 0) || (!n3&&e != 0) || (!n4&&f != 0)then 1 else 0
theorem aJd {k b c d e f:Int}(hk:1<=k/\k<=9):cmF (k,b,c,d,e,f)=bif (b != -1&&!pZ b)then 3 else fR (nd k).1 (nd k).2.1 (nd k).2.2.1 (nd k).2.2.2 (uQ c) (aA6 d) (qF k e) (aBb f) c d e f:=by
 unfold cmF fR;rw[if_pos hk];simp only
 generalize (b != -1&&!pZ b)=g
 cases g<;>rfl
end Go.Proofs.Tryz
set_option maxHeartbeats 0
namespace Go.Proofs.Tryz
open Go Go.VM Go.RowKit
def vl (o0 o1 o2 o3:Option Bool)(c d e f:Int):Int:=
 bif (o0 == some false) || (o1 == some false) || (o2 == some false) || (o3 == some false)then 3 else bif (o0 == none&&c != 0) || (o1 == none&&d != 0) || (o2 == none&&e != 0) || (o3 == none&&f != 0)then 1 else 0
theorem nsf {o:Option Bool}(h:o≠some false):(o == some false)=false:=by
 rcases o with _ | _ | _
 ·rfl
 ·exact absurd rfl h
 ·rfl
theorem aFq {o0 o1 o2 o3:Option Bool}{c d e f:Int}{en:Ending}(h:aHO [o0,o1,o2,o3] [c,d,e,f] en):en=.returned (.int .i64 (vl o0 o1 o2 o3 c d e f)):=by
 have four:∀ p,p < 4->p=0\/p=1\/p=2\/p=3:=λp h=>by omega
 rcases h with⟨rfl,p,hp,hq⟩ | ⟨h,h2⟩
 ·unfold vl;rcases four p hp with rfl | rfl | rfl | rfl
  ·rw[show o0=some false from hq];simp
  ·rw[show o1=some false from hq];simp
  ·rw[show o2=some false from hq];simp
  ·rw[show o3=some false from hq];simp
 ·have a0:(o0 == some false)=false:=nsf (h 0 (by omega));have a1:(o1 == some false)=false:=nsf (h 1 (by omega));have a2:(o2 == some false)=false:=nsf (h 2 (by omega));have a3:(o3 == some false)=false:=nsf (h 3 (by omega));unfold vl;rw[a0,a1,a2,a3];rcases h2 with⟨rfl,p,hp,hq,hn⟩ | ⟨rfl,hz⟩
  ·rcases four p hp with rfl | rfl | rfl | rfl
   ·rw[show o0=none from hq,show(c != 0)=true from rI hn];simp
   ·rw[show o1=none from hq,show(d != 0)=true from rI hn];simp
   ·rw[show o2=none from hq,show(e != 0)=true from rI hn];simp
   ·rw[show o3=none from hq,show(f != 0)=true from rI hn];simp
  ·have g:∀ (o:Option Bool) (v:Int),(o=none->v=0)->(o == none&&v != 0)=false:=λo v h=>by
    cases o with
    | none=>rw[h rfl];rfl
    | some z=>rfl
   rw[g o0 c (hz 0 (by omega)),g o1 d (hz 1 (by omega)),g o2 e (hz 2 (by omega)),g o3 f (hz 3 (by omega))]
   rfl
theorem aNJ {k c d e f:Int}(hk:1<=k/\k<=9){o0 o1 o2 o3:Option Bool}(ho:osK k c d e f=[o0,o1,o2,o3]):vl o0 o1 o2 o3 c d e f=fR (nd k).1 (nd k).2.1 (nd k).2.2.1 (nd k).2.2.2 (uQ c) (aA6 d) (qF k e) (aBb f) c d e f:=by
 have hs:∀ z:Bool,((some z:Option Bool) == some false)=!z:=λz=>by cases z<;>rfl
 have hn:∀ z:Bool,((some z:Option Bool) == none)=false:=λz=>rfl
 rcases aOC hk with rfl | rfl | rfl | rfl | rfl | rfl | rfl | rfl | rfl<;>cases ho<;>unfold vl fR<;>simp only[hs,hn]<;>simp[nd,qF]
def lA (x:Cm):Option Int:=some (cmF x)
theorem aVR {w:World}{A0:Nat->Prop}{x:Cm}{us:List Value}(h:ArgAs cxT w A0 (bBK.enc x) us):us=[.agg (cV x).toArray]:=by
 obtain⟨u,rfl,hu⟩:=aFD (show ArgAs cxT w A0 [.inr ((cV x).map lv)] us from h);rw[aK2 hu]
theorem aN8:Sat prog cxT 136 (aPr lA):=by
 intro w A0 l us r hA hargs hF;obtain⟨x,t,rfl,hx,rfl⟩:=uY hF;cases hx;rw[aVR hargs];obtain⟨k,b,c,d,e,f⟩:=x;have fin:Calls prog 136 #[.agg #[.int .i64 k,.int .i64 b,.int .i64 c,.int .i64 d,.int .i64 e,.int .i64 f]] w λe' w'=>e'=.returned (.int .i64 (cmF (k,b,c,d,e,f)))/\Below w.heap.size w w':=by
  by_cases hk:1<=k/\k<=9
  ·rw[aJd hk];obtain⟨r0,r1,r2,r3,fa,o0,o1,o2,o3,hr,ho,h0,h1,h2,h3⟩:=aRA k c d e f hk;have h111:=aVt hk;rw[hr]at h111;rw[<-aNJ hk ho];by_cases hb:b=-1
   ·subst hb;exact(aRR k c d e f hk r0 r1 r2 r3 _ o0 o1 o2 o3 h0 h1 h2 h3 fa rfl h111 w).mono λe' w' ⟨h,hw⟩=>⟨aFq h,hw⟩
   ·have hb2:(b != -1)=true:=rI hb;rw[hb2,fF];cases hv:pZ b with
    | true=>exact(aRQ k b c d e f hk hb (by have:=aNl b;rwa [hv]at this) r0 r1 r2 r3 _ o0 o1 o2 o3 h0 h1 h2 h3 fa rfl h111 w).mono λe' w' ⟨h,hw⟩=>⟨aFq h,hw⟩
    | false=>exact aVP k b c d e f hk hb (by have:=aNl b;rwa [hv]at this) w
  ·have e:cmF (k,b,c,d,e,f)=1:=if_neg hk;rw[e];exact aRG k b c d _ f hk w
 exact fin.mono λe' w' ⟨he,hw⟩=>⟨_,he,hw,aHN _⟩
end Go.Proofs.Tryz
set_option maxHeartbeats 0
namespace Go.Proofs.Tryz
open Go Go.VM Go.RowKit
theorem b01 (p:Prop)[Decidable p]:(if p then(1:Int)else 0)=bif decide p then 1 else 0:=by by_cases h:p<;>simp[h]
theorem ne0 (c:Int):decide (c≠0)=(c != 0):=by by_cases h:c=0<;>simp[h]
theorem aQK {k:Int}(hk:1<=k/\k<=9):CB 70 #[.int .i64 k,.int .i64 1,.int .i64 9] (.bool true):=by
 have:=bBH k 1 9
 rwa [dt hk]at this
theorem aY2 (k b c d e f:Int)(hk:1<=k/\k<=9)(w:World):Calls prog 101 #[.agg #[.int .i64 k,.int .i64 b,.int .i64 c,.int .i64 d,.int .i64 e,.int .i64 f]] w λe' w'=>e'=.returned (.int .i64 (cmF (k,b,c,d,e,f)))/\Below w.heap.size w w':=by
 have h5:=aQK hk;have h9:=aVv k;have h8:=aVu (k,b,c,d,e,f);have hr:=aJd (b:=b) (c:=c) (d:=d) (e:=e) (f:=f) hk;rcases aOC hk with rfl | rfl | rfl | rfl | rfl | rfl | rfl | rfl | rfl
 ·exact aRT 1 b c d e f _ _ rfl h5 h9 (vE b) _ (aAZ c) _ (aD7 d) _ h8 _ (by rw[hr];unfold fR;simp only[b01,fX,ne0];simp[nd,qF];cases (b != -1&&!pZ b)<;>simp[gY]) w
 ·exact aIx 2 b c d e f _ _ rfl h5 h9 (vE b) _ (aAZ c) _ h8 _ (by rw[hr];unfold fR;simp only[b01,fX,ne0];simp[nd,qF];cases (b != -1&&!pZ b)<;>simp[gY]) w
 ·exact aIx 3 b c d e f _ _ rfl h5 h9 (vE b) _ (aAZ c) _ h8 _ (by rw[hr];unfold fR;simp only[b01,fX,ne0];simp[nd,qF];cases (b != -1&&!pZ b)<;>simp[gY]) w
 ·exact aRS 4 b c d e f _ _ rfl h5 h9 (vE b) _ (aAZ c) _ (by rw[hr];unfold fR;simp only[b01,fX,ne0];simp[nd,qF];cases (b != -1&&!pZ b)<;>simp[gY]) w
 ·exact aLp 5 b c d e f _ _ rfl h5 h9 (vE b) _ (aD7 d) _ h8 _ (aFZ f) _ (by rw[hr];unfold fR;simp only[b01,fX,ne0];simp[nd,qF];cases (b != -1&&!pZ b)<;>simp[gY]) w
 ·exact aLp 6 b c d e f _ _ rfl h5 h9 (vE b) _ (aD7 d) _ h8 _ (aFZ f) _ (by rw[hr];unfold fR;simp only[b01,fX,ne0];simp[nd,qF];cases (b != -1&&!pZ b)<;>simp[gY]) w
 ·exact aLo 7 b c d e f _ _ rfl h5 h9 (vE b) _ (aAZ c) _ (aD7 d) _ h8 _ (aFZ f) _ (by rw[hr];unfold fR;simp only[b01,fX,ne0];simp[nd,qF];cases (b != -1&&!pZ b)<;>simp[gY]) w
 ·exact aLo 8 b c d e f _ _ rfl h5 h9 (vE b) _ (aAZ c) _ (aD7 d) _ h8 _ (aFZ f) _ (by rw[hr];unfold fR;simp only[b01,fX,ne0];simp[nd,qF];cases (b != -1&&!pZ b)<;>simp[gY]) w
 ·exact aIx 9 b c d e f _ _ rfl h5 h9 (vE b) _ (aAZ c) _ h8 _ (by rw[hr];unfold fR;simp only[b01,fX,ne0];simp[nd,qF];cases (b != -1&&!pZ b)<;>simp[gY]) w
theorem aOw:Sat prog cxT 101 (aPs lA):=by
 intro w A0 l us r hA hargs hF;obtain⟨x,t,rfl,hx,rfl⟩:=uY hF;cases hx;rw[show us=[.agg (cV x).toArray] from aVR hargs];obtain⟨k,b,c,d,e,f⟩:=x;have fin:Calls prog 101 #[.agg #[.int .i64 k,.int .i64 b,.int .i64 c,.int .i64 d,.int .i64 e,.int .i64 f]] w λe' w'=>e'=.returned (.int .i64 (cmF (k,b,c,d,e,f)))/\Below w.heap.size w w':=by
  by_cases hk:1<=k/\k<=9
  ·exact aY2 k b c d e f hk w
  ·have e':cmF (k,b,c,d,e,f)=1:=if_neg hk;rw[e'];exact aRH k b c d _ f hk w
 exact fin.mono λe' w' ⟨he,hw⟩=>⟨_,he,hw,aHN _⟩
end Go.Proofs.Tryz
