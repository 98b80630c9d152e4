/- A part of the proof of FnExactServeFrom: LtQc, LtQh, LtQi. -/
import Derived.Test.YtnmnomckcjihoaaGreatLtQa
import Derived.Test.YtnmnomckcjihoaaGreatVmCb
import Derived.Test.YtnmnomckcjihoaaGreatLtFc
import Derived.Test.YtnmnomckcjihoaaGreatLtQe
import Derived.Test.YtnmnomckcjihoaaGreatLtQgb
import Derived.Test.YtnmnomckcjihoaaGreatLtQgd
set_option linter.unusedSimpArgs false
set_option linter.unusedVariables false
set_option maxHeartbeats 0
namespace Go.Proofs.Tryz
open Go Go.VM Go.RowKit
def aB7 (x:Int):Bool:=decide (x=0\/x=1)
theorem aKr:Sat prog cxT 105 (aRz λx=>some (aB7 x)):=aTq _ λx t h=>by cases h;exact⟨0,aDS⟩
def oO (k n:Int):Bool:=if k=1\/k=2 then uP n else if k=3 then aBd n else if k=9 then aB7 n else lW n
theorem aHn (x:Int):decide ((0:Int)<=x/\x<=1)=aB7 x:=by
 unfold aB7;by_cases h:x=0\/x=1
 ·rw[dt h,dt (by omega)]
 ·rw[df h,df (by omega)]
theorem aN3:Sat prog cxT 53 (c53 λx=>some (oO x.1 x.2.2.2.2.1)):=s53 _ _ qF aIL _ λx t h=>by
 obtain⟨k,b,c,d,n,p⟩:=x;cases h;refine⟨0,?_⟩;show g53 _ _ 0 k b c d n p=some (oO k n);unfold g53 oO;simp only[bJ];by_cases h1:k=1
 ·subst h1;rfl
 by_cases h2:k=2
 ·subst h2;rfl
 by_cases h3:k=3
 ·subst h3;rfl
 by_cases h9:k=9
 ·subst h9;show some (decide ((0:Int)<=n/\n<=1))=some (aB7 n);rw[aHn]
 rw[aG7 h1,aG7 h2,aG7 h3,aG7 h9,if_neg (by omega),if_neg h3,if_neg h9]
 rfl
def cmF (x:Cm):Int:=
  if 1<=x.1/\x.1<=9 then
    (bif (x.2.1 != -1&&!lC x.2.1) || ((nd x.1).1&&!nI x.2.2.1) || ((nd x.1).2.1&&!mG x.2.2.2.1) || ((nd x.1).2.2.1&&!oO x.1 x.2.2.2.2.1) || ((nd x.1).2.2.2&&!sA x.2.2.2.2.2)then 3
     else bif (!(nd x.1).1&&x.2.2.1 != 0) || (!(nd x.1).2.1&&x.2.2.2.1 != 0) || (!(nd x.1).2.2.1&&x.2.2.2.2.1 != 0) || (!(nd x.1).2.2.2&&x.2.2.2.2.2 != 0)then 1 else 0)
  else 1
theorem aRt (n:Int):CB 29 #[.int .i64 n] (.bool (lC n)):=fV aIS (λ_=>gL [.int .i64 n]) rfl
theorem aVv (n:Int):CB 85 #[.int .i64 n] (.bool (nI n)):=fV aIK (λ_=>gL [.int .i64 n]) rfl
theorem aVu (n:Int):CB 86 #[.int .i64 n] (.bool (mG n)):=fV aFI (λ_=>gL [.int .i64 n]) rfl
theorem aVt (n:Int):CB 87 #[.int .i64 n] (.bool (uP n)):=fV aIJ (λ_=>gL [.int .i64 n]) rfl
theorem aVs (n:Int):CB 88 #[.int .i64 n] (.bool (aBd n)):=fV aII (λ_=>gL [.int .i64 n]) rfl
theorem aVr (n:Int):CB 89 #[.int .i64 n] (.bool (lW n)):=fV aIH (λ_=>gL [.int .i64 n]) rfl
theorem aVq (n:Int):CB 90 #[.int .i64 n] (.bool (sA n)):=fV aIG (λ_=>gL [.int .i64 n]) rfl
theorem aRu (n:Int):CB 105 #[.int .i64 n] (.bool (aB7 n)):=fV aKr (λ_=>gL [.int .i64 n]) rfl
theorem aBU (n:Int):CB 24 #[.int .i64 n] (.bool (lC n)):=fV aIT (λ_=>gL [.int .i64 n]) rfl
theorem aDP (n:Int):CB 51 #[.int .i64 n] (.bool (nI n)):=fV aIO (λ_=>gL [.int .i64 n]) rfl
theorem aGX (n:Int):CB 52 #[.int .i64 n] (.bool (mG n)):=fV aFJ (λ_=>gL [.int .i64 n]) rfl
theorem aIp (n:Int):CB 54 #[.int .i64 n] (.bool (sA n)):=fV aIN (λ_=>gL [.int .i64 n]) rfl
theorem aVz (a b c:Int):CB 34 #[.int .i64 a,.int .i64 b,.int .i64 c] (.bool (decide (b<=a/\a<=c))):=fV qF (λ_=>gL [.int .i64 a,.int .i64 b,.int .i64 c]) rfl
def cV (x:Cm):List Value:=[.int .i64 x.1,.int .i64 x.2.1,.int .i64 x.2.2.1,.int .i64 x.2.2.2.1,.int .i64 x.2.2.2.2.1,.int .i64 x.2.2.2.2.2]
theorem aVx (x:Cm):CB 53 #[.agg (cV x).toArray] (.bool (oO x.1 x.2.2.2.2.1)):=fV aN3 (λ_=>aG8 (cV x)) rfl
theorem aVy (k:Int):CB 50 #[.int .i64 k] (.tuple #[.bool (nd k).1,.bool (nd k).2.1,.bool (nd k).2.2.1,.bool (nd k).2.2.2]):=aGY (vs:=[.bool (nd k).1,.bool (nd k).2.1,.bool (nd k).2.2.1,.bool (nd k).2.2.2]) aN4 (λ_=>gL [.int .i64 k]) rfl
theorem aVw {k:Int}(hk:1<=k/\k<=9):CB 78 #[.int .i64 k] (.agg (ruL k).toArray):=aGZ (vs:=ruL k) aNJ (λ_=>gL [.int .i64 k]) (if_pos hk)
theorem aDc (n:Int):Rl n (nA 85) (some (nI n)):=.yes 85 _ (λ_ _=>by kernel_rfl) (aVv n)
theorem aFO (n:Int):Rl n (nA 86) (some (mG n)):=.yes 86 _ (λ_ _=>by kernel_rfl) (aVu n)
theorem aOz (n:Int):Rl n (nA 87) (some (uP n)):=.yes 87 _ (λ_ _=>by kernel_rfl) (aVt n)
theorem aTs (n:Int):Rl n (nA 88) (some (aBd n)):=.yes 88 _ (λ_ _=>by kernel_rfl) (aVs n)
theorem aHB (n:Int):Rl n (nA 89) (some (lW n)):=.yes 89 _ (λ_ _=>by kernel_rfl) (aVr n)
theorem aHA (n:Int):Rl n (nA 90) (some (sA n)):=.yes 90 _ (λ_ _=>by kernel_rfl) (aVq n)
theorem aOA (n:Int):Rl n (nA 105) (some (aB7 n)):=.yes 105 _ (λ_ _=>by kernel_rfl) (aRu n)
def osK (k c d e f:Int):List (Option Bool):=
 if k=1 then[some (nI c),some (mG d),some (uP e),none]else
 if k=2 then[some (nI c),none,some (uP e),none]else
 if k=3 then[some (nI c),none,some (aBd e),none]else
 if k=4 then[some (nI c),none,none,none]else
 if k=5\/k=6 then[none,some (mG d),some (lW e),some (sA f)]else
 if k=7\/k=8 then[some (nI c),some (mG d),some (lW e),some (sA f)]else
 [some (nI c),none,some (aB7 e),none]
theorem aKy {k:Int}(hk:1<=k/\k<=9):k=1\/k=2\/k=3\/k=4\/k=5\/k=6\/k=7\/k=8\/k=9:=by omega
theorem aOy (k c d e f:Int)(hk:1<=k/\k<=9):∃ r0 r1 r2 r3 fa o0 o1 o2 o3,ruL k=[r0,r1,r2,r3,.func (.func fa) #[] #[]]/\osK k c d e f=[o0,o1,o2,o3]/\Rl c r0 o0/\Rl d r1 o1/\Rl e r2 o2/\Rl f r3 o3:=by
 rcases aKy hk with rfl | rfl | rfl | rfl | rfl | rfl | rfl | rfl | rfl
 ·exact⟨_,_,_,_,_,_,_,_,_,rfl,rfl,aDc c,aFO d,aOz e,.no⟩
 ·exact⟨_,_,_,_,_,_,_,_,_,rfl,rfl,aDc c,.no,aOz e,.no⟩
 ·exact⟨_,_,_,_,_,_,_,_,_,rfl,rfl,aDc c,.no,aTs e,.no⟩
 ·exact⟨_,_,_,_,_,_,_,_,_,rfl,rfl,aDc c,.no,.no,.no⟩
 ·exact⟨_,_,_,_,_,_,_,_,_,rfl,rfl,.no,aFO d,aHB e,aHA f⟩
 ·exact⟨_,_,_,_,_,_,_,_,_,rfl,rfl,.no,aFO d,aHB e,aHA f⟩
 ·exact⟨_,_,_,_,_,_,_,_,_,rfl,rfl,aDc c,aFO d,aHB e,aHA f⟩
 ·exact⟨_,_,_,_,_,_,_,_,_,rfl,rfl,aDc c,aFO d,aHB e,aHA f⟩
 ·exact⟨_,_,_,_,_,_,_,_,_,rfl,rfl,aDc c,.no,aOA e,.no⟩
def fR (n1 n2 n3 n4 z2 z3 z4 z5:Bool)(c d e f:Int):Int:=
 bif (n1&&!z2) || (n2&&!z3) || (n3&&!z4) || (n4&&!z5)then 3 else bif (!n1&&c != 0) || (!n2&&d != 0) || (!n3&&e != 0) || (!n4&&f != 0)then 1 else 0
theorem aGU {k b c d e f:Int}(hk:1<=k/\k<=9):cmF (k,b,c,d,e,f)=bif (b != -1&&!lC b)then 3 else fR (nd k).1 (nd k).2.1 (nd k).2.2.1 (nd k).2.2.2 (nI c) (mG d) (oO k e) (sA f) c d e f:=by
 unfold cmF fR;rw[if_pos hk];simp only
 generalize (b != -1&&!lC b)=g
 cases g<;>rfl
end Go.Proofs.Tryz
set_option maxHeartbeats 0
namespace Go.Proofs.Tryz
open Go Go.VM Go.RowKit
def vl (o0 o1 o2 o3:Option Bool)(c d e f:Int):Int:=
 bif (o0 == some false) || (o1 == some false) || (o2 == some false) || (o3 == some false)then 3 else bif (o0 == none&&c != 0) || (o1 == none&&d != 0) || (o2 == none&&e != 0) || (o3 == none&&f != 0)then 1 else 0
theorem nsf {o:Option Bool}(h:o≠some false):(o == some false)=false:=by
 rcases o with _ | _ | _
 ·rfl
 ·exact absurd rfl h
 ·rfl
theorem aD8 {o0 o1 o2 o3:Option Bool}{c d e f:Int}{en:Ending}(h:aFS [o0,o1,o2,o3] [c,d,e,f] en):en=.returned (.int .i64 (vl o0 o1 o2 o3 c d e f)):=by
 have four:∀ p,p < 4->p=0\/p=1\/p=2\/p=3:=λp h=>by omega
 rcases h with⟨rfl,p,hp,hq⟩ | ⟨h,h2⟩
 ·unfold vl;rcases four p hp with rfl | rfl | rfl | rfl
  ·rw[show o0=some false from hq];simp
  ·rw[show o1=some false from hq];simp
  ·rw[show o2=some false from hq];simp
  ·rw[show o3=some false from hq];simp
 ·have a0:(o0 == some false)=false:=nsf (h 0 (by omega));have a1:(o1 == some false)=false:=nsf (h 1 (by omega));have a2:(o2 == some false)=false:=nsf (h 2 (by omega));have a3:(o3 == some false)=false:=nsf (h 3 (by omega));unfold vl;rw[a0,a1,a2,a3];rcases h2 with⟨rfl,p,hp,hq,hn⟩ | ⟨rfl,hz⟩
  ·rcases four p hp with rfl | rfl | rfl | rfl
   ·rw[show o0=none from hq,show(c != 0)=true from iR hn];simp
   ·rw[show o1=none from hq,show(d != 0)=true from iR hn];simp
   ·rw[show o2=none from hq,show(e != 0)=true from iR hn];simp
   ·rw[show o3=none from hq,show(f != 0)=true from iR hn];simp
  ·have g:∀ (o:Option Bool) (v:Int),(o=none->v=0)->(o == none&&v != 0)=false:=λo v h=>by
    cases o with
    | none=>rw[h rfl];rfl
    | some z=>rfl
   rw[g o0 c (hz 0 (by omega)),g o1 d (hz 1 (by omega)),g o2 e (hz 2 (by omega)),g o3 f (hz 3 (by omega))]
   rfl
theorem aJ9 {k c d e f:Int}(hk:1<=k/\k<=9){o0 o1 o2 o3:Option Bool}(ho:osK k c d e f=[o0,o1,o2,o3]):vl o0 o1 o2 o3 c d e f=fR (nd k).1 (nd k).2.1 (nd k).2.2.1 (nd k).2.2.2 (nI c) (mG d) (oO k e) (sA f) c d e f:=by
 have hs:∀ z:Bool,((some z:Option Bool) == some false)=!z:=λz=>by cases z<;>rfl
 have hn:∀ z:Bool,((some z:Option Bool) == none)=false:=λz=>rfl
 rcases aKy hk with rfl | rfl | rfl | rfl | rfl | rfl | rfl | rfl | rfl<;>cases ho<;>unfold vl fR<;>simp only[hs,hn]<;>simp[nd,oO]
def iO (x:Cm):Option Int:=some (cmF x)
theorem aRF {w:World}{A0:Nat->Prop}{x:Cm}{us:List Value}(h:ArgAs cxT w A0 (a59.enc x) us):us=[.agg (cV x).toArray]:=by
 obtain⟨u,rfl,hu⟩:=aHN (show ArgAs cxT w A0 [.inr ((cV x).map lv)] us from h);rw[aID hu]
theorem aN0:Sat prog cxT 59 (c59 iO):=by
 intro w A0 l us r hA hargs hF;obtain⟨x,t,rfl,hx,rfl⟩:=wK hF;cases hx;rw[aRF hargs];obtain⟨k,b,c,d,e,f⟩:=x;have fin:Calls prog 59 #[.agg #[.int .i64 k,.int .i64 b,.int .i64 c,.int .i64 d,.int .i64 e,.int .i64 f]] w λe' w'=>e'=.returned (.int .i64 (cmF (k,b,c,d,e,f)))/\Below w.heap.size w w':=by
  by_cases hk:1<=k/\k<=9
  ·rw[aGU hk];obtain⟨r0,r1,r2,r3,fa,o0,o1,o2,o3,hr,ho,h0,h1,h2,h3⟩:=aOy k c d e f hk;have h111:=aVw hk;rw[hr]at h111;rw[<-aJ9 hk ho];by_cases hb:b=-1
   ·subst hb;exact(aPq k c d e f hk r0 r1 r2 r3 _ o0 o1 o2 o3 h0 h1 h2 h3 fa rfl h111 w).mono λe' w' ⟨h,hw⟩=>⟨aD8 h,hw⟩
   ·have hb2:(b != -1)=true:=iR hb;rw[hb2,kW];cases hv:lC b with
    | true=>exact(aPp k b c d e f hk hb (by have:=aRt b;rwa [hv]at this) r0 r1 r2 r3 _ o0 o1 o2 o3 h0 h1 h2 h3 fa rfl h111 w).mono λe' w' ⟨h,hw⟩=>⟨aD8 h,hw⟩
    | false=>exact aRD k b c d e f hk hb (by have:=aRt b;rwa [hv]at this) w
  ·have e:cmF (k,b,c,d,e,f)=1:=if_neg hk;rw[e];exact aPd k b c d _ f hk w
 exact fin.mono λe' w' ⟨he,hw⟩=>⟨_,he,hw,aFR _⟩
end Go.Proofs.Tryz
set_option maxHeartbeats 0
namespace Go.Proofs.Tryz
open Go Go.VM Go.RowKit
theorem b01 (p:Prop)[Decidable p]:(if p then(1:Int)else 0)=bif decide p then 1 else 0:=by by_cases h:p<;>simp[h]
theorem ne0 (c:Int):decide (c≠0)=(c != 0):=by by_cases h:c=0<;>simp[h]
theorem aM0 {k:Int}(hk:1<=k/\k<=9):CB 34 #[.int .i64 k,.int .i64 1,.int .i64 9] (.bool true):=by
 have:=aVz k 1 9
 rwa [dt hk]at this
theorem aTE (k b c d e f:Int)(hk:1<=k/\k<=9)(w:World):Calls prog 27 #[.agg #[.int .i64 k,.int .i64 b,.int .i64 c,.int .i64 d,.int .i64 e,.int .i64 f]] w λe' w'=>e'=.returned (.int .i64 (cmF (k,b,c,d,e,f)))/\Below w.heap.size w w':=by
 have h5:=aM0 hk;have h9:=aVy k;have h8:=aVx (k,b,c,d,e,f);have hr:=aGU (b:=b) (c:=c) (d:=d) (e:=e) (f:=f) hk;rcases aKy hk with rfl | rfl | rfl | rfl | rfl | rfl | rfl | rfl | rfl
 ·exact aPs 1 b c d e f _ _ rfl h5 h9 (aBU b) _ (aDP c) _ (aGX d) _ h8 _ (by rw[hr];unfold fR;simp only[b01,fL,ne0];simp[nd,oO];cases (b != -1&&!lC b)<;>simp[fZ]) w
 ·exact aGt 2 b c d e f _ _ rfl h5 h9 (aBU b) _ (aDP c) _ h8 _ (by rw[hr];unfold fR;simp only[b01,fL,ne0];simp[nd,oO];cases (b != -1&&!lC b)<;>simp[fZ]) w
 ·exact aGt 3 b c d e f _ _ rfl h5 h9 (aBU b) _ (aDP c) _ h8 _ (by rw[hr];unfold fR;simp only[b01,fL,ne0];simp[nd,oO];cases (b != -1&&!lC b)<;>simp[fZ]) w
 ·exact aPr 4 b c d e f _ _ rfl h5 h9 (aBU b) _ (aDP c) _ (by rw[hr];unfold fR;simp only[b01,fL,ne0];simp[nd,oO];cases (b != -1&&!lC b)<;>simp[fZ]) w
 ·exact aJl 5 b c d e f _ _ rfl h5 h9 (aBU b) _ (aGX d) _ h8 _ (aIp f) _ (by rw[hr];unfold fR;simp only[b01,fL,ne0];simp[nd,oO];cases (b != -1&&!lC b)<;>simp[fZ]) w
 ·exact aJl 6 b c d e f _ _ rfl h5 h9 (aBU b) _ (aGX d) _ h8 _ (aIp f) _ (by rw[hr];unfold fR;simp only[b01,fL,ne0];simp[nd,oO];cases (b != -1&&!lC b)<;>simp[fZ]) w
 ·exact aJk 7 b c d e f _ _ rfl h5 h9 (aBU b) _ (aDP c) _ (aGX d) _ h8 _ (aIp f) _ (by rw[hr];unfold fR;simp only[b01,fL,ne0];simp[nd,oO];cases (b != -1&&!lC b)<;>simp[fZ]) w
 ·exact aJk 8 b c d e f _ _ rfl h5 h9 (aBU b) _ (aDP c) _ (aGX d) _ h8 _ (aIp f) _ (by rw[hr];unfold fR;simp only[b01,fL,ne0];simp[nd,oO];cases (b != -1&&!lC b)<;>simp[fZ]) w
 ·exact aGt 9 b c d e f _ _ rfl h5 h9 (aBU b) _ (aDP c) _ h8 _ (by rw[hr];unfold fR;simp only[b01,fL,ne0];simp[nd,oO];cases (b != -1&&!lC b)<;>simp[fZ]) w
theorem aOk:Sat prog cxT 27 (c27 iO):=by
 intro w A0 l us r hA hargs hF;obtain⟨x,t,rfl,hx,rfl⟩:=wK hF;cases hx;rw[show us=[.agg (cV x).toArray] from aRF hargs];obtain⟨k,b,c,d,e,f⟩:=x;have fin:Calls prog 27 #[.agg #[.int .i64 k,.int .i64 b,.int .i64 c,.int .i64 d,.int .i64 e,.int .i64 f]] w λe' w'=>e'=.returned (.int .i64 (cmF (k,b,c,d,e,f)))/\Below w.heap.size w w':=by
  by_cases hk:1<=k/\k<=9
  ·exact aTE k b c d e f hk w
  ·have e':cmF (k,b,c,d,e,f)=1:=if_neg hk;rw[e'];exact aPe k b c d _ f hk w
 exact fin.mono λe' w' ⟨he,hw⟩=>⟨_,he,hw,aFR _⟩
end Go.Proofs.Tryz
