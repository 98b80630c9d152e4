/- A part of the proof of FnExactSafeCluster: LmQc, LmQh, LmQi. -/
import Derived.Test.YtnmbggfkmkcmkaaGreatLmQa
import Derived.Test.YtnmbggfkmkcmkaaGreatVmCb
import Derived.Test.YtnmbggfkmkcmkaaGreatLmFi
import Derived.Test.YtnmbggfkmkcmkaaGreatLmQe
import Derived.Test.YtnmbggfkmkcmkaaGreatLmQga
import Derived.Test.YtnmbggfkmkcmkaaGreatLmQgb
import Derived.Test.YtnmbggfkmkcmkaaGreatLmQgc
import Derived.Test.YtnmbggfkmkcmkaaGreatLmQgd
import Derived.Test.YtnmbggfkmkcmkaaGreatLmQge
set_option linter.unusedSimpArgs false
set_option linter.unusedVariables false
set_option maxHeartbeats 0
namespace Go.Proofs.Tryz
open Go Go.VM Go.RowKit
def aDo (x:Int):Bool:=decide (x=0\/x=1)
theorem aOo:Sat prog cxT 154 (aWD λx=>some (aDo x)):=aY6 _ λx t h=>by cases h;exact⟨0,aFt⟩
def rB (k n:Int):Bool:=if k=1\/k=2 then aGp n else if k=3 then aHN n else if k=9 then aDo n else sV n
theorem aJV (x:Int):decide ((0:Int)<=x/\x<=1)=aDo x:=by
 unfold aDo;by_cases h:x=0\/x=1
 ·rw[dt h,dt (by omega)]
 ·rw[df h,df (by omega)]
theorem aOM:Sat prog cxT 119 (aWM λx=>some (rB x.1 x.2.2.2.2.1)):=aZv _ _ nN aOx _ λx t h=>by
 obtain⟨k,b,c,d,n,p⟩:=x;cases h;refine⟨0,?_⟩;show aJe _ _ 0 k b c d n p=some (rB k n)
 (try unfold w187);unfold aJe G119 rB;dsimp only
 simp only[aR];by_cases h1:k=1
 ·subst h1;rfl
 by_cases h2:k=2
 ·subst h2;rfl
 by_cases h3:k=3
 ·subst h3;rfl
 by_cases h9:k=9
 ·subst h9;show some (decide ((0:Int)<=n/\n<=1))=some (aDo n);rw[aJV]
 rw[yB h1,yB h2,yB h3,yB h9,if_neg (by omega),if_neg h3,if_neg h9]
 rfl
def cmF (x:Cm):Int:=
  if 1<=x.1/\x.1<=9 then
    (bif (x.2.1 != -1&&!qW x.2.1) || ((nd x.1).1&&!vH x.2.2.1) || ((nd x.1).2.1&&!aBa x.2.2.2.1) || ((nd x.1).2.2.1&&!rB x.1 x.2.2.2.2.1) || ((nd x.1).2.2.2&&!aBe x.2.2.2.2.2)then 3
     else bif (!(nd x.1).1&&x.2.2.1 != 0) || (!(nd x.1).2.1&&x.2.2.2.1 != 0) || (!(nd x.1).2.2.1&&x.2.2.2.2.1 != 0) || (!(nd x.1).2.2.2&&x.2.2.2.2.2 != 0)then 1 else 0)
  else 1
theorem aNM (n:Int):CB 138 #[.int .i64 n] (.bool (qW n)):=gU aOw (λ_=>iK [.int .i64 n]) rfl
theorem aWy (n:Int):CB 140 #[.int .i64 n] (.bool (vH n)):=gU aOu (λ_=>iK [.int .i64 n]) rfl
theorem aWx (n:Int):CB 141 #[.int .i64 n] (.bool (aBa n)):=gU aOt (λ_=>iK [.int .i64 n]) rfl
theorem aWw (n:Int):CB 142 #[.int .i64 n] (.bool (aGp n)):=gU aOs (λ_=>iK [.int .i64 n]) rfl
theorem aWv (n:Int):CB 145 #[.int .i64 n] (.bool (aHN n)):=gU aOr (λ_=>iK [.int .i64 n]) rfl
theorem aWu (n:Int):CB 148 #[.int .i64 n] (.bool (sV n)):=gU aOq (λ_=>iK [.int .i64 n]) rfl
theorem aWt (n:Int):CB 149 #[.int .i64 n] (.bool (aBe n)):=gU aOp (λ_=>iK [.int .i64 n]) rfl
theorem aWs (n:Int):CB 154 #[.int .i64 n] (.bool (aDo n)):=gU aOo (λ_=>iK [.int .i64 n]) rfl
theorem vW (n:Int):CB 116 #[.int .i64 n] (.bool (qW n)):=gU aOP (λ_=>iK [.int .i64 n]) rfl
theorem aA3 (n:Int):CB 117 #[.int .i64 n] (.bool (vH n)):=gU aOO (λ_=>iK [.int .i64 n]) rfl
theorem aEj (n:Int):CB 118 #[.int .i64 n] (.bool (aBa n)):=gU aON (λ_=>iK [.int .i64 n]) rfl
theorem aGf (n:Int):CB 120 #[.int .i64 n] (.bool (aBe n)):=gU aOL (λ_=>iK [.int .i64 n]) rfl
theorem bCO (a b c:Int):CB 70 #[.int .i64 a,.int .i64 b,.int .i64 c] (.bool (decide (b<=a/\a<=c))):=gU nN (λ_=>iK [.int .i64 a,.int .i64 b,.int .i64 c]) rfl
def cV (x:Cm):List Value:=[.int .i64 x.1,.int .i64 x.2.1,.int .i64 x.2.2.1,.int .i64 x.2.2.2.1,.int .i64 x.2.2.2.2.1,.int .i64 x.2.2.2.2.2]
theorem aWA (x:Cm):CB 119 #[.agg (cV x).toArray] (.bool (rB x.1 x.2.2.2.2.1)):=gU aOM (λ_=>aJN (cV x)) rfl
theorem aWB (k:Int):CB 115 #[.int .i64 k] (.tuple #[.bool (nd k).1,.bool (nd k).2.1,.bool (nd k).2.2.1,.bool (nd k).2.2.2]):=aJF (vs:=[.bool (nd k).1,.bool (nd k).2.1,.bool (nd k).2.2.1,.bool (nd k).2.2.2]) aOQ (λ_=>iK [.int .i64 k]) rfl
theorem aWz {k:Int}(hk:1<=k/\k<=9):CB 139 #[.int .i64 k] (.agg (ruL k).toArray):=aJG (vs:=ruL k) aOv (λ_=>iK [.int .i64 k]) (if_pos hk)
theorem zH (n:Int):Rl n (oY 140) (some (vH n)):=.yes 140 _ (λ_ _=>by kernel_rfl) (aWy n)
theorem aDG (n:Int):Rl n (oY 141) (some (aBa n)):=.yes 141 _ (λ_ _=>by kernel_rfl) (aWx n)
theorem aLy (n:Int):Rl n (oY 142) (some (aGp n)):=.yes 142 _ (λ_ _=>by kernel_rfl) (aWw n)
theorem aSp (n:Int):Rl n (oY 145) (some (aHN n)):=.yes 145 _ (λ_ _=>by kernel_rfl) (aWv n)
theorem aFK (n:Int):Rl n (oY 148) (some (sV n)):=.yes 148 _ (λ_ _=>by kernel_rfl) (aWu n)
theorem aFJ (n:Int):Rl n (oY 149) (some (aBe n)):=.yes 149 _ (λ_ _=>by kernel_rfl) (aWt n)
theorem aSo (n:Int):Rl n (oY 154) (some (aDo n)):=.yes 154 _ (λ_ _=>by kernel_rfl) (aWs n)
def osK (k c d e f:Int):List (Option Bool):=
 if k=1 then[some (vH c),some (aBa d),some (aGp e),none]else
 if k=2 then[some (vH c),none,some (aGp e),none]else
 if k=3 then[some (vH c),none,some (aHN e),none]else
 if k=4 then[some (vH c),none,none,none]else
 if k=5\/k=6 then[none,some (aBa d),some (sV e),some (aBe f)]else
 if k=7\/k=8 then[some (vH c),some (aBa d),some (sV e),some (aBe f)]else
 [some (vH c),none,some (aDo e),none]
theorem aO4 {k:Int}(hk:1<=k/\k<=9):k=1\/k=2\/k=3\/k=4\/k=5\/k=6\/k=7\/k=8\/k=9:=by omega
theorem aSm (k c d e f:Int)(hk:1<=k/\k<=9):∃ r0 r1 r2 r3 fa o0 o1 o2 o3,ruL k=[r0,r1,r2,r3,.func (.func fa) #[] #[]]/\osK k c d e f=[o0,o1,o2,o3]/\Rl c r0 o0/\Rl d r1 o1/\Rl e r2 o2/\Rl f r3 o3:=by
 rcases aO4 hk with rfl | rfl | rfl | rfl | rfl | rfl | rfl | rfl | rfl
 ·exact⟨_,_,_,_,_,_,_,_,_,rfl,rfl,zH c,aDG d,aLy e,.no⟩
 ·exact⟨_,_,_,_,_,_,_,_,_,rfl,rfl,zH c,.no,aLy e,.no⟩
 ·exact⟨_,_,_,_,_,_,_,_,_,rfl,rfl,zH c,.no,aSp e,.no⟩
 ·exact⟨_,_,_,_,_,_,_,_,_,rfl,rfl,zH c,.no,.no,.no⟩
 ·exact⟨_,_,_,_,_,_,_,_,_,rfl,rfl,.no,aDG d,aFK e,aFJ f⟩
 ·exact⟨_,_,_,_,_,_,_,_,_,rfl,rfl,.no,aDG d,aFK e,aFJ f⟩
 ·exact⟨_,_,_,_,_,_,_,_,_,rfl,rfl,zH c,aDG d,aFK e,aFJ f⟩
 ·exact⟨_,_,_,_,_,_,_,_,_,rfl,rfl,zH c,aDG d,aFK e,aFJ f⟩
 ·exact⟨_,_,_,_,_,_,_,_,_,rfl,rfl,zH c,.no,aSo e,.no⟩
def fR (n1 n2 n3 n4 z2 z3 z4 z5:Bool)(c d e f:Int):Int:=
 bif (n1&&!z2) || (n2&&!z3) || (n3&&!z4) || (n4&&!z5)then 3 else bif (!n1&&c != 0) || (!n2&&d != 0) || (!n3&&e != 0) || (!n4&&f != 0)then 1 else 0
theorem aJB {k b c d e f:Int}(hk:1<=k/\k<=9):cmF (k,b,c,d,e,f)=bif (b != -1&&!qW b)then 3 else fR (nd k).1 (nd k).2.1 (nd k).2.2.1 (nd k).2.2.2 (vH c) (aBa d) (rB k e) (aBe f) c d e f:=by
 unfold cmF fR;rw[if_pos hk];simp only
 generalize (b != -1&&!qW b)=g
 cases g<;>rfl
end Go.Proofs.Tryz
set_option maxHeartbeats 0
namespace Go.Proofs.Tryz
open Go Go.VM Go.RowKit
def vl (o0 o1 o2 o3:Option Bool)(c d e f:Int):Int:=
 bif (o0 == some false) || (o1 == some false) || (o2 == some false) || (o3 == some false)then 3 else bif (o0 == none&&c != 0) || (o1 == none&&d != 0) || (o2 == none&&e != 0) || (o3 == none&&f != 0)then 1 else 0
theorem nsf {o:Option Bool}(h:o≠some false):(o == some false)=false:=by
 rcases o with _ | _ | _
 ·rfl
 ·exact absurd rfl h
 ·rfl
theorem aFL {o0 o1 o2 o3:Option Bool}{c d e f:Int}{en:Ending}(h:aH6 [o0,o1,o2,o3] [c,d,e,f] en):en=.returned (.int .i64 (vl o0 o1 o2 o3 c d e f)):=by
 have four:∀ p,p < 4->p=0\/p=1\/p=2\/p=3:=λp h=>by omega
 rcases h with⟨rfl,p,hp,hq⟩ | ⟨h,h2⟩
 ·unfold vl;rcases four p hp with rfl | rfl | rfl | rfl
  ·rw[show o0=some false from hq];simp
  ·rw[show o1=some false from hq];simp
  ·rw[show o2=some false from hq];simp
  ·rw[show o3=some false from hq];simp
 ·have a0:(o0 == some false)=false:=nsf (h 0 (by omega));have a1:(o1 == some false)=false:=nsf (h 1 (by omega));have a2:(o2 == some false)=false:=nsf (h 2 (by omega));have a3:(o3 == some false)=false:=nsf (h 3 (by omega));unfold vl;rw[a0,a1,a2,a3];rcases h2 with⟨rfl,p,hp,hq,hn⟩ | ⟨rfl,hz⟩
  ·rcases four p hp with rfl | rfl | rfl | rfl
   ·rw[show o0=none from hq,show(c != 0)=true from qU hn];simp
   ·rw[show o1=none from hq,show(d != 0)=true from qU hn];simp
   ·rw[show o2=none from hq,show(e != 0)=true from qU hn];simp
   ·rw[show o3=none from hq,show(f != 0)=true from qU hn];simp
  ·have g:∀ (o:Option Bool) (v:Int),(o=none->v=0)->(o == none&&v != 0)=false:=λo v h=>by
    cases o with
    | none=>rw[h rfl];rfl
    | some z=>rfl
   rw[g o0 c (hz 0 (by omega)),g o1 d (hz 1 (by omega)),g o2 e (hz 2 (by omega)),g o3 f (hz 3 (by omega))]
   rfl
theorem aOa {k c d e f:Int}(hk:1<=k/\k<=9){o0 o1 o2 o3:Option Bool}(ho:osK k c d e f=[o0,o1,o2,o3]):vl o0 o1 o2 o3 c d e f=fR (nd k).1 (nd k).2.1 (nd k).2.2.1 (nd k).2.2.2 (vH c) (aBa d) (rB k e) (aBe f) c d e f:=by
 have hs:∀ z:Bool,((some z:Option Bool) == some false)=!z:=λz=>by cases z<;>rfl
 have hn:∀ z:Bool,((some z:Option Bool) == none)=false:=λz=>rfl
 rcases aO4 hk with rfl | rfl | rfl | rfl | rfl | rfl | rfl | rfl | rfl<;>cases ho<;>unfold vl fR<;>simp only[hs,hn]<;>simp[nd,rB]
def lF (x:Cm):Option Int:=some (cmF x)
theorem aWW {w:World}{A0:Nat->Prop}{x:Cm}{us:List Value}(h:ArgAs cxT w A0 (bCQ.enc x) us):us=[.agg (cV x).toArray]:=by
 obtain⟨u,rfl,hu⟩:=aKe (show ArgAs cxT w A0 [.inr ((cV x).map lv)] us from h);rw[aLb hu]
theorem aOy:Sat prog cxT 136 (aPY lF):=by
 intro w A0 l us r hA hargs hF;obtain⟨x,t,rfl,hx,rfl⟩:=yW hF;cases hx;rw[aWW hargs];obtain⟨k,b,c,d,e,f⟩:=x;have fin:Calls prog 136 #[.agg #[.int .i64 k,.int .i64 b,.int .i64 c,.int .i64 d,.int .i64 e,.int .i64 f]] w λe' w'=>e'=.returned (.int .i64 (cmF (k,b,c,d,e,f)))/\Below w.heap.size w w':=by
  by_cases hk:1<=k/\k<=9
  ·rw[aJB hk];obtain⟨r0,r1,r2,r3,fa,o0,o1,o2,o3,hr,ho,h0,h1,h2,h3⟩:=aSm k c d e f hk;have h111:=aWz hk;rw[hr]at h111;rw[<-aOa hk ho];by_cases hb:b=-1
   ·subst hb;exact(aSD k c d e f hk r0 r1 r2 r3 _ o0 o1 o2 o3 h0 h1 h2 h3 fa rfl h111 w).mono λe' w' ⟨h,hw⟩=>⟨aFL h,hw⟩
   ·have hb2:(b != -1)=true:=qU hb;rw[hb2,dW];cases hv:qW b with
    | true=>exact(aSC k b c d e f hk hb (by have:=aNM b;rwa [hv]at this) r0 r1 r2 r3 _ o0 o1 o2 o3 h0 h1 h2 h3 fa rfl h111 w).mono λe' w' ⟨h,hw⟩=>⟨aFL h,hw⟩
    | false=>exact aWU k b c d e f hk hb (by have:=aNM b;rwa [hv]at this) w
  ·have e:cmF (k,b,c,d,e,f)=1:=if_neg hk;rw[e];exact aSs k b c d _ f hk w
 exact fin.mono λe' w' ⟨he,hw⟩=>⟨_,he,hw,aH5 _⟩
end Go.Proofs.Tryz
set_option maxHeartbeats 0
namespace Go.Proofs.Tryz
open Go Go.VM Go.RowKit
theorem b01 (p:Prop)[Decidable p]:(if p then(1:Int)else 0)=bif decide p then 1 else 0:=by by_cases h:p<;>simp[h]
theorem ne0 (c:Int):decide (c≠0)=(c != 0):=by by_cases h:c=0<;>simp[h]
theorem aRy {k:Int}(hk:1<=k/\k<=9):CB 70 #[.int .i64 k,.int .i64 1,.int .i64 9] (.bool true):=by
 have:=bCO k 1 9
 rwa [dt hk]at this
theorem aZ6 (k b c d e f:Int)(hk:1<=k/\k<=9)(w:World):Calls prog 101 #[.agg #[.int .i64 k,.int .i64 b,.int .i64 c,.int .i64 d,.int .i64 e,.int .i64 f]] w λe' w'=>e'=.returned (.int .i64 (cmF (k,b,c,d,e,f)))/\Below w.heap.size w w':=by
 have h5:=aRy hk;have h9:=aWB k;have h8:=aWA (k,b,c,d,e,f);have hr:=aJB (b:=b) (c:=c) (d:=d) (e:=e) (f:=f) hk;rcases aO4 hk with rfl | rfl | rfl | rfl | rfl | rfl | rfl | rfl | rfl
 ·exact aSF 1 b c d e f _ _ rfl h5 h9 (vW b) _ (aA3 c) _ (aEj d) _ h8 _ (by rw[hr];unfold fR;simp only[b01,fY,ne0];simp[nd,rB];cases (b != -1&&!qW b)<;>simp[gZ]) w
 ·exact aIT 2 b c d e f _ _ rfl h5 h9 (vW b) _ (aA3 c) _ h8 _ (by rw[hr];unfold fR;simp only[b01,fY,ne0];simp[nd,rB];cases (b != -1&&!qW b)<;>simp[gZ]) w
 ·exact aIT 3 b c d e f _ _ rfl h5 h9 (vW b) _ (aA3 c) _ h8 _ (by rw[hr];unfold fR;simp only[b01,fY,ne0];simp[nd,rB];cases (b != -1&&!qW b)<;>simp[gZ]) w
 ·exact aSE 4 b c d e f _ _ rfl h5 h9 (vW b) _ (aA3 c) _ (by rw[hr];unfold fR;simp only[b01,fY,ne0];simp[nd,rB];cases (b != -1&&!qW b)<;>simp[gZ]) w
 ·exact aLC 5 b c d e f _ _ rfl h5 h9 (vW b) _ (aEj d) _ h8 _ (aGf f) _ (by rw[hr];unfold fR;simp only[b01,fY,ne0];simp[nd,rB];cases (b != -1&&!qW b)<;>simp[gZ]) w
 ·exact aLC 6 b c d e f _ _ rfl h5 h9 (vW b) _ (aEj d) _ h8 _ (aGf f) _ (by rw[hr];unfold fR;simp only[b01,fY,ne0];simp[nd,rB];cases (b != -1&&!qW b)<;>simp[gZ]) w
 ·exact aLB 7 b c d e f _ _ rfl h5 h9 (vW b) _ (aA3 c) _ (aEj d) _ h8 _ (aGf f) _ (by rw[hr];unfold fR;simp only[b01,fY,ne0];simp[nd,rB];cases (b != -1&&!qW b)<;>simp[gZ]) w
 ·exact aLB 8 b c d e f _ _ rfl h5 h9 (vW b) _ (aA3 c) _ (aEj d) _ h8 _ (aGf f) _ (by rw[hr];unfold fR;simp only[b01,fY,ne0];simp[nd,rB];cases (b != -1&&!qW b)<;>simp[gZ]) w
 ·exact aIT 9 b c d e f _ _ rfl h5 h9 (vW b) _ (aA3 c) _ h8 _ (by rw[hr];unfold fR;simp only[b01,fY,ne0];simp[nd,rB];cases (b != -1&&!qW b)<;>simp[gZ]) w
theorem aOY:Sat prog cxT 101 (aPZ lF):=by
 intro w A0 l us r hA hargs hF;obtain⟨x,t,rfl,hx,rfl⟩:=yW hF;cases hx;rw[show us=[.agg (cV x).toArray] from aWW hargs];obtain⟨k,b,c,d,e,f⟩:=x;have fin:Calls prog 101 #[.agg #[.int .i64 k,.int .i64 b,.int .i64 c,.int .i64 d,.int .i64 e,.int .i64 f]] w λe' w'=>e'=.returned (.int .i64 (cmF (k,b,c,d,e,f)))/\Below w.heap.size w w':=by
  by_cases hk:1<=k/\k<=9
  ·exact aZ6 k b c d e f hk w
  ·have e':cmF (k,b,c,d,e,f)=1:=if_neg hk;rw[e'];exact aSt k b c d _ f hk w
 exact fin.mono λe' w' ⟨he,hw⟩=>⟨_,he,hw,aH5 _⟩
end Go.Proofs.Tryz
