/- A part of the proof of FnExactClusterFault: LiQc, LiQh, LiQi. -/
import Derived.Test.YtalbnpcbmakijaaGreatLiQa
import Derived.Test.YtalbnpcbmakijaaGreatVmCb
import Derived.Test.YtalbnpcbmakijaaGreatLiFi
import Derived.Test.YtalbnpcbmakijaaGreatLiQe
import Derived.Test.YtalbnpcbmakijaaGreatLiQga
import Derived.Test.YtalbnpcbmakijaaGreatLiQgb
import Derived.Test.YtalbnpcbmakijaaGreatLiQgc
import Derived.Test.YtalbnpcbmakijaaGreatLiQgd
import Derived.Test.YtalbnpcbmakijaaGreatLiQge
set_option linter.unusedSimpArgs false
set_option linter.unusedVariables false
set_option maxHeartbeats 0
namespace Go.Proofs.Tryz
open Go Go.VM Go.RowKit
def aBU (x:Int):Bool:=decide (x=0\/x=1)
theorem aL6:Sat prog cxT 228 (aSA λx=>some (aBU x)):=aUM _ λx t h=>by cases h;exact⟨0,aDO⟩
def pI (k n:Int):Bool:=if k=1\/k=2 then aEI n else if k=3 then aF7 n else if k=9 then aBU n else qU n
theorem aHY (x:Int):decide ((0:Int)<=x/\x<=1)=aBU x:=by
 unfold aBU;by_cases h:x=0\/x=1
 ·rw[dt h,dt (by omega)]
 ·rw[df h,df (by omega)]
theorem aMj:Sat prog cxT 187 (aSJ λx=>some (pI x.1 x.2.2.2.2.1)):=aUZ _ _ mK aMd _ λx t h=>by
 obtain⟨k,b,c,d,n,p⟩:=x;cases h;refine⟨0,?_⟩;show aHd _ _ 0 k b c d n p=some (pI k n)
 (try unfold aLx);unfold aHd G187 pI;dsimp only
 simp only[aV];by_cases h1:k=1
 ·subst h1;rfl
 by_cases h2:k=2
 ·subst h2;rfl
 by_cases h3:k=3
 ·subst h3;rfl
 by_cases h9:k=9
 ·subst h9;show some (decide ((0:Int)<=n/\n<=1))=some (aBU n);rw[aHY]
 rw[aFS h1,aFS h2,aFS h3,aFS h9,if_neg (by omega),if_neg h3,if_neg h9]
 rfl
def cmF (x:Cm):Int:=
  if 1<=x.1/\x.1<=9 then
    (bif (x.2.1 != -1&&!pD x.2.1) || ((nd x.1).1&&!tI x.2.2.1) || ((nd x.1).2.1&&!zQ x.2.2.2.1) || ((nd x.1).2.2.1&&!pI x.1 x.2.2.2.2.1) || ((nd x.1).2.2.2&&!zU x.2.2.2.2.2)then 3
     else bif (!(nd x.1).1&&x.2.2.1 != 0) || (!(nd x.1).2.1&&x.2.2.2.1 != 0) || (!(nd x.1).2.2.1&&x.2.2.2.2.1 != 0) || (!(nd x.1).2.2.2&&x.2.2.2.2.2 != 0)then 1 else 0)
  else 1
theorem aLq (n:Int):CB 191 #[.int .i64 n] (.bool (pD n)):=gK aMg (λ_=>hH [.int .i64 n]) rfl
theorem aSv (n:Int):CB 214 #[.int .i64 n] (.bool (tI n)):=gK aMc (λ_=>hH [.int .i64 n]) rfl
theorem aSu (n:Int):CB 215 #[.int .i64 n] (.bool (zQ n)):=gK aMb (λ_=>hH [.int .i64 n]) rfl
theorem aSt (n:Int):CB 216 #[.int .i64 n] (.bool (aEI n)):=gK aMa (λ_=>hH [.int .i64 n]) rfl
theorem aSs (n:Int):CB 219 #[.int .i64 n] (.bool (aF7 n)):=gK aL9 (λ_=>hH [.int .i64 n]) rfl
theorem aSr (n:Int):CB 222 #[.int .i64 n] (.bool (qU n)):=gK aL8 (λ_=>hH [.int .i64 n]) rfl
theorem aSq (n:Int):CB 223 #[.int .i64 n] (.bool (zU n)):=gK aL7 (λ_=>hH [.int .i64 n]) rfl
theorem aSp (n:Int):CB 228 #[.int .i64 n] (.bool (aBU n)):=gK aL6 (λ_=>hH [.int .i64 n]) rfl
theorem tV (n:Int):CB 184 #[.int .i64 n] (.bool (pD n)):=gK aMm (λ_=>hH [.int .i64 n]) rfl
theorem zK (n:Int):CB 185 #[.int .i64 n] (.bool (tI n)):=gK aMl (λ_=>hH [.int .i64 n]) rfl
theorem aCK (n:Int):CB 186 #[.int .i64 n] (.bool (zQ n)):=gK aMk (λ_=>hH [.int .i64 n]) rfl
theorem aEA (n:Int):CB 188 #[.int .i64 n] (.bool (zU n)):=gK aMi (λ_=>hH [.int .i64 n]) rfl
theorem aXS (a b c:Int):CB 88 #[.int .i64 a,.int .i64 b,.int .i64 c] (.bool (decide (b<=a/\a<=c))):=gK mK (λ_=>hH [.int .i64 a,.int .i64 b,.int .i64 c]) rfl
def cV (x:Cm):List Value:=[.int .i64 x.1,.int .i64 x.2.1,.int .i64 x.2.2.1,.int .i64 x.2.2.2.1,.int .i64 x.2.2.2.2.1,.int .i64 x.2.2.2.2.2]
theorem aSx (x:Cm):CB 187 #[.agg (cV x).toArray] (.bool (pI x.1 x.2.2.2.2.1)):=gK aMj (λ_=>aHV (cV x)) rfl
theorem aSy (k:Int):CB 183 #[.int .i64 k] (.tuple #[.bool (nd k).1,.bool (nd k).2.1,.bool (nd k).2.2.1,.bool (nd k).2.2.2]):=aHL (vs:=[.bool (nd k).1,.bool (nd k).2.1,.bool (nd k).2.2.1,.bool (nd k).2.2.2]) aMn (λ_=>hH [.int .i64 k]) rfl
theorem aSw {k:Int}(hk:1<=k/\k<=9):CB 192 #[.int .i64 k] (.agg (ruL k).toArray):=aHM (vs:=ruL k) aMf (λ_=>hH [.int .i64 k]) (if_pos hk)
theorem wV (n:Int):Rl n (nR 214) (some (tI n)):=.yes 214 _ (λ_ _=>by kernel_rfl) (aSv n)
theorem aB7 (n:Int):Rl n (nR 215) (some (zQ n)):=.yes 215 _ (λ_ _=>by kernel_rfl) (aSu n)
theorem aJq (n:Int):Rl n (nR 216) (some (aEI n)):=.yes 216 _ (λ_ _=>by kernel_rfl) (aSt n)
theorem aPr (n:Int):Rl n (nR 219) (some (aF7 n)):=.yes 219 _ (λ_ _=>by kernel_rfl) (aSs n)
theorem aD5 (n:Int):Rl n (nR 222) (some (qU n)):=.yes 222 _ (λ_ _=>by kernel_rfl) (aSr n)
theorem aD4 (n:Int):Rl n (nR 223) (some (zU n)):=.yes 223 _ (λ_ _=>by kernel_rfl) (aSq n)
theorem aPq (n:Int):Rl n (nR 228) (some (aBU n)):=.yes 228 _ (λ_ _=>by kernel_rfl) (aSp n)
def osK (k c d e f:Int):List (Option Bool):=
 if k=1 then[some (tI c),some (zQ d),some (aEI e),none]else
 if k=2 then[some (tI c),none,some (aEI e),none]else
 if k=3 then[some (tI c),none,some (aF7 e),none]else
 if k=4 then[some (tI c),none,none,none]else
 if k=5\/k=6 then[none,some (zQ d),some (qU e),some (zU f)]else
 if k=7\/k=8 then[some (tI c),some (zQ d),some (qU e),some (zU f)]else
 [some (tI c),none,some (aBU e),none]
theorem aMO {k:Int}(hk:1<=k/\k<=9):k=1\/k=2\/k=3\/k=4\/k=5\/k=6\/k=7\/k=8\/k=9:=by omega
theorem aPo (k c d e f:Int)(hk:1<=k/\k<=9):∃ r0 r1 r2 r3 fa o0 o1 o2 o3,ruL k=[r0,r1,r2,r3,.func (.func fa) #[] #[]]/\osK k c d e f=[o0,o1,o2,o3]/\Rl c r0 o0/\Rl d r1 o1/\Rl e r2 o2/\Rl f r3 o3:=by
 rcases aMO hk with rfl | rfl | rfl | rfl | rfl | rfl | rfl | rfl | rfl
 ·exact⟨_,_,_,_,_,_,_,_,_,rfl,rfl,wV c,aB7 d,aJq e,.no⟩
 ·exact⟨_,_,_,_,_,_,_,_,_,rfl,rfl,wV c,.no,aJq e,.no⟩
 ·exact⟨_,_,_,_,_,_,_,_,_,rfl,rfl,wV c,.no,aPr e,.no⟩
 ·exact⟨_,_,_,_,_,_,_,_,_,rfl,rfl,wV c,.no,.no,.no⟩
 ·exact⟨_,_,_,_,_,_,_,_,_,rfl,rfl,.no,aB7 d,aD5 e,aD4 f⟩
 ·exact⟨_,_,_,_,_,_,_,_,_,rfl,rfl,.no,aB7 d,aD5 e,aD4 f⟩
 ·exact⟨_,_,_,_,_,_,_,_,_,rfl,rfl,wV c,aB7 d,aD5 e,aD4 f⟩
 ·exact⟨_,_,_,_,_,_,_,_,_,rfl,rfl,wV c,aB7 d,aD5 e,aD4 f⟩
 ·exact⟨_,_,_,_,_,_,_,_,_,rfl,rfl,wV c,.no,aPq e,.no⟩
def fR (n1 n2 n3 n4 z2 z3 z4 z5:Bool)(c d e f:Int):Int:=
 bif (n1&&!z2) || (n2&&!z3) || (n3&&!z4) || (n4&&!z5)then 3 else bif (!n1&&c != 0) || (!n2&&d != 0) || (!n3&&e != 0) || (!n4&&f != 0)then 1 else 0
theorem aHH {k b c d e f:Int}(hk:1<=k/\k<=9):cmF (k,b,c,d,e,f)=bif (b != -1&&!pD b)then 3 else fR (nd k).1 (nd k).2.1 (nd k).2.2.1 (nd k).2.2.2 (tI c) (zQ d) (pI k e) (zU f) c d e f:=by
 unfold cmF fR;rw[if_pos hk];simp only
 generalize (b != -1&&!pD b)=g
 cases g<;>rfl
end Go.Proofs.Tryz
set_option maxHeartbeats 0
namespace Go.Proofs.Tryz
open Go Go.VM Go.RowKit
def vl (o0 o1 o2 o3:Option Bool)(c d e f:Int):Int:=
 bif (o0 == some false) || (o1 == some false) || (o2 == some false) || (o3 == some false)then 3 else bif (o0 == none&&c != 0) || (o1 == none&&d != 0) || (o2 == none&&e != 0) || (o3 == none&&f != 0)then 1 else 0
theorem nsf {o:Option Bool}(h:o≠some false):(o == some false)=false:=by
 rcases o with _ | _ | _
 ·rfl
 ·exact absurd rfl h
 ·rfl
theorem aD6 {o0 o1 o2 o3:Option Bool}{c d e f:Int}{en:Ending}(h:aGo [o0,o1,o2,o3] [c,d,e,f] en):en=.returned (.int .i64 (vl o0 o1 o2 o3 c d e f)):=by
 have four:∀ p,p < 4->p=0\/p=1\/p=2\/p=3:=λp h=>by omega
 rcases h with⟨rfl,p,hp,hq⟩ | ⟨h,h2⟩
 ·unfold vl;rcases four p hp with rfl | rfl | rfl | rfl
  ·rw[show o0=some false from hq];simp
  ·rw[show o1=some false from hq];simp
  ·rw[show o2=some false from hq];simp
  ·rw[show o3=some false from hq];simp
 ·have a0:(o0 == some false)=false:=nsf (h 0 (by omega));have a1:(o1 == some false)=false:=nsf (h 1 (by omega));have a2:(o2 == some false)=false:=nsf (h 2 (by omega));have a3:(o3 == some false)=false:=nsf (h 3 (by omega));unfold vl;rw[a0,a1,a2,a3];rcases h2 with⟨rfl,p,hp,hq,hn⟩ | ⟨rfl,hz⟩
  ·rcases four p hp with rfl | rfl | rfl | rfl
   ·rw[show o0=none from hq,show(c != 0)=true from uN hn];simp
   ·rw[show o1=none from hq,show(d != 0)=true from uN hn];simp
   ·rw[show o2=none from hq,show(e != 0)=true from uN hn];simp
   ·rw[show o3=none from hq,show(f != 0)=true from uN hn];simp
  ·have g:∀ (o:Option Bool) (v:Int),(o=none->v=0)->(o == none&&v != 0)=false:=λo v h=>by
    cases o with
    | none=>rw[h rfl];rfl
    | some z=>rfl
   rw[g o0 c (hz 0 (by omega)),g o1 d (hz 1 (by omega)),g o2 e (hz 2 (by omega)),g o3 f (hz 3 (by omega))]
   rfl
theorem aLS {k c d e f:Int}(hk:1<=k/\k<=9){o0 o1 o2 o3:Option Bool}(ho:osK k c d e f=[o0,o1,o2,o3]):vl o0 o1 o2 o3 c d e f=fR (nd k).1 (nd k).2.1 (nd k).2.2.1 (nd k).2.2.2 (tI c) (zQ d) (pI k e) (zU f) c d e f:=by
 have hs:∀ z:Bool,((some z:Option Bool) == some false)=!z:=λz=>by cases z<;>rfl
 have hn:∀ z:Bool,((some z:Option Bool) == none)=false:=λz=>rfl
 rcases aMO hk with rfl | rfl | rfl | rfl | rfl | rfl | rfl | rfl | rfl<;>cases ho<;>unfold vl fR<;>simp only[hs,hn]<;>simp[nd,pI]
def kL (x:Cm):Option Int:=some (cmF x)
theorem aSU {w:World}{A0:Nat->Prop}{x:Cm}{us:List Value}(h:ArgAs cxT w A0 (aXU.enc x) us):us=[.agg (cV x).toArray]:=by
 obtain⟨u,rfl,hu⟩:=aIh (show ArgAs cxT w A0 [.inr ((cV x).map lv)] us from h);rw[aJh hu]
theorem aMq:Sat prog cxT 158 (aNF kL):=by
 intro w A0 l us r hA hargs hF;obtain⟨x,t,rfl,hx,rfl⟩:=wI hF;cases hx;rw[aSU hargs];obtain⟨k,b,c,d,e,f⟩:=x;have fin:Calls prog 158 #[.agg #[.int .i64 k,.int .i64 b,.int .i64 c,.int .i64 d,.int .i64 e,.int .i64 f]] w λe' w'=>e'=.returned (.int .i64 (cmF (k,b,c,d,e,f)))/\Below w.heap.size w w':=by
  by_cases hk:1<=k/\k<=9
  ·rw[aHH hk];obtain⟨r0,r1,r2,r3,fa,o0,o1,o2,o3,hr,ho,h0,h1,h2,h3⟩:=aPo k c d e f hk;have h111:=aSw hk;rw[hr]at h111;rw[<-aLS hk ho];by_cases hb:b=-1
   ·subst hb;exact(aPF k c d e f hk r0 r1 r2 r3 _ o0 o1 o2 o3 h0 h1 h2 h3 fa rfl h111 w).mono λe' w' ⟨h,hw⟩=>⟨aD6 h,hw⟩
   ·have hb2:(b != -1)=true:=uN hb;rw[hb2,eW];cases hv:pD b with
    | true=>exact(aPE k b c d e f hk hb (by have:=aLq b;rwa [hv]at this) r0 r1 r2 r3 _ o0 o1 o2 o3 h0 h1 h2 h3 fa rfl h111 w).mono λe' w' ⟨h,hw⟩=>⟨aD6 h,hw⟩
    | false=>exact aSS k b c d e f hk hb (by have:=aLq b;rwa [hv]at this) w
  ·have e:cmF (k,b,c,d,e,f)=1:=if_neg hk;rw[e];exact aPu k b c d _ f hk w
 exact fin.mono λe' w' ⟨he,hw⟩=>⟨_,he,hw,aGn _⟩
end Go.Proofs.Tryz
set_option maxHeartbeats 0
namespace Go.Proofs.Tryz
open Go Go.VM Go.RowKit
theorem b01 (p:Prop)[Decidable p]:(if p then(1:Int)else 0)=bif decide p then 1 else 0:=by by_cases h:p<;>simp[h]
theorem ne0 (c:Int):decide (c≠0)=(c != 0):=by by_cases h:c=0<;>simp[h]
theorem aOL {k:Int}(hk:1<=k/\k<=9):CB 88 #[.int .i64 k,.int .i64 1,.int .i64 9] (.bool true):=by
 have:=aXS k 1 9
 rwa [dt hk]at this
theorem aVS (k b c d e f:Int)(hk:1<=k/\k<=9)(w:World):Calls prog 139 #[.agg #[.int .i64 k,.int .i64 b,.int .i64 c,.int .i64 d,.int .i64 e,.int .i64 f]] w λe' w'=>e'=.returned (.int .i64 (cmF (k,b,c,d,e,f)))/\Below w.heap.size w w':=by
 have h5:=aOL hk;have h9:=aSy k;have h8:=aSx (k,b,c,d,e,f);have hr:=aHH (b:=b) (c:=c) (d:=d) (e:=e) (f:=f) hk;rcases aMO hk with rfl | rfl | rfl | rfl | rfl | rfl | rfl | rfl | rfl
 ·exact aPH 1 b c d e f _ _ rfl h5 h9 (tV b) _ (zK c) _ (aCK d) _ h8 _ (by rw[hr];unfold fR;simp only[b01,fH,ne0];simp[nd,pI];cases (b != -1&&!pD b)<;>simp[gO]) w
 ·exact aGY 2 b c d e f _ _ rfl h5 h9 (tV b) _ (zK c) _ h8 _ (by rw[hr];unfold fR;simp only[b01,fH,ne0];simp[nd,pI];cases (b != -1&&!pD b)<;>simp[gO]) w
 ·exact aGY 3 b c d e f _ _ rfl h5 h9 (tV b) _ (zK c) _ h8 _ (by rw[hr];unfold fR;simp only[b01,fH,ne0];simp[nd,pI];cases (b != -1&&!pD b)<;>simp[gO]) w
 ·exact aPG 4 b c d e f _ _ rfl h5 h9 (tV b) _ (zK c) _ (by rw[hr];unfold fR;simp only[b01,fH,ne0];simp[nd,pI];cases (b != -1&&!pD b)<;>simp[gO]) w
 ·exact aJu 5 b c d e f _ _ rfl h5 h9 (tV b) _ (aCK d) _ h8 _ (aEA f) _ (by rw[hr];unfold fR;simp only[b01,fH,ne0];simp[nd,pI];cases (b != -1&&!pD b)<;>simp[gO]) w
 ·exact aJu 6 b c d e f _ _ rfl h5 h9 (tV b) _ (aCK d) _ h8 _ (aEA f) _ (by rw[hr];unfold fR;simp only[b01,fH,ne0];simp[nd,pI];cases (b != -1&&!pD b)<;>simp[gO]) w
 ·exact aJt 7 b c d e f _ _ rfl h5 h9 (tV b) _ (zK c) _ (aCK d) _ h8 _ (aEA f) _ (by rw[hr];unfold fR;simp only[b01,fH,ne0];simp[nd,pI];cases (b != -1&&!pD b)<;>simp[gO]) w
 ·exact aJt 8 b c d e f _ _ rfl h5 h9 (tV b) _ (zK c) _ (aCK d) _ h8 _ (aEA f) _ (by rw[hr];unfold fR;simp only[b01,fH,ne0];simp[nd,pI];cases (b != -1&&!pD b)<;>simp[gO]) w
 ·exact aGY 9 b c d e f _ _ rfl h5 h9 (tV b) _ (zK c) _ h8 _ (by rw[hr];unfold fR;simp only[b01,fH,ne0];simp[nd,pI];cases (b != -1&&!pD b)<;>simp[gO]) w
theorem aME:Sat prog cxT 139 (aNG kL):=by
 intro w A0 l us r hA hargs hF;obtain⟨x,t,rfl,hx,rfl⟩:=wI hF;cases hx;rw[show us=[.agg (cV x).toArray] from aSU hargs];obtain⟨k,b,c,d,e,f⟩:=x;have fin:Calls prog 139 #[.agg #[.int .i64 k,.int .i64 b,.int .i64 c,.int .i64 d,.int .i64 e,.int .i64 f]] w λe' w'=>e'=.returned (.int .i64 (cmF (k,b,c,d,e,f)))/\Below w.heap.size w w':=by
  by_cases hk:1<=k/\k<=9
  ·exact aVS k b c d e f hk w
  ·have e':cmF (k,b,c,d,e,f)=1:=if_neg hk;rw[e'];exact aPv k b c d _ f hk w
 exact fin.mono λe' w' ⟨he,hw⟩=>⟨_,he,hw,aGn _⟩
end Go.Proofs.Tryz
