/- A part of the proof of FnLogs: LkQc, LkQh, LkQi. -/
import Derived.Test.YtlnabockdjjpbaaGreatLkQa
import Derived.Test.YtlnabockdjjpbaaGreatVmCb
import Derived.Test.YtlnabockdjjpbaaGreatLkFa
import Derived.Test.YtlnabockdjjpbaaGreatLkQe
import Derived.Test.YtlnabockdjjpbaaGreatLkQga
import Derived.Test.YtlnabockdjjpbaaGreatLkQgb
import Derived.Test.YtlnabockdjjpbaaGreatLkQgc
import Derived.Test.YtlnabockdjjpbaaGreatLkQgd
import Derived.Test.YtlnabockdjjpbaaGreatLkQge
set_option linter.unusedSimpArgs false
set_option linter.unusedVariables false
set_option maxHeartbeats 0
namespace Go.Proofs.Tryz
open Go Go.VM Go.RowKit
def aAl (x:Int):Bool:=decide (x=0\/x=1)
theorem aHO:Sat prog bL 68 (c68 λx=>some (aAl x)):=s68 _ λx t h=>by cases h;exact⟨0,aB0⟩
def nR (k n:Int):Bool:=if k=1\/k=2 then aCT n else if k=3 then aDA n else if k=9 then aAl n else pA n
theorem aEN (x:Int):decide ((0:Int)<=x/\x<=1)=aAl x:=by
 unfold aAl;by_cases h:x=0\/x=1
 ·rw[dt h,dt (by omega)]
 ·rw[df h,df (by omega)]
theorem aHW:Sat prog bL 52 (c52 λx=>some (nR x.1 x.2.2.2.2.1)):=s52 _ _ nO aHN _ λx t h=>by
 obtain⟨k,b,c,d,n,p⟩:=x;cases h;refine⟨0,?_⟩;show g52 _ _ 0 k b c d n p=some (nR k n)
 (try unfold w187);unfold g52 G52 nR;dsimp only
 simp only[aX];by_cases h1:k=1
 ·subst h1;rfl
 by_cases h2:k=2
 ·subst h2;rfl
 by_cases h3:k=3
 ·subst h3;rfl
 by_cases h9:k=9
 ·subst h9;show some (decide ((0:Int)<=n/\n<=1))=some (aAl n);rw[aEN]
 rw[aAg h1,aAg h2,aAg h3,aAg h9,if_neg (by omega),if_neg h3,if_neg h9]
 rfl
def cmF (x:Cm):Int:=
  if 1<=x.1/\x.1<=9 then
    (bif (x.2.1 != -1&&!nM x.2.1) || ((nd x.1).1&&!qS x.2.2.1) || ((nd x.1).2.1&&!wF x.2.2.2.1) || ((nd x.1).2.2.1&&!nR x.1 x.2.2.2.2.1) || ((nd x.1).2.2.2&&!wJ x.2.2.2.2.2)then 3
     else bif (!(nd x.1).1&&x.2.2.1 != 0) || (!(nd x.1).2.1&&x.2.2.2.1 != 0) || (!(nd x.1).2.2.1&&x.2.2.2.2.1 != 0) || (!(nd x.1).2.2.2&&x.2.2.2.2.2 != 0)then 1 else 0)
  else 1
theorem aKF (n:Int):CB 46 #[.int .i64 n] (.bool (nM n)):=fJ aH1 (λ_=>fY [.int .i64 n]) rfl
theorem aNf (n:Int):CB 54 #[.int .i64 n] (.bool (qS n)):=fJ aHU (λ_=>fY [.int .i64 n]) rfl
theorem aNe (n:Int):CB 55 #[.int .i64 n] (.bool (wF n)):=fJ aHT (λ_=>fY [.int .i64 n]) rfl
theorem aNd (n:Int):CB 56 #[.int .i64 n] (.bool (aCT n)):=fJ aHS (λ_=>fY [.int .i64 n]) rfl
theorem aNc (n:Int):CB 59 #[.int .i64 n] (.bool (aDA n)):=fJ aHR (λ_=>fY [.int .i64 n]) rfl
theorem aNb (n:Int):CB 62 #[.int .i64 n] (.bool (pA n)):=fJ aHQ (λ_=>fY [.int .i64 n]) rfl
theorem aNa (n:Int):CB 63 #[.int .i64 n] (.bool (wJ n)):=fJ aHP (λ_=>fY [.int .i64 n]) rfl
theorem aM9 (n:Int):CB 68 #[.int .i64 n] (.bool (aAl n)):=fJ aHO (λ_=>fY [.int .i64 n]) rfl
theorem aAc (n:Int):CB 49 #[.int .i64 n] (.bool (nM n)):=fJ aHZ (λ_=>fY [.int .i64 n]) rfl
theorem aBZ (n:Int):CB 50 #[.int .i64 n] (.bool (qS n)):=fJ aHY (λ_=>fY [.int .i64 n]) rfl
theorem aEw (n:Int):CB 51 #[.int .i64 n] (.bool (wF n)):=fJ aHX (λ_=>fY [.int .i64 n]) rfl
theorem aFz (n:Int):CB 53 #[.int .i64 n] (.bool (wJ n)):=fJ aHV (λ_=>fY [.int .i64 n]) rfl
theorem aNj (a b c:Int):CB 18 #[.int .i64 a,.int .i64 b,.int .i64 c] (.bool (decide (b<=a/\a<=c))):=fJ nO (λ_=>fY [.int .i64 a,.int .i64 b,.int .i64 c]) rfl
def cV (x:Cm):List Value:=[.int .i64 x.1,.int .i64 x.2.1,.int .i64 x.2.2.1,.int .i64 x.2.2.2.1,.int .i64 x.2.2.2.2.1,.int .i64 x.2.2.2.2.2]
theorem aNg (x:Cm):CB 52 #[.agg (cV x).toArray] (.bool (nR x.1 x.2.2.2.2.1)):=fJ aHW (λ_=>aEG (cV x)) rfl
theorem aNi (k:Int):CB 43 #[.int .i64 k] (.tuple #[.bool (nd k).1,.bool (nd k).2.1,.bool (nd k).2.2.1,.bool (nd k).2.2.2]):=aEx (vs:=[.bool (nd k).1,.bool (nd k).2.1,.bool (nd k).2.2.1,.bool (nd k).2.2.2]) aFM (λ_=>fY [.int .i64 k]) rfl
theorem aNh {k:Int}(hk:1<=k/\k<=9):CB 47 #[.int .i64 k] (.agg (ruL k).toArray):=aEy (vs:=ruL k) aH0 (λ_=>fY [.int .i64 k]) (if_pos hk)
theorem aBs (n:Int):Rl n (lY 54) (some (qS n)):=.yes 54 _ (λ_ _=>by kernel_rfl) (aNf n)
theorem aDH (n:Int):Rl n (lY 55) (some (wF n)):=.yes 55 _ (λ_ _=>by kernel_rfl) (aNe n)
theorem aIs (n:Int):Rl n (lY 56) (some (aCT n)):=.yes 56 _ (λ_ _=>by kernel_rfl) (aNd n)
theorem aLU (n:Int):Rl n (lY 59) (some (aDA n)):=.yes 59 _ (λ_ _=>by kernel_rfl) (aNc n)
theorem aE0 (n:Int):Rl n (lY 62) (some (pA n)):=.yes 62 _ (λ_ _=>by kernel_rfl) (aNb n)
theorem aEZ (n:Int):Rl n (lY 63) (some (wJ n)):=.yes 63 _ (λ_ _=>by kernel_rfl) (aNa n)
theorem aLT (n:Int):Rl n (lY 68) (some (aAl n)):=.yes 68 _ (λ_ _=>by kernel_rfl) (aM9 n)
def osK (k c d e f:Int):List (Option Bool):=
 if k=1 then[some (qS c),some (wF d),some (aCT e),none]else
 if k=2 then[some (qS c),none,some (aCT e),none]else
 if k=3 then[some (qS c),none,some (aDA e),none]else
 if k=4 then[some (qS c),none,none,none]else
 if k=5\/k=6 then[none,some (wF d),some (pA e),some (wJ f)]else
 if k=7\/k=8 then[some (qS c),some (wF d),some (pA e),some (wJ f)]else
 [some (qS c),none,some (aAl e),none]
theorem aGs {k:Int}(hk:1<=k/\k<=9):k=1\/k=2\/k=3\/k=4\/k=5\/k=6\/k=7\/k=8\/k=9:=by omega
theorem aIq (k c d e f:Int)(hk:1<=k/\k<=9):∃ r0 r1 r2 r3 fa o0 o1 o2 o3,ruL k=[r0,r1,r2,r3,.func (.func fa) #[] #[]]/\osK k c d e f=[o0,o1,o2,o3]/\Rl c r0 o0/\Rl d r1 o1/\Rl e r2 o2/\Rl f r3 o3:=by
 rcases aGs hk with rfl | rfl | rfl | rfl | rfl | rfl | rfl | rfl | rfl
 ·exact⟨_,_,_,_,_,_,_,_,_,rfl,rfl,aBs c,aDH d,aIs e,.no⟩
 ·exact⟨_,_,_,_,_,_,_,_,_,rfl,rfl,aBs c,.no,aIs e,.no⟩
 ·exact⟨_,_,_,_,_,_,_,_,_,rfl,rfl,aBs c,.no,aLU e,.no⟩
 ·exact⟨_,_,_,_,_,_,_,_,_,rfl,rfl,aBs c,.no,.no,.no⟩
 ·exact⟨_,_,_,_,_,_,_,_,_,rfl,rfl,.no,aDH d,aE0 e,aEZ f⟩
 ·exact⟨_,_,_,_,_,_,_,_,_,rfl,rfl,.no,aDH d,aE0 e,aEZ f⟩
 ·exact⟨_,_,_,_,_,_,_,_,_,rfl,rfl,aBs c,aDH d,aE0 e,aEZ f⟩
 ·exact⟨_,_,_,_,_,_,_,_,_,rfl,rfl,aBs c,aDH d,aE0 e,aEZ f⟩
 ·exact⟨_,_,_,_,_,_,_,_,_,rfl,rfl,aBs c,.no,aLT e,.no⟩
def fR (n1 n2 n3 n4 z2 z3 z4 z5:Bool)(c d e f:Int):Int:=
 bif (n1&&!z2) || (n2&&!z3) || (n3&&!z4) || (n4&&!z5)then 3 else bif (!n1&&c != 0) || (!n2&&d != 0) || (!n3&&e != 0) || (!n4&&f != 0)then 1 else 0
theorem aEt {k b c d e f:Int}(hk:1<=k/\k<=9):cmF (k,b,c,d,e,f)=bif (b != -1&&!nM b)then 3 else fR (nd k).1 (nd k).2.1 (nd k).2.2.1 (nd k).2.2.2 (qS c) (wF d) (nR k e) (wJ f) c d e f:=by
 unfold cmF fR;rw[if_pos hk];simp only
 generalize (b != -1&&!nM b)=g
 cases g<;>rfl
end Go.Proofs.Tryz
set_option maxHeartbeats 0
namespace Go.Proofs.Tryz
open Go Go.VM Go.RowKit
def vl (o0 o1 o2 o3:Option Bool)(c d e f:Int):Int:=
 bif (o0 == some false) || (o1 == some false) || (o2 == some false) || (o3 == some false)then 3 else bif (o0 == none&&c != 0) || (o1 == none&&d != 0) || (o2 == none&&e != 0) || (o3 == none&&f != 0)then 1 else 0
theorem nsf {o:Option Bool}(h:o≠some false):(o == some false)=false:=by
 rcases o with _ | _ | _
 ·rfl
 ·exact absurd rfl h
 ·rfl
theorem aCe {o0 o1 o2 o3:Option Bool}{c d e f:Int}{en:Ending}(h:aDJ [o0,o1,o2,o3] [c,d,e,f] en):en=.returned (.int .i64 (vl o0 o1 o2 o3 c d e f)):=by
 have four:∀ p,p < 4->p=0\/p=1\/p=2\/p=3:=λp h=>by omega
 rcases h with⟨rfl,p,hp,hq⟩ | ⟨h,h2⟩
 ·unfold vl;rcases four p hp with rfl | rfl | rfl | rfl
  ·rw[show o0=some false from hq];simp
  ·rw[show o1=some false from hq];simp
  ·rw[show o2=some false from hq];simp
  ·rw[show o3=some false from hq];simp
 ·have a0:(o0 == some false)=false:=nsf (h 0 (by omega));have a1:(o1 == some false)=false:=nsf (h 1 (by omega));have a2:(o2 == some false)=false:=nsf (h 2 (by omega));have a3:(o3 == some false)=false:=nsf (h 3 (by omega));unfold vl;rw[a0,a1,a2,a3];rcases h2 with⟨rfl,p,hp,hq,hn⟩ | ⟨rfl,hz⟩
  ·rcases four p hp with rfl | rfl | rfl | rfl
   ·rw[show o0=none from hq,show(c != 0)=true from oI hn];simp
   ·rw[show o1=none from hq,show(d != 0)=true from oI hn];simp
   ·rw[show o2=none from hq,show(e != 0)=true from oI hn];simp
   ·rw[show o3=none from hq,show(f != 0)=true from oI hn];simp
  ·have g:∀ (o:Option Bool) (v:Int),(o=none->v=0)->(o == none&&v != 0)=false:=λo v h=>by
    cases o with
    | none=>rw[h rfl];rfl
    | some z=>rfl
   rw[g o0 c (hz 0 (by omega)),g o1 d (hz 1 (by omega)),g o2 e (hz 2 (by omega)),g o3 f (hz 3 (by omega))]
   rfl
theorem aGd {k c d e f:Int}(hk:1<=k/\k<=9){o0 o1 o2 o3:Option Bool}(ho:osK k c d e f=[o0,o1,o2,o3]):vl o0 o1 o2 o3 c d e f=fR (nd k).1 (nd k).2.1 (nd k).2.2.1 (nd k).2.2.2 (qS c) (wF d) (nR k e) (wJ f) c d e f:=by
 have hs:∀ z:Bool,((some z:Option Bool) == some false)=!z:=λz=>by cases z<;>rfl
 have hn:∀ z:Bool,((some z:Option Bool) == none)=false:=λz=>rfl
 rcases aGs hk with rfl | rfl | rfl | rfl | rfl | rfl | rfl | rfl | rfl<;>cases ho<;>unfold vl fR<;>simp only[hs,hn]<;>simp[nd,nR]
def sF (x:Cm):Option Int:=some (cmF x)
theorem aKJ {w:World}{A0:Nat->Prop}{x:Cm}{us:List Value}(h:ArgAs bL w A0 (a42.enc x) us):us=[.agg (cV x).toArray]:=by
 obtain⟨u,rfl,hu⟩:=aCt (show ArgAs bL w A0 [.inr ((cV x).map lv)] us from h);rw[aFI hu]
theorem aH4:Sat prog bL 42 (c42 sF):=by
 intro w A0 l us r hA hargs hF;obtain⟨x,t,rfl,hx,rfl⟩:=oU hF;cases hx;rw[aKJ hargs];obtain⟨k,b,c,d,e,f⟩:=x;have fin:Calls prog 42 #[.agg #[.int .i64 k,.int .i64 b,.int .i64 c,.int .i64 d,.int .i64 e,.int .i64 f]] w λe' w'=>e'=.returned (.int .i64 (cmF (k,b,c,d,e,f)))/\Below w.heap.size w w':=by
  by_cases hk:1<=k/\k<=9
  ·rw[aEt hk];obtain⟨r0,r1,r2,r3,fa,o0,o1,o2,o3,hr,ho,h0,h1,h2,h3⟩:=aIq k c d e f hk;have h111:=aNh hk;rw[hr]at h111;rw[<-aGd hk ho];by_cases hb:b=-1
   ·subst hb;exact(aIA k c d e f hk r0 r1 r2 r3 _ o0 o1 o2 o3 h0 h1 h2 h3 fa rfl h111 w).mono λe' w' ⟨h,hw⟩=>⟨aCe h,hw⟩
   ·have hb2:(b != -1)=true:=oI hb;rw[hb2,iR];cases hv:nM b with
    | true=>exact(aIz k b c d e f hk hb (by have:=aKF b;rwa [hv]at this) r0 r1 r2 r3 _ o0 o1 o2 o3 h0 h1 h2 h3 fa rfl h111 w).mono λe' w' ⟨h,hw⟩=>⟨aCe h,hw⟩
    | false=>exact aKH k b c d e f hk hb (by have:=aKF b;rwa [hv]at this) w
  ·have e:cmF (k,b,c,d,e,f)=1:=if_neg hk;rw[e];exact aIt k b c d _ f hk w
 exact fin.mono λe' w' ⟨he,hw⟩=>⟨_,he,hw,aDI _⟩
end Go.Proofs.Tryz
set_option maxHeartbeats 0
namespace Go.Proofs.Tryz
open Go Go.VM Go.RowKit
theorem b01 (p:Prop)[Decidable p]:(if p then(1:Int)else 0)=bif decide p then 1 else 0:=by by_cases h:p<;>simp[h]
theorem ne0 (c:Int):decide (c≠0)=(c != 0):=by by_cases h:c=0<;>simp[h]
theorem aHG {k:Int}(hk:1<=k/\k<=9):CB 18 #[.int .i64 k,.int .i64 1,.int .i64 9] (.bool true):=by
 have:=aNj k 1 9
 rwa [dt hk]at this
theorem aL3 (k b c d e f:Int)(hk:1<=k/\k<=9)(w:World):Calls prog 45 #[.agg #[.int .i64 k,.int .i64 b,.int .i64 c,.int .i64 d,.int .i64 e,.int .i64 f]] w λe' w'=>e'=.returned (.int .i64 (cmF (k,b,c,d,e,f)))/\Below w.heap.size w w':=by
 have h5:=aHG hk;have h9:=aNi k;have h8:=aNg (k,b,c,d,e,f);have hr:=aEt (b:=b) (c:=c) (d:=d) (e:=e) (f:=f) hk;rcases aGs hk with rfl | rfl | rfl | rfl | rfl | rfl | rfl | rfl | rfl
 ·exact aIC 1 b c d e f _ _ rfl h5 h9 (aAc b) _ (aBZ c) _ (aEw d) _ h8 _ (by rw[hr];unfold fR;simp only[b01,fC,ne0];simp[nd,nR];cases (b != -1&&!nM b)<;>simp[fN]) w
 ·exact aD9 2 b c d e f _ _ rfl h5 h9 (aAc b) _ (aBZ c) _ h8 _ (by rw[hr];unfold fR;simp only[b01,fC,ne0];simp[nd,nR];cases (b != -1&&!nM b)<;>simp[fN]) w
 ·exact aD9 3 b c d e f _ _ rfl h5 h9 (aAc b) _ (aBZ c) _ h8 _ (by rw[hr];unfold fR;simp only[b01,fC,ne0];simp[nd,nR];cases (b != -1&&!nM b)<;>simp[fN]) w
 ·exact aIB 4 b c d e f _ _ rfl h5 h9 (aAc b) _ (aBZ c) _ (by rw[hr];unfold fR;simp only[b01,fC,ne0];simp[nd,nR];cases (b != -1&&!nM b)<;>simp[fN]) w
 ·exact aFZ 5 b c d e f _ _ rfl h5 h9 (aAc b) _ (aEw d) _ h8 _ (aFz f) _ (by rw[hr];unfold fR;simp only[b01,fC,ne0];simp[nd,nR];cases (b != -1&&!nM b)<;>simp[fN]) w
 ·exact aFZ 6 b c d e f _ _ rfl h5 h9 (aAc b) _ (aEw d) _ h8 _ (aFz f) _ (by rw[hr];unfold fR;simp only[b01,fC,ne0];simp[nd,nR];cases (b != -1&&!nM b)<;>simp[fN]) w
 ·exact aFY 7 b c d e f _ _ rfl h5 h9 (aAc b) _ (aBZ c) _ (aEw d) _ h8 _ (aFz f) _ (by rw[hr];unfold fR;simp only[b01,fC,ne0];simp[nd,nR];cases (b != -1&&!nM b)<;>simp[fN]) w
 ·exact aFY 8 b c d e f _ _ rfl h5 h9 (aAc b) _ (aBZ c) _ (aEw d) _ h8 _ (aFz f) _ (by rw[hr];unfold fR;simp only[b01,fC,ne0];simp[nd,nR];cases (b != -1&&!nM b)<;>simp[fN]) w
 ·exact aD9 9 b c d e f _ _ rfl h5 h9 (aAc b) _ (aBZ c) _ h8 _ (by rw[hr];unfold fR;simp only[b01,fC,ne0];simp[nd,nR];cases (b != -1&&!nM b)<;>simp[fN]) w
theorem aH2:Sat prog bL 45 (c45 sF):=by
 intro w A0 l us r hA hargs hF;obtain⟨x,t,rfl,hx,rfl⟩:=oU hF;cases hx;rw[show us=[.agg (cV x).toArray] from aKJ hargs];obtain⟨k,b,c,d,e,f⟩:=x;have fin:Calls prog 45 #[.agg #[.int .i64 k,.int .i64 b,.int .i64 c,.int .i64 d,.int .i64 e,.int .i64 f]] w λe' w'=>e'=.returned (.int .i64 (cmF (k,b,c,d,e,f)))/\Below w.heap.size w w':=by
  by_cases hk:1<=k/\k<=9
  ·exact aL3 k b c d e f hk w
  ·have e':cmF (k,b,c,d,e,f)=1:=if_neg hk;rw[e'];exact aIu k b c d _ f hk w
 exact fin.mono λe' w' ⟨he,hw⟩=>⟨_,he,hw,aDI _⟩
end Go.Proofs.Tryz
