/- A part of the proof of FnExactCopyMail: LiQc, LiQh, LiQi. -/
import Derived.Test.YtalbnpcbmakijaaGreatLiQa
import Derived.Test.YtalbnpcbmakijaaGreatVmCb
import Derived.Test.YtalbnpcbmakijaaGreatLiFi
import Derived.Test.YtalbnpcbmakijaaGreatLiQe
import Derived.Test.YtalbnpcbmakijaaGreatLiQga
import Derived.Test.YtalbnpcbmakijaaGreatLiQgb
import Derived.Test.YtalbnpcbmakijaaGreatLiQgc
import Derived.Test.YtalbnpcbmakijaaGreatLiQgd
import Derived.Test.YtalbnpcbmakijaaGreatLiQge
set_option linter.unusedSimpArgs false
set_option linter.unusedVariables false
set_option maxHeartbeats 0
namespace Go.Proofs.Tryz
open Go Go.VM Go.RowKit
def aEb (x:Int):Bool:=decide (x=0\/x=1)
theorem aQw:Sat prog cxT 228 (aYN λx=>some (aEb x)):=bBq _ λx t h=>by cases h;exact⟨0,aGg⟩
def rS (k n:Int):Bool:=if k=1\/k=2 then aHj n else if k=3 then aIU n else if k=9 then aEb n else tJ n
theorem aLv (x:Int):decide ((0:Int)<=x/\x<=1)=aEb x:=by
 unfold aEb;by_cases h:x=0\/x=1
 ·rw[dt h,dt (by omega)]
 ·rw[df h,df (by omega)]
theorem aQJ:Sat prog cxT 187 (aYW λx=>some (rS x.1 x.2.2.2.2.1)):=bBD _ _ nN aQD _ λx t h=>by
 obtain⟨k,b,c,d,n,p⟩:=x;cases h;refine⟨0,?_⟩;show aKo _ _ 0 k b c d n p=some (rS k n)
 (try unfold aPQ);unfold aKo G187 rS;dsimp only
 simp only[aO];by_cases h1:k=1
 ·subst h1;rfl
 by_cases h2:k=2
 ·subst h2;rfl
 by_cases h3:k=3
 ·subst h3;rfl
 by_cases h9:k=9
 ·subst h9;show some (decide ((0:Int)<=n/\n<=1))=some (aEb n);rw[aLv]
 rw[aIF h1,aIF h2,aIF h3,aIF h9,if_neg (by omega),if_neg h3,if_neg h9]
 rfl
def cmF (x:Cm):Int:=
  if 1<=x.1/\x.1<=9 then
    (bif (x.2.1 != -1&&!rN x.2.1) || ((nd x.1).1&&!wQ x.2.2.1) || ((nd x.1).2.1&&!aB3 x.2.2.2.1) || ((nd x.1).2.2.1&&!rS x.1 x.2.2.2.2.1) || ((nd x.1).2.2.2&&!aB9 x.2.2.2.2.2)then 3
     else bif (!(nd x.1).1&&x.2.2.1 != 0) || (!(nd x.1).2.1&&x.2.2.2.1 != 0) || (!(nd x.1).2.2.1&&x.2.2.2.2.1 != 0) || (!(nd x.1).2.2.2&&x.2.2.2.2.2 != 0)then 1 else 0)
  else 1
theorem aPH (n:Int):CB 191 #[.int .i64 n] (.bool (rN n)):=hU aQG (λ_=>iV [.int .i64 n]) rfl
theorem aYH (n:Int):CB 214 #[.int .i64 n] (.bool (wQ n)):=hU aQC (λ_=>iV [.int .i64 n]) rfl
theorem aYG (n:Int):CB 215 #[.int .i64 n] (.bool (aB3 n)):=hU aQB (λ_=>iV [.int .i64 n]) rfl
theorem aYF (n:Int):CB 216 #[.int .i64 n] (.bool (aHj n)):=hU aQA (λ_=>iV [.int .i64 n]) rfl
theorem aYE (n:Int):CB 219 #[.int .i64 n] (.bool (aIU n)):=hU aQz (λ_=>iV [.int .i64 n]) rfl
theorem aYD (n:Int):CB 222 #[.int .i64 n] (.bool (tJ n)):=hU aQy (λ_=>iV [.int .i64 n]) rfl
theorem aYC (n:Int):CB 223 #[.int .i64 n] (.bool (aB9 n)):=hU aQx (λ_=>iV [.int .i64 n]) rfl
theorem aYB (n:Int):CB 228 #[.int .i64 n] (.bool (aEb n)):=hU aQw (λ_=>iV [.int .i64 n]) rfl
theorem xF (n:Int):CB 184 #[.int .i64 n] (.bool (rN n)):=hU aQM (λ_=>iV [.int .i64 n]) rfl
theorem aBX (n:Int):CB 185 #[.int .i64 n] (.bool (wQ n)):=hU aQL (λ_=>iV [.int .i64 n]) rfl
theorem aE4 (n:Int):CB 186 #[.int .i64 n] (.bool (aB3 n)):=hU aQK (λ_=>iV [.int .i64 n]) rfl
theorem aG9 (n:Int):CB 188 #[.int .i64 n] (.bool (aB9 n)):=hU aQI (λ_=>iV [.int .i64 n]) rfl
theorem bFr (a b c:Int):CB 88 #[.int .i64 a,.int .i64 b,.int .i64 c] (.bool (decide (b<=a/\a<=c))):=hU nN (λ_=>iV [.int .i64 a,.int .i64 b,.int .i64 c]) rfl
def cV (x:Cm):List Value:=[.int .i64 x.1,.int .i64 x.2.1,.int .i64 x.2.2.1,.int .i64 x.2.2.2.1,.int .i64 x.2.2.2.2.1,.int .i64 x.2.2.2.2.2]
theorem aYJ (x:Cm):CB 187 #[.agg (cV x).toArray] (.bool (rS x.1 x.2.2.2.2.1)):=hU aQJ (λ_=>aLh (cV x)) rfl
theorem aYK (k:Int):CB 183 #[.int .i64 k] (.tuple #[.bool (nd k).1,.bool (nd k).2.1,.bool (nd k).2.2.1,.bool (nd k).2.2.2]):=aK6 (vs:=[.bool (nd k).1,.bool (nd k).2.1,.bool (nd k).2.2.1,.bool (nd k).2.2.2]) aQN (λ_=>iV [.int .i64 k]) rfl
theorem aYI {k:Int}(hk:1<=k/\k<=9):CB 192 #[.int .i64 k] (.agg (ruL k).toArray):=aK7 (vs:=ruL k) aQF (λ_=>iV [.int .i64 k]) (if_pos hk)
theorem aAH (n:Int):Rl n (qF 214) (some (wQ n)):=.yes 214 _ (λ_ _=>by kernel_rfl) (aYH n)
theorem aEo (n:Int):Rl n (qF 215) (some (aB3 n)):=.yes 215 _ (λ_ _=>by kernel_rfl) (aYG n)
theorem aNm (n:Int):Rl n (qF 216) (some (aHj n)):=.yes 216 _ (λ_ _=>by kernel_rfl) (aYF n)
theorem aUJ (n:Int):Rl n (qF 219) (some (aIU n)):=.yes 219 _ (λ_ _=>by kernel_rfl) (aYE n)
theorem aGA (n:Int):Rl n (qF 222) (some (tJ n)):=.yes 222 _ (λ_ _=>by kernel_rfl) (aYD n)
theorem aGz (n:Int):Rl n (qF 223) (some (aB9 n)):=.yes 223 _ (λ_ _=>by kernel_rfl) (aYC n)
theorem aUI (n:Int):Rl n (qF 228) (some (aEb n)):=.yes 228 _ (λ_ _=>by kernel_rfl) (aYB n)
def osK (k c d e f:Int):List (Option Bool):=
 if k=1 then[some (wQ c),some (aB3 d),some (aHj e),none]else
 if k=2 then[some (wQ c),none,some (aHj e),none]else
 if k=3 then[some (wQ c),none,some (aIU e),none]else
 if k=4 then[some (wQ c),none,none,none]else
 if k=5\/k=6 then[none,some (aB3 d),some (tJ e),some (aB9 f)]else
 if k=7\/k=8 then[some (wQ c),some (aB3 d),some (tJ e),some (aB9 f)]else
 [some (wQ c),none,some (aEb e),none]
theorem aRn {k:Int}(hk:1<=k/\k<=9):k=1\/k=2\/k=3\/k=4\/k=5\/k=6\/k=7\/k=8\/k=9:=by omega
theorem aUG (k c d e f:Int)(hk:1<=k/\k<=9):∃ r0 r1 r2 r3 fa o0 o1 o2 o3,ruL k=[r0,r1,r2,r3,.func (.func fa) #[] #[]]/\osK k c d e f=[o0,o1,o2,o3]/\Rl c r0 o0/\Rl d r1 o1/\Rl e r2 o2/\Rl f r3 o3:=by
 rcases aRn hk with rfl | rfl | rfl | rfl | rfl | rfl | rfl | rfl | rfl
 ·exact⟨_,_,_,_,_,_,_,_,_,rfl,rfl,aAH c,aEo d,aNm e,.no⟩
 ·exact⟨_,_,_,_,_,_,_,_,_,rfl,rfl,aAH c,.no,aNm e,.no⟩
 ·exact⟨_,_,_,_,_,_,_,_,_,rfl,rfl,aAH c,.no,aUJ e,.no⟩
 ·exact⟨_,_,_,_,_,_,_,_,_,rfl,rfl,aAH c,.no,.no,.no⟩
 ·exact⟨_,_,_,_,_,_,_,_,_,rfl,rfl,.no,aEo d,aGA e,aGz f⟩
 ·exact⟨_,_,_,_,_,_,_,_,_,rfl,rfl,.no,aEo d,aGA e,aGz f⟩
 ·exact⟨_,_,_,_,_,_,_,_,_,rfl,rfl,aAH c,aEo d,aGA e,aGz f⟩
 ·exact⟨_,_,_,_,_,_,_,_,_,rfl,rfl,aAH c,aEo d,aGA e,aGz f⟩
 ·exact⟨_,_,_,_,_,_,_,_,_,rfl,rfl,aAH c,.no,aUI e,.no⟩
def fR (n1 n2 n3 n4 z2 z3 z4 z5:Bool)(c d e f:Int):Int:=
 bif (n1&&!z2) || (n2&&!z3) || (n3&&!z4) || (n4&&!z5)then 3 else bif (!n1&&c != 0) || (!n2&&d != 0) || (!n3&&e != 0) || (!n4&&f != 0)then 1 else 0
theorem aK1 {k b c d e f:Int}(hk:1<=k/\k<=9):cmF (k,b,c,d,e,f)=bif (b != -1&&!rN b)then 3 else fR (nd k).1 (nd k).2.1 (nd k).2.2.1 (nd k).2.2.2 (wQ c) (aB3 d) (rS k e) (aB9 f) c d e f:=by
 unfold cmF fR;rw[if_pos hk];simp only
 generalize (b != -1&&!rN b)=g
 cases g<;>rfl
end Go.Proofs.Tryz
set_option maxHeartbeats 0
namespace Go.Proofs.Tryz
open Go Go.VM Go.RowKit
def vl (o0 o1 o2 o3:Option Bool)(c d e f:Int):Int:=
 bif (o0 == some false) || (o1 == some false) || (o2 == some false) || (o3 == some false)then 3 else bif (o0 == none&&c != 0) || (o1 == none&&d != 0) || (o2 == none&&e != 0) || (o3 == none&&f != 0)then 1 else 0
theorem nsf {o:Option Bool}(h:o≠some false):(o == some false)=false:=by
 rcases o with _ | _ | _
 ·rfl
 ·exact absurd rfl h
 ·rfl
theorem aGB {o0 o1 o2 o3:Option Bool}{c d e f:Int}{en:Ending}(h:aJg [o0,o1,o2,o3] [c,d,e,f] en):en=.returned (.int .i64 (vl o0 o1 o2 o3 c d e f)):=by
 have four:∀ p,p < 4->p=0\/p=1\/p=2\/p=3:=λp h=>by omega
 rcases h with⟨rfl,p,hp,hq⟩ | ⟨h,h2⟩
 ·unfold vl;rcases four p hp with rfl | rfl | rfl | rfl
  ·rw[show o0=some false from hq];simp
  ·rw[show o1=some false from hq];simp
  ·rw[show o2=some false from hq];simp
  ·rw[show o3=some false from hq];simp
 ·have a0:(o0 == some false)=false:=nsf (h 0 (by omega));have a1:(o1 == some false)=false:=nsf (h 1 (by omega));have a2:(o2 == some false)=false:=nsf (h 2 (by omega));have a3:(o3 == some false)=false:=nsf (h 3 (by omega));unfold vl;rw[a0,a1,a2,a3];rcases h2 with⟨rfl,p,hp,hq,hn⟩ | ⟨rfl,hz⟩
  ·rcases four p hp with rfl | rfl | rfl | rfl
   ·rw[show o0=none from hq,show(c != 0)=true from yM hn];simp
   ·rw[show o1=none from hq,show(d != 0)=true from yM hn];simp
   ·rw[show o2=none from hq,show(e != 0)=true from yM hn];simp
   ·rw[show o3=none from hq,show(f != 0)=true from yM hn];simp
  ·have g:∀ (o:Option Bool) (v:Int),(o=none->v=0)->(o == none&&v != 0)=false:=λo v h=>by
    cases o with
    | none=>rw[h rfl];rfl
    | some z=>rfl
   rw[g o0 c (hz 0 (by omega)),g o1 d (hz 1 (by omega)),g o2 e (hz 2 (by omega)),g o3 f (hz 3 (by omega))]
   rfl
theorem aQi {k c d e f:Int}(hk:1<=k/\k<=9){o0 o1 o2 o3:Option Bool}(ho:osK k c d e f=[o0,o1,o2,o3]):vl o0 o1 o2 o3 c d e f=fR (nd k).1 (nd k).2.1 (nd k).2.2.1 (nd k).2.2.2 (wQ c) (aB3 d) (rS k e) (aB9 f) c d e f:=by
 have hs:∀ z:Bool,((some z:Option Bool) == some false)=!z:=λz=>by cases z<;>rfl
 have hn:∀ z:Bool,((some z:Option Bool) == none)=false:=λz=>rfl
 rcases aRn hk with rfl | rfl | rfl | rfl | rfl | rfl | rfl | rfl | rfl<;>cases ho<;>unfold vl fR<;>simp only[hs,hn]<;>simp[nd,rS]
def lY (x:Cm):Option Int:=some (cmF x)
theorem aY7 {w:World}{A0:Nat->Prop}{x:Cm}{us:List Value}(h:ArgAs cxT w A0 (bFw.enc x) us):us=[.agg (cV x).toArray]:=by
 obtain⟨u,rfl,hu⟩:=wP (show ArgAs cxT w A0 [.inr ((cV x).map lv)] us from h);rw[aM8 hu]
theorem aQR:Sat prog cxT 158 (aSq lY):=by
 intro w A0 l us r hA hargs hF;obtain⟨x,t,rfl,hx,rfl⟩:=oY hF;cases hx;rw[aY7 hargs];obtain⟨k,b,c,d,e,f⟩:=x;have fin:Calls prog 158 #[.agg #[.int .i64 k,.int .i64 b,.int .i64 c,.int .i64 d,.int .i64 e,.int .i64 f]] w λe' w'=>e'=.returned (.int .i64 (cmF (k,b,c,d,e,f)))/\Below w.heap.size w w':=by
  by_cases hk:1<=k/\k<=9
  ·rw[aK1 hk];obtain⟨r0,r1,r2,r3,fa,o0,o1,o2,o3,hr,ho,h0,h1,h2,h3⟩:=aUG k c d e f hk;have h111:=aYI hk;rw[hr]at h111;rw[<-aQi hk ho];by_cases hb:b=-1
   ·subst hb;exact(aU2 k c d e f hk r0 r1 r2 r3 _ o0 o1 o2 o3 h0 h1 h2 h3 fa rfl h111 w).mono λe' w' ⟨h,hw⟩=>⟨aGB h,hw⟩
   ·have hb2:(b != -1)=true:=yM hb;rw[hb2,eX];cases hv:rN b with
    | true=>exact(aU1 k b c d e f hk hb (by have:=aPH b;rwa [hv]at this) r0 r1 r2 r3 _ o0 o1 o2 o3 h0 h1 h2 h3 fa rfl h111 w).mono λe' w' ⟨h,hw⟩=>⟨aGB h,hw⟩
    | false=>exact aY5 k b c d e f hk hb (by have:=aPH b;rwa [hv]at this) w
  ·have e:cmF (k,b,c,d,e,f)=1:=if_neg hk;rw[e];exact aUN k b c d _ f hk w
 exact fin.mono λe' w' ⟨he,hw⟩=>⟨_,he,hw,aJf _⟩
end Go.Proofs.Tryz
set_option maxHeartbeats 0
namespace Go.Proofs.Tryz
open Go Go.VM Go.RowKit
theorem b01 (p:Prop)[Decidable p]:(if p then(1:Int)else 0)=bif decide p then 1 else 0:=by by_cases h:p<;>simp[h]
theorem ne0 (c:Int):decide (c≠0)=(c != 0):=by by_cases h:c=0<;>simp[h]
theorem aTN {k:Int}(hk:1<=k/\k<=9):CB 88 #[.int .i64 k,.int .i64 1,.int .i64 9] (.bool true):=by
 have:=bFr k 1 9
 rwa [dt hk]at this
theorem bCI (k b c d e f:Int)(hk:1<=k/\k<=9)(w:World):Calls prog 139 #[.agg #[.int .i64 k,.int .i64 b,.int .i64 c,.int .i64 d,.int .i64 e,.int .i64 f]] w λe' w'=>e'=.returned (.int .i64 (cmF (k,b,c,d,e,f)))/\Below w.heap.size w w':=by
 have h5:=aTN hk;have h9:=aYK k;have h8:=aYJ (k,b,c,d,e,f);have hr:=aK1 (b:=b) (c:=c) (d:=d) (e:=e) (f:=f) hk;rcases aRn hk with rfl | rfl | rfl | rfl | rfl | rfl | rfl | rfl | rfl
 ·exact aU4 1 b c d e f _ _ rfl h5 h9 (xF b) _ (aBX c) _ (aE4 d) _ h8 _ (by rw[hr];unfold fR;simp only[b01,gI,ne0];simp[nd,rS];cases (b != -1&&!rN b)<;>simp[iF]) w
 ·exact aJ1 2 b c d e f _ _ rfl h5 h9 (xF b) _ (aBX c) _ h8 _ (by rw[hr];unfold fR;simp only[b01,gI,ne0];simp[nd,rS];cases (b != -1&&!rN b)<;>simp[iF]) w
 ·exact aJ1 3 b c d e f _ _ rfl h5 h9 (xF b) _ (aBX c) _ h8 _ (by rw[hr];unfold fR;simp only[b01,gI,ne0];simp[nd,rS];cases (b != -1&&!rN b)<;>simp[iF]) w
 ·exact aU3 4 b c d e f _ _ rfl h5 h9 (xF b) _ (aBX c) _ (by rw[hr];unfold fR;simp only[b01,gI,ne0];simp[nd,rS];cases (b != -1&&!rN b)<;>simp[iF]) w
 ·exact aNq 5 b c d e f _ _ rfl h5 h9 (xF b) _ (aE4 d) _ h8 _ (aG9 f) _ (by rw[hr];unfold fR;simp only[b01,gI,ne0];simp[nd,rS];cases (b != -1&&!rN b)<;>simp[iF]) w
 ·exact aNq 6 b c d e f _ _ rfl h5 h9 (xF b) _ (aE4 d) _ h8 _ (aG9 f) _ (by rw[hr];unfold fR;simp only[b01,gI,ne0];simp[nd,rS];cases (b != -1&&!rN b)<;>simp[iF]) w
 ·exact aNp 7 b c d e f _ _ rfl h5 h9 (xF b) _ (aBX c) _ (aE4 d) _ h8 _ (aG9 f) _ (by rw[hr];unfold fR;simp only[b01,gI,ne0];simp[nd,rS];cases (b != -1&&!rN b)<;>simp[iF]) w
 ·exact aNp 8 b c d e f _ _ rfl h5 h9 (xF b) _ (aBX c) _ (aE4 d) _ h8 _ (aG9 f) _ (by rw[hr];unfold fR;simp only[b01,gI,ne0];simp[nd,rS];cases (b != -1&&!rN b)<;>simp[iF]) w
 ·exact aJ1 9 b c d e f _ _ rfl h5 h9 (xF b) _ (aBX c) _ h8 _ (by rw[hr];unfold fR;simp only[b01,gI,ne0];simp[nd,rS];cases (b != -1&&!rN b)<;>simp[iF]) w
theorem aQ5:Sat prog cxT 139 (aSr lY):=by
 intro w A0 l us r hA hargs hF;obtain⟨x,t,rfl,hx,rfl⟩:=oY hF;cases hx;rw[show us=[.agg (cV x).toArray] from aY7 hargs];obtain⟨k,b,c,d,e,f⟩:=x;have fin:Calls prog 139 #[.agg #[.int .i64 k,.int .i64 b,.int .i64 c,.int .i64 d,.int .i64 e,.int .i64 f]] w λe' w'=>e'=.returned (.int .i64 (cmF (k,b,c,d,e,f)))/\Below w.heap.size w w':=by
  by_cases hk:1<=k/\k<=9
  ·exact bCI k b c d e f hk w
  ·have e':cmF (k,b,c,d,e,f)=1:=if_neg hk;rw[e'];exact aUO k b c d _ f hk w
 exact fin.mono λe' w' ⟨he,hw⟩=>⟨_,he,hw,aJf _⟩
end Go.Proofs.Tryz
