/- A part of the proof of FnExactApplyCmd: LpQh, LpQi, LpMa, LpMb, LpKc, LpMc, LpFe. -/
import Derived.Test.YtfncedbejffggaaGreatLpQgb
import Derived.Test.YtfncedbejffggaaGreatLpJc
import Derived.Test.YtfncedbejffggaaGreatLpLd
import Derived.Test.YtfncedbejffggaaGreatLpPa
import Derived.Test.YtfncedbejffggaaGreatLpJa
import Derived.Deep.Cut
import Derived.Deep.DeepCutAuto
import Derived.Test.YtfncedbejffggaaGreatLpFb
set_option linter.unusedSimpArgs false
set_option linter.unusedVariables false
set_option maxHeartbeats 0
namespace Go.Proofs.Tryz
open Go.IntKind (wrap)
open Go Go.VM Go.RowKit
def vl (o0 o1 o2 o3:Option Bool)(c d e f:Int):Int:=
 bif (o0 == some false) || (o1 == some false) || (o2 == some false) || (o3 == some false)then 3 else bif (o0 == none&&c != 0) || (o1 == none&&d != 0) || (o2 == none&&e != 0) || (o3 == none&&f != 0)then 1 else 0
theorem nsf {o:Option Bool}(h:o≠some false):(o == some false)=false:=by
 rcases o with _ | _ | _
 ·rfl
 ·exact absurd rfl h
 ·rfl
theorem aFC {o0 o1 o2 o3:Option Bool}{c d e f:Int}{en:Ending}(h:aHU [o0,o1,o2,o3] [c,d,e,f] en):en=.returned (.int .i64 (vl o0 o1 o2 o3 c d e f)):=by
 have four:∀ p,p < 4->p=0\/p=1\/p=2\/p=3:=λp h=>by omega
 rcases h with⟨rfl,p,hp,hq⟩ | ⟨h,h2⟩
 ·unfold vl;rcases four p hp with rfl | rfl | rfl | rfl
  ·rw[show o0=some false from hq];simp
  ·rw[show o1=some false from hq];simp
  ·rw[show o2=some false from hq];simp
  ·rw[show o3=some false from hq];simp
 ·have a0:(o0 == some false)=false:=nsf (h 0 (by omega));have a1:(o1 == some false)=false:=nsf (h 1 (by omega));have a2:(o2 == some false)=false:=nsf (h 2 (by omega));have a3:(o3 == some false)=false:=nsf (h 3 (by omega));unfold vl;rw[a0,a1,a2,a3];rcases h2 with⟨rfl,p,hp,hq,hn⟩ | ⟨rfl,hz⟩
  ·rcases four p hp with rfl | rfl | rfl | rfl
   ·rw[show o0=none from hq,show(c != 0)=true from wL hn];simp
   ·rw[show o1=none from hq,show(d != 0)=true from wL hn];simp
   ·rw[show o2=none from hq,show(e != 0)=true from wL hn];simp
   ·rw[show o3=none from hq,show(f != 0)=true from wL hn];simp
  ·have g:∀ (o:Option Bool) (v:Int),(o=none->v=0)->(o == none&&v != 0)=false:=λo v h=>by
    cases o with
    | none=>rw[h rfl];rfl
    | some z=>rfl
   rw[g o0 c (hz 0 (by omega)),g o1 d (hz 1 (by omega)),g o2 e (hz 2 (by omega)),g o3 f (hz 3 (by omega))]
   rfl
theorem aMm {k c d e f:Int}(hk:1<=k/\k<=9){o0 o1 o2 o3:Option Bool}(ho:osK k c d e f=[o0,o1,o2,o3]):vl o0 o1 o2 o3 c d e f=fR (nd k).1 (nd k).2.1 (nd k).2.2.1 (nd k).2.2.2 (pH c) (oG d) (qR k e) (uO f) c d e f:=by
 have hs:∀ z:Bool,((some z:Option Bool) == some false)=!z:=λz=>by cases z<;>rfl
 have hn:∀ z:Bool,((some z:Option Bool) == none)=false:=λz=>rfl
 rcases aMG hk with rfl | rfl | rfl | rfl | rfl | rfl | rfl | rfl | rfl<;>cases ho<;>unfold vl fR<;>simp only[hs,hn]<;>simp[nd,qR]
def m22 (x:Cm):Option Int:=some (cmF x)
theorem aTP {w:World}{A0:Nat->Prop}{x:Cm}{us:List Value}(h:ArgAs cxT w A0 (a22.enc x) us):us=[.agg (cV x).toArray]:=by
 obtain⟨u,rfl,hu⟩:=aJR (show ArgAs cxT w A0 [.inr ((cV x).map lv)] us from h);rw[aGm hu]
theorem aQx:Sat prog cxT 22 (c22 m22):=by
 intro w A0 l us r hA hargs hF;obtain⟨x,t,rfl,hx,rfl⟩:=sG hF;cases hx;rw[aTP hargs];obtain⟨k,b,c,d,e,f⟩:=x;have fin:Calls prog 22 #[.agg #[.int .i64 k,.int .i64 b,.int .i64 c,.int .i64 d,.int .i64 e,.int .i64 f]] w λe' w'=>e'=.returned (.int .i64 (cmF (k,b,c,d,e,f)))/\Below w.heap.size w w':=by
  by_cases hk:1<=k/\k<=9
  ·rw[aIS hk];obtain⟨r0,r1,r2,r3,fa,o0,o1,o2,o3,hr,ho,h0,h1,h2,h3⟩:=aQH k c d e f hk;have h111:=aTt hk;rw[hr]at h111;rw[<-aMm hk ho];by_cases hb:b=-1
   ·subst hb;exact(aRL k c d e f hk r0 r1 r2 r3 _ o0 o1 o2 o3 h0 h1 h2 h3 fa rfl h111 w).mono λe' w' ⟨h,hw⟩=>⟨aFC h,hw⟩
   ·have hb2:(b != -1)=true:=wL hb;rw[hb2,iJ];cases hv:nD b with
    | true=>exact(aRK k b c d e f hk hb (by have:=aTs b;rwa [hv]at this) r0 r1 r2 r3 _ o0 o1 o2 o3 h0 h1 h2 h3 fa rfl h111 w).mono λe' w' ⟨h,hw⟩=>⟨aFC h,hw⟩
    | false=>exact aTB k b c d e f hk hb (by have:=aTs b;rwa [hv]at this) w
  ·have e:cmF (k,b,c,d,e,f)=1:=if_neg hk;rw[e];exact aRm k b c d _ f hk w
 exact fin.mono λe' w' ⟨he,hw⟩=>⟨_,he,hw,aHT _⟩
theorem b01 (p:Prop)[Decidable p]:(if p then(1:Int)else 0)=bif decide p then 1 else 0:=by by_cases h:p<;>simp[h]
theorem ne0 (c:Int):decide (c≠0)=(c != 0):=by by_cases h:c=0<;>simp[h]
theorem aPc {k:Int}(hk:1<=k/\k<=9):CB 34 #[.int .i64 k,.int .i64 1,.int .i64 9] (.bool true):=by
 have:=aXu k 1 9
 rwa [dt hk]at this
theorem aVE (k b c d e f:Int)(hk:1<=k/\k<=9)(w:World):Calls prog 17 #[.agg #[.int .i64 k,.int .i64 b,.int .i64 c,.int .i64 d,.int .i64 e,.int .i64 f]] w λe' w'=>e'=.returned (.int .i64 (cmF (k,b,c,d,e,f)))/\Below w.heap.size w w':=by
 have h5:=aPc hk;have h9:=aXt k;have h8:=aXs (k,b,c,d,e,f);have hr:=aIS (b:=b) (c:=c) (d:=d) (e:=e) (f:=f) hk;rcases aMG hk with rfl | rfl | rfl | rfl | rfl | rfl | rfl | rfl | rfl
 ·exact aRN 1 b c d e f _ _ rfl h5 h9 (aC9 b) _ (aFk c) _ (aIV d) _ h8 _ (by rw[hr];unfold fR;simp only[b01,gW,ne0];simp[nd,qR];cases (b != -1&&!nD b)<;>simp[iK]) w
 ·exact aIt 2 b c d e f _ _ rfl h5 h9 (aC9 b) _ (aFk c) _ h8 _ (by rw[hr];unfold fR;simp only[b01,gW,ne0];simp[nd,qR];cases (b != -1&&!nD b)<;>simp[iK]) w
 ·exact aIt 3 b c d e f _ _ rfl h5 h9 (aC9 b) _ (aFk c) _ h8 _ (by rw[hr];unfold fR;simp only[b01,gW,ne0];simp[nd,qR];cases (b != -1&&!nD b)<;>simp[iK]) w
 ·exact aRM 4 b c d e f _ _ rfl h5 h9 (aC9 b) _ (aFk c) _ (by rw[hr];unfold fR;simp only[b01,gW,ne0];simp[nd,qR];cases (b != -1&&!nD b)<;>simp[iK]) w
 ·exact aLu 5 b c d e f _ _ rfl h5 h9 (aC9 b) _ (aIV d) _ h8 _ (aKt f) _ (by rw[hr];unfold fR;simp only[b01,gW,ne0];simp[nd,qR];cases (b != -1&&!nD b)<;>simp[iK]) w
 ·exact aLu 6 b c d e f _ _ rfl h5 h9 (aC9 b) _ (aIV d) _ h8 _ (aKt f) _ (by rw[hr];unfold fR;simp only[b01,gW,ne0];simp[nd,qR];cases (b != -1&&!nD b)<;>simp[iK]) w
 ·exact aLt 7 b c d e f _ _ rfl h5 h9 (aC9 b) _ (aFk c) _ (aIV d) _ h8 _ (aKt f) _ (by rw[hr];unfold fR;simp only[b01,gW,ne0];simp[nd,qR];cases (b != -1&&!nD b)<;>simp[iK]) w
 ·exact aLt 8 b c d e f _ _ rfl h5 h9 (aC9 b) _ (aFk c) _ (aIV d) _ h8 _ (aKt f) _ (by rw[hr];unfold fR;simp only[b01,gW,ne0];simp[nd,qR];cases (b != -1&&!nD b)<;>simp[iK]) w
 ·exact aIt 9 b c d e f _ _ rfl h5 h9 (aC9 b) _ (aFk c) _ h8 _ (by rw[hr];unfold fR;simp only[b01,gW,ne0];simp[nd,qR];cases (b != -1&&!nD b)<;>simp[iK]) w
theorem aQB:Sat prog cxT 17 (c17 m22):=by
 intro w A0 l us r hA hargs hF;obtain⟨x,t,rfl,hx,rfl⟩:=sG hF;cases hx;rw[show us=[.agg (cV x).toArray] from aTP hargs];obtain⟨k,b,c,d,e,f⟩:=x;have fin:Calls prog 17 #[.agg #[.int .i64 k,.int .i64 b,.int .i64 c,.int .i64 d,.int .i64 e,.int .i64 f]] w λe' w'=>e'=.returned (.int .i64 (cmF (k,b,c,d,e,f)))/\Below w.heap.size w w':=by
  by_cases hk:1<=k/\k<=9
  ·exact aVE k b c d e f hk w
  ·have e':cmF (k,b,c,d,e,f)=1:=if_neg hk;rw[e'];exact aRn k b c d _ f hk w
 exact fin.mono λe' w' ⟨he,hw⟩=>⟨_,he,hw,aHT _⟩
def jY (s1 s2:Value)(ss:List Value):List Nat:=ob s1++(ob s2++ss.flatMap ob)
structure Hold (W:World) (g:Nat) (c:Cg) (s1 s2:Value) (ss:List Value) (t:TypeId:=32):Prop where
 box:W.heap[g]?=some (.cells #[.int .i64 c.1,s1,s2] t (0,0))
 r1:W.ownsRow 0 68 5 s1 c.2.1.length (c.2.1.flatMap oY)
 r2:W.ownsRow 0 76 4 s2 c.2.2.length (kJ c.2.2 ss)
 inn:Inn W c.2.2 ss
 nd:(jY s1 s2 ss).Nodup
 ne:∀ b∈jY s1 s2 ss,b≠g
theorem Hold.lt {W:World}{g:Nat}{c:Cg}{s1 s2:Value}{ss:List Value}(h:Hold W g c s1 s2 ss):∀ b∈jY s1 s2 ss,b < W.heap.size:=λb hb=>by
 unfold jY at hb;rcases aA.1 hb with hb | hb
 ·exact gA h.r1 (by simpa[ob]using hb)
 ·rcases aA.1 hb with hb | hb
  ·exact gA h.r2 (by simpa[ob]using hb)
  ·exact h.inn.lt b hb
theorem Hold.glt {W:World}{g:Nat}{c:Cg}{s1 s2:Value}{ss:List Value}(h:Hold W g c s1 s2 ss):g < W.heap.size:=(aL.1 h.box).1
theorem xN {s1 s2:Value}{ss:List Value}{b:Nat}(h:s1.ownBlock=some b):b∈jY s1 s2 ss:=by simp[jY,ob,h]
theorem aDS {s1 s2:Value}{ss:List Value}{b:Nat}(h:s2.ownBlock=some b):b∈jY s1 s2 ss:=by simp[jY,ob,h]
theorem sO {s1 s2:Value}{ss:List Value}{b:Nat}(h:b∈ss.flatMap ob):b∈jY s1 s2 ss:=by
 unfold jY;exact aA.2 (.inr (aA.2 (.inr h)))
theorem Hold.keep {W W':World}{g:Nat}{c:Cg}{s1 s2:Value}{ss:List Value}(h:Hold W g c s1 s2 ss)(hw:∀ b,b=g\/b∈jY s1 s2 ss->W'.heap[b]?=W.heap[b]?):Hold W' g c s1 s2 ss:=
 ⟨(hw g (.inl rfl)).trans h.box,fM h.r1 λb hb=>hw b (.inr (xN hb)),fM h.r2 λb hb=>hw b (.inr (aDS hb)),h.inn.keep λb hb=>hw b (.inr (sO hb)),h.nd,h.ne⟩
theorem Hold.below {W W':World}{g:Nat}{c:Cg}{s1 s2:Value}{ss:List Value}(h:Hold W g c s1 s2 ss)(hw:Below W.heap.size W W'):Hold W' g c s1 s2 ss:=
 h.keep λb hb=>hw.block b (by rcases hb with rfl | hb;exact h.glt;exact h.lt b hb)
def AppOk (f:Nat)(m:Cg×Cm->Option (Int×Cg)):Prop:=
 ∀ (w:World) (g:Nat) (c:Cg) (s1 s2:Value) (ss:List Value) (x:Cm) (r:Int) (c':Cg),Hold w g c s1 s2 ss->m (c,x)=some (r,c')->
  Calls prog f #[.pointer (some ⟨g,0,none⟩),.agg (cV x).toArray] w λe w'=>e=.returned (.int .i64 r)/\∃ s1' s2' ss' t',Hold w' g c' s1' s2' ss' t' ∧
   Kept (λb=>w.heap.size<=b\/b∈jY s1 s2 ss\/b=g) w w'/\∀ b∈jY s1' s2' ss',w.heap.size<=b\/b∈jY s1 s2 ss
theorem eS {W:World}{B e K n:Nat}{s:Value}{xs:List Value}(h:W.ownsRow B e K s n xs):∃ q cap,s=.slice q n cap:=by
 rcases h.2 with⟨rfl,rfl⟩ | ⟨g,cap,cur,rfl,_⟩
 ·exact⟨_,_,rfl⟩
 ·exact⟨_,_,rfl⟩
theorem zM {w:World}{b k:Nat}{cur:Array Value}{t:TypeId}{u:Value}(h:w.heap[b]?=some (.cells cur t (0,0))):(w.setCell ⟨b,k,none⟩ u).heap[b]?=some (.cells (cur.setIfInBounds k u) t (0,0)):=by
 have hlt:=(aL.1 h).1;have h':w.heap[b]=.cells cur t (0,0):=(aL.1 h).2;show(w.heap.modify b _)[b]?=_;rw[gI (by simpa using hlt),Array.getElem_modify_self,h']
 rfl
theorem aFO {W:World}{e K n k gb cap:Nat}{xs:List Value}{u:Value}(h:W.ownsRow 0 e K (.slice (some ⟨gb,0,none⟩) n cap) n xs):(W.setCell ⟨gb,k,none⟩ u).ownsRow 0 e K (.slice (some ⟨gb,0,none⟩) n cap) n (xs.set k u):=by
 refine⟨by rw[bW];exact h.1,.inr ?_⟩;rcases h.2 with⟨h0,_⟩ | ⟨g,cp,cur,h0,hB,hg,hn,hm,hs,ht⟩
 ·cases h0
 ·cases h0;refine⟨gb,cap,_,rfl,hB,zM hg,hn,hm,by simpa using hs,?_⟩;rw[Array.toList_setIfInBounds,List.take_set,ht]
theorem mY (f:Bk->List Value)(j:Nat)(u:Value)(b':Bk)(hf:∀ b,(f b).length=5)(hj:j < 5):∀ (bs:LB) (p:Nat),p < bs.length->f b'=(f (bs.getD p jW)).set j u->(bs.flatMap f).set (p * 5+j) u=(bs.set p b').flatMap f
 | [],p,h,_=>by simp at h
 | b::bs,0,h,hb=>by
  rw[aF,aR,aR,hb,Nat.zero_mul,cX,List.set_append,if_pos (by rw[hf];exact hj)]
  rfl
 | b::bs,p+1,h,hb=>by
  rw[aG,aR,aR,List.set_append,if_neg (by rw[hf];omega),hf,show(p+1) * 5+j-5=p * 5+j by omega];rw[mY f j u b' hf hj bs p (by simpa using h) (by simpa using hb)]
theorem aEo {W:World}{bs:LB}{s:Value}(y:Int)(h:W.ownsRow 0 68 5 s bs.length (bs.flatMap oY))(hr:ris bs)(hb:bs.length<=iU) :
  Calls prog 82 #[s,.int .i64 y] W λe W'=>e=.returned (.tuple #[.int .i64 (fZ bs y),.bool (gY bs y)])/\Below W.heap.size W W':=by
 have ho:=zA h;have hp:∀ b∈s.ownBlock.toList,(λb=>b < W.heap.size) b:=λb hb=>gA h (by simpa using hb)
 have hrep:=OwnL.rep bZ (S:=λb=>b < W.heap.size) 1 _ _ _ ho hp;have hm:iO (bs,y)=some ((fZ bs y:Int),gY bs y):=if_pos ⟨hr,hb⟩;refine(aHF W (λb=>b < W.heap.size) (a82.enc (bs,y)) [s,.int .i64 y] (n82 ((fZ bs y:Int),gY bs y)) (λb hb=>hb) ⟨rfl,λj a u h1 h2=>?_⟩ ?_).mono ?_
 ·match j with
  | 0=>cases h1;cases h2;exact ArgA.leaf rfl ⟨rfl,1,hrep⟩
  | 1=>cases h1;cases h2;exact ArgA.leaf rfl rfl
  | j+2=>simp at h2
 ·show((a82.dec (a82.enc (bs,y))).map λx=>((iO x).isSome,n82 ((iO x).getD aNL)))=_;rw[show a82.dec (a82.enc (bs,y))=some (bs,y) from rfl];simp only[aD,hm,gM,fK]
 ·rintro e W' ⟨u,rfl,hbw,hres⟩;have:=yU (vs:=[.int .i64 (fZ bs y),.bool (gY bs y)]) hres;subst this;exact⟨rfl,hbw⟩
theorem aMf {W:World}{vs:LV}{ss:List Value}{s:Value}(a p q:Int)(h:W.ownsRow 0 76 4 s vs.length (kJ vs ss))(hi:Inn W vs ss)(hr:zQ vs)(hb:vs.length<=iU) :
  Calls prog 89 #[s,.int .i64 a,.int .i64 p,.int .i64 q] W λe W'=>e=.returned (.tuple #[.int .i64 (lE vs (a,p,q,[])),.bool (iQ vs a p q)])/\Below W.heap.size W W':=by
 have ho:=yT hi.1 h hi.2;have hp:∀ b∈s.ownBlock.toList++ss.flatMap (λs=>s.ownBlock.toList),(λb=>b < W.heap.size) b:=λb hb=>by
  rcases aA.1 hb with hb | hb
  ·exact gA h (by simpa using hb)
  ·exact hi.lt b hb
 have hrep:=OwnL.rep bZ (S:=λb=>b < W.heap.size) 2 _ _ _ ho hp;have hm:nN (vs,a,p,q)=some ((lE vs (a,p,q,[]):Int),iQ vs a p q):=if_pos ⟨hr,hb⟩;refine(aHE W (λb=>b < W.heap.size) (a89.enc (vs,a,p,q)) [s,.int .i64 a,.int .i64 p,.int .i64 q] (n89 ((lE vs (a,p,q,[]):Int),iQ vs a p q)) (λb hb=>hb) ⟨rfl,λj a u h1 h2=>?_⟩ ?_).mono ?_
 ·match j with
  | 0=>cases h1;cases h2;exact ArgA.leaf rfl ⟨rfl,2,hrep⟩
  | 1=>cases h1;cases h2;exact ArgA.leaf rfl rfl
  | 2=>cases h1;cases h2;exact ArgA.leaf rfl rfl
  | 3=>cases h1;cases h2;exact ArgA.leaf rfl rfl
  | j+4=>simp at h2
 ·show((a89.dec (a89.enc (vs,a,p,q))).map λx=>((nN x).isSome,n89 ((nN x).getD aNJ)))=_;rw[show a89.dec (a89.enc (vs,a,p,q))=some (vs,a,p,q) from rfl];simp only[aD,hm,gM,fK]
 ·rintro e W' ⟨u,rfl,hbw,hres⟩;have:=yU (vs:=[.int .i64 (lE vs (a,p,q,[])),.bool (iQ vs a p q)]) hres;subst this;exact⟨rfl,hbw⟩
theorem aMe {W:World}{ns:List Int}{s:Value}(y:Int)(h:W.ownsRow 0 2 1 s ns.length (tR ns))(hr:xL ns)(hb:ns.length<=iU) :
  Calls prog 92 #[s,.int .i64 y] W λe W'=>e=.returned (.tuple #[.int .i64 (jM ns y),.bool (iY ns y)])/\Below W.heap.size W W':=by
 have ho:=rA h;have hp:∀ b∈s.ownBlock.toList,(λb=>b < W.heap.size) b:=λb hb=>gA h (by simpa using hb)
 have hrep:=OwnL.rep bZ (S:=λb=>b < W.heap.size) 1 _ _ _ ho hp;have hm:m92 (ns,y)=some ((jM ns y:Int),iY ns y):=if_pos ⟨hr,hb⟩;refine(aPU W (λb=>b < W.heap.size) (a92.enc (ns,y)) [s,.int .i64 y] (n92 ((jM ns y:Int),iY ns y)) (λb hb=>hb) ⟨rfl,λj a u h1 h2=>?_⟩ ?_).mono ?_
 ·match j with
  | 0=>cases h1;cases h2;exact ArgA.leaf rfl ⟨rfl,1,hrep⟩
  | 1=>cases h1;cases h2;exact ArgA.leaf rfl rfl
  | j+2=>simp at h2
 ·show((a92.dec (a92.enc (ns,y))).map λx=>((m92 x).isSome,n92 ((m92 x).getD aNI)))=_;rw[show a92.dec (a92.enc (ns,y))=some (ns,y) from rfl];simp only[aD,hm,gM,fK]
 ·rintro e W' ⟨u,rfl,hbw,hres⟩;have:=yU (vs:=[.int .i64 (jM ns y),.bool (iY ns y)]) hres;subst this;exact⟨rfl,hbw⟩
theorem aTC {W:World}{ns:List Int}{s:Value}(y:Int)(h:W.ownsRow 0 2 1 s ns.length (tR ns))(hb:ns.length<=iU) :
  Calls prog 87 #[s,.int .i64 y] W λe W'=>e=.returned (.bool (iY ns y))/\Below W.heap.size W W':=by
 have ho:=rA h;have hp:∀ b∈s.ownBlock.toList,(λb=>b < W.heap.size) b:=λb hb=>gA h (by simpa using hb)
 have hrep:=OwnL.rep bZ (S:=λb=>b < W.heap.size) 1 _ _ _ ho hp;have hm:m87 (ns,y)=some (iY ns y):=if_pos hb;refine(aPX W (λb=>b < W.heap.size) (a87.enc (ns,y)) [s,.int .i64 y] (n87 (iY ns y)) (λb hb=>hb) ⟨rfl,λj a u h1 h2=>?_⟩ ?_).mono ?_
 ·match j with
  | 0=>cases h1;cases h2;exact ArgA.leaf rfl ⟨rfl,1,hrep⟩
  | 1=>cases h1;cases h2;exact ArgA.leaf rfl rfl
  | j+2=>simp at h2
 ·show((a87.dec (a87.enc (ns,y))).map λx=>((m87 x).isSome,n87 ((m87 x).getD aNK)))=_;rw[show a87.dec (a87.enc (ns,y))=some (ns,y) from rfl];simp only[aD,hm,gM,fK]
 ·rintro e W' ⟨u,rfl,hbw,hres⟩;have:=uR (v:=.bool (iY ns y)) hres;subst this;exact⟨rfl,hbw⟩
def ok8 (c:Cg):Prop:=ris c.2.1/\c.2.1.length<=8/\zQ c.2.2/\c.2.2.length<=4/\∀ v∈c.2.2,xL v.2.2.2/\v.2.2.2.length<=99
instance (c:Cg):Decidable (ok8 c):=by unfold ok8;infer_instance
def apT (upd:Cm->Bk->Bk)(z:Cg×Cm):Option (Int×Cg):=
 if ok8 z.1 then some (if gY z.1.2.1 z.2.2.2.1 then(0,z.1.1,z.1.2.1.set (fZ z.1.2.1 z.2.2.2.1) (upd z.2 (z.1.2.1.getD (fZ z.1.2.1 z.2.2.2.1) jW)),z.1.2.2)else(4,z.1))else none
def aJt (x:Cm)(b:Bk):Bk:=(b.1,b.2.1,x.2.2.2.2.1,b.2.2.2.1,b.2.2.2.2)
def aJs (x:Cm)(b:Bk):Bk:=(b.1,b.2.1,b.2.2.1,x.2.2.2.2.1,b.2.2.2.2)
def aJr (x:Cm)(b:Bk):Bk:=(b.1,b.2.1,b.2.2.1,b.2.2.2.1,x.2.2.2.2.1 == 1)
theorem tS {bs:LB}(hr:ris bs){y:Int}(h:gY bs y=true):fZ bs y < bs.length:=by
 rw[uK hr,aJ]at h;exact of_decide_eq_true h.1
theorem aFS {s1 s2:Value}{ss:List Value}(h:(jY s1 s2 ss).Nodup){a b:Nat}(ha:s1.ownBlock=some a)(hb:s2.ownBlock=some b\/b∈ss.flatMap ob):b≠a:=by
 unfold jY at h;have:=(aH.1 h).2.2 a (by simp[ob,ha]) b (by
  rcases hb with hb | hb
  ·exact aA.2 (.inl (by simp[ob,hb]))
  ·exact aA.2 (.inr hb))
 exact λe=>this e.symm
theorem Hold.setB {W:World}{g gb cap:Nat}{c:Cg}{s2:Value}{ss:List Value}(h:Hold W g c (.slice (some ⟨gb,0,none⟩) c.2.1.length cap) s2 ss)(p j:Nat)(u:Value)(b':Bk)(hp:p < c.2.1.length)(hj:j < 5)
  (hb:oY b'=(oY (c.2.1.getD p jW)).set j u):Hold (W.setCell ⟨gb,p * 5+j,none⟩ u) g (c.1,c.2.1.set p b',c.2.2) (.slice (some ⟨gb,0,none⟩) c.2.1.length cap) s2 ss:=by
 refine⟨?_,?_,?_,?_,h.nd,h.ne⟩
 ·exact(Below.heap_setCell W _ _ g (h.ne gb (xN rfl)).symm).trans h.box
 ·have:=aFO (k:=p * 5+j) (u:=u) h.r1;rw[mY oY j u b' sL hj c.2.1 p hp hb]at this;show World.ownsRow _ _ _ _ _ (c.2.1.set p b').length _;rw[bW];exact this
 ·exact fM h.r2 λb hb'=>Below.heap_setCell W _ _ b (aFS h.nd rfl (.inl hb'))
 ·exact h.inn.keep λb hb'=>Below.heap_setCell W _ _ b (aFS h.nd rfl (.inr hb'))
theorem mW {N:Nat->Prop}{W:World}{gb k:Nat}{u:Value}(h:N gb):Kept N W (W.setCell ⟨gb,k,none⟩ u):=
 ⟨rfl,rfl,rfl,by simp,λb hb=>Below.heap_setCell W _ _ b λe=>hb (by rw[e];exact h)⟩
theorem aEI {w:World}{bs:LB}{q:Option Addr}{cap:Nat}{nm:Int}(h:w.ownsRow 0 68 5 (.slice q bs.length cap) bs.length (bs.flatMap oY))(hr:ris bs)(hf:gY bs nm=true) :
  fZ bs nm < bs.length/\∃ gb cur,q=some ⟨gb,0,none⟩/\w.heap[gb]?=some (.cells cur 68 (0,0))/\fZ bs nm * 5+5<=cur.size:=by
 have hp:=tS hr hf;rcases h.2 with⟨h0,hn0⟩ | ⟨gb,cp,cur,h0,_,hb,hn,_,hs,_⟩
 ·omega
 ·cases h0;refine⟨hp,gb,cur,rfl,hb,?_⟩;rw[hs];have:(fZ bs nm+1) * 5<=cap * 5:=aQ 5 (by omega);omega
theorem aTM:AppOk 54 (apT aJt):=by
 intro w g c s1 s2 ss x r c' h hm;obtain⟨kd,ex,nm,ad,nu,pr⟩:=x;obtain⟨a,bs,vs⟩:=c;unfold apT at hm;split at hm
 ·rename_i hk;obtain⟨hr,hl,hrv,hlv,hin⟩:=hk;simp only at hr hl hrv hlv hin hm;obtain⟨q,cap,rfl⟩:=eS h.r1;obtain⟨q2,cap2,rfl⟩:=eS h.r2;refine aPP g a kd ex nm ad nu pr q q2 bs.length cap vs.length cap2 (fZ bs nm) (gY bs nm) w h.box (λW hW=>aEo nm (h.below hW).r1 hr (by unfold iU;omega)) (aEI h.r1 hr) _ ?_ ?_
  ·intro hf W hW;rw[hf]at hm;cases hm;exact⟨rfl,_,_,_,_,h.below hW,gF hW (λb hb=>.inl hb),λb hb=>.inr hb⟩
  ·intro hf W gb hW hq;subst hq;rw[hf]at hm;cases hm;refine⟨rfl,_,_,_,_,(h.below hW).setB _ 2 _ (aJt (kd,ex,nm,ad,nu,pr) (bs.getD (fZ bs nm) jW)) (tS hr hf) (by omega) rfl,(gF hW (λb hb=>.inl hb)).trans (mW (.inr (.inl (xN rfl)))),λb hb=>.inr hb⟩
 ·cases hm
theorem aTL:AppOk 56 (apT aJs):=by
 intro w g c s1 s2 ss x r c' h hm;obtain⟨kd,ex,nm,ad,nu,pr⟩:=x;obtain⟨a,bs,vs⟩:=c;unfold apT at hm;split at hm
 ·rename_i hk;obtain⟨hr,hl,hrv,hlv,hin⟩:=hk;simp only at hr hl hrv hlv hin hm;obtain⟨q,cap,rfl⟩:=eS h.r1;obtain⟨q2,cap2,rfl⟩:=eS h.r2;refine aPO g a kd ex nm ad nu pr q q2 bs.length cap vs.length cap2 (fZ bs nm) (gY bs nm) w h.box (λW hW=>aEo nm (h.below hW).r1 hr (by unfold iU;omega)) (aEI h.r1 hr) _ ?_ ?_
  ·intro hf W hW;rw[hf]at hm;cases hm;exact⟨rfl,_,_,_,_,h.below hW,gF hW (λb hb=>.inl hb),λb hb=>.inr hb⟩
  ·intro hf W gb hW hq;subst hq;rw[hf]at hm;cases hm;refine⟨rfl,_,_,_,_,(h.below hW).setB _ 3 _ (aJs (kd,ex,nm,ad,nu,pr) (bs.getD (fZ bs nm) jW)) (tS hr hf) (by omega) rfl,(gF hW (λb hb=>.inl hb)).trans (mW (.inr (.inl (xN rfl)))),λb hb=>.inr hb⟩
 ·cases hm
theorem aTF:AppOk 65 (apT aJr):=by
 intro w g c s1 s2 ss x r c' h hm;obtain⟨kd,ex,nm,ad,nu,pr⟩:=x;obtain⟨a,bs,vs⟩:=c;unfold apT at hm;split at hm
 ·rename_i hk;obtain⟨hr,hl,hrv,hlv,hin⟩:=hk;simp only at hr hl hrv hlv hin hm;obtain⟨q,cap,rfl⟩:=eS h.r1;obtain⟨q2,cap2,rfl⟩:=eS h.r2;refine aPN g a kd ex nm ad nu pr q q2 bs.length cap vs.length cap2 (fZ bs nm) (gY bs nm) w h.box (λW hW=>aEo nm (h.below hW).r1 hr (by unfold iU;omega)) (aEI h.r1 hr) _ ?_ ?_
  ·intro hf W hW;rw[hf]at hm;cases hm;exact⟨rfl,_,_,_,_,h.below hW,gF hW (λb hb=>.inl hb),λb hb=>.inr hb⟩
  ·intro hf W gb hW hq;subst hq;rw[hf]at hm;cases hm;refine⟨rfl,_,_,_,_,(h.below hW).setB _ 4 _ (aJr (kd,ex,nm,ad,nu,pr) (bs.getD (fZ bs nm) jW)) (tS hr hf) (by omega) rfl,(gF hW (λb hb=>.inl hb)).trans (mW (.inr (.inl (xN rfl)))),λb hb=>.inr hb⟩
 ·cases hm
section
attribute [local go_sem] Oper.semAt_some
set_option maxRecDepth 100000 in
set_option maxHeartbeats 8000000 in
theorem aIx (g:Nat)(a kd ex nm ad nu pr:Int)(q q2:Option Addr)(n cap n2 cap2 p:Nat)(fnd:Bool)(w:World)(sg:Int)(us:List Value)(cn:Nat->Bool)
  (hg:w.heap[g]?=some (.cells #[.int .i64 a,.slice q n cap,.slice q2 n2 cap2] 32 (0,0))) (hn2:n2<=100) (hn:n<=100)
  (h82:∀ W,Below w.heap.size w W->Calls prog 82 #[.slice q n cap,.int .i64 nm] W λe W'=>e=.returned (.tuple #[.int .i64 p,.bool fnd])/\Below W.heap.size W W')
  (hf:fnd=true->p < n/\∃ gb cur,q=some ⟨gb,0,none⟩/\w.heap[gb]?=some (.cells cur 68 (0,0))/\cur[p * 5+3]?=some (.int .i64 sg))
  (hv:n2≠0->∃ gv cur,q2=some ⟨gv,0,none⟩/\w.heap[gv]?=some (.cells cur 76 (0,0))/\∀ i,i < n2->∃ x y z qi ni ci,cur[i * 4]?=some (.int .i64 x)/\cur[i * 4+1]?=some (.int .i64 y)/\cur[i * 4+2]?=some (.int .i64 z)/\cur[i * 4+3]?=some (.slice qi ni ci) ∧
   ∀ W,Below w.heap.size w W->Calls prog 87 #[.slice qi ni ci,.int .i64 nm] W λe W'=>e=.returned (.bool (cn i))/\Below W.heap.size W W')
  (R:Value->World->World->Prop) (hR:∀ u W W',R u W W'->(∃ q' n' cap',u=.slice q' n' cap')/\W'.heap[g]?=W.heap[g]?)
  (h88:fnd=true->∀ W,Below w.heap.size w W->Calls prog 88 #[.slice q n cap,.int .i64 p,.int .i64 ((p:Int)+1)] W λe W'=>∃ u,e=.returned u/\R u W W')
  (G:Ending->World->Prop)
  (hG4:fnd=false->∀ W,Below w.heap.size w W->G (.returned (.int .i64 4)) W)
  (hG10:fnd=true->sg≠3->∀ W,Below w.heap.size w W->G (.returned (.int .i64 10)) W)
  (hG8:fnd=true->sg=3->∀ i,i < n2->cn i=true->∀ W,Below w.heap.size w W->G (.returned (.int .i64 8)) W)
  (hG0:fnd=true->sg=3->(∀ i,i < n2->cn i=false)->∀ W W1 u,Below w.heap.size w W->R u W W1->G (.returned (.int .i64 0)) (W1.setCell ⟨g,1,none⟩ u)) :
  Calls prog 57 #[.pointer (some ⟨g,0,none⟩),.agg #[.int .i64 kd,.int .i64 ex,.int .i64 nm,.int .i64 ad,.int .i64 nu,.int .i64 pr]] w G:=by
 have hgw:g < w.heap.size:=(aL.1 hg).1
 generalize hW0:w.alloc (.cells #[.int .i64 kd,.int .i64 ex,.int .i64 nm,.int .i64 ad,.int .i64 nu,.int .i64 pr] 37)=W0
 have hB0:Below w.heap.size w W0:=by subst hW0;exact(Below.refl w.heap.size w).alloc (aK _) _
 have b0:W0.heap[w.heap.size]?=some (.cells #[.int .i64 kd,.int .i64 ex,.int .i64 nm,.int .i64 ad,.int .i64 nu,.int .i64 pr] 37 (0,0)):=by subst hW0;exact World.alloc_heap_new w _
 have hs0:W0.heap.size=w.heap.size+1:=by subst hW0;simp
 have hr:∀ W,Below W0.heap.size W0 W->(W.cell? ⟨g,1,none⟩=some (.slice q n cap)/\W.frozen? ⟨g,1,none⟩=false)/\W.cell? ⟨g,2,none⟩=some (.slice q2 n2 cap2)/\W.cell? ⟨w.heap.size,2,none⟩=some (.int .i64 nm):=λW h=>by
  have c1:=(h.block g (by omega)).trans ((hB0.block g hgw).trans hg);have c2:=(h.block w.heap.size (by omega)).trans b0;exact⟨⟨(cell_of_row _ _ _ _ 32 (0,0) c1).trans rfl,frozen_of_row _ _ _ _ 32 c1⟩,(cell_of_row _ _ _ _ 32 (0,0) c1).trans rfl,(cell_of_row _ _ _ _ 37 (0,0) c2).trans rfl⟩
 have hS:=Below.refl W0.heap.size W0;obtain⟨⟨k1,f1⟩,k2,k3⟩:=hr _ hS
 go_enter func57,ntmps57
 go_upto_region 1 with fail
 go_cut [5,6] (λs5 s6 wx=>s5=.int .i64 p/\s6=.bool fnd/\Below W0.heap.size W0 wx)
 case first=>
  go_region_with (go_at_call 82;(first | (refine(h82 _ (hB0.trans (hS.mono hB0.size))).mono ?_;rintro e w1 ⟨rfl,hb1⟩;replace hS:=hS.trans (hb1.mono hS.size)) | (refine(h82 _ (hB0.trans (hS.drew.mono hB0.size))).mono ?_;rintro e w1 ⟨rfl,hb1⟩;replace hS:=hS.drew.trans (hb1.mono hS.drew.size))))
  all_goals (go_wp2_with fail;go_meet;exact⟨rfl,rfl,hS⟩)
 case rest=>
  obtain⟨rfl,rfl,hS⟩:=hcut;clear k1 f1 k2 k3;obtain⟨⟨k1,f1⟩,k2,k3⟩:=hr _ hS;cases fnd
  ·go_wp2
   exact hG4 (by simp) _ (hB0.trans (hS.mono hB0.size))
  ·obtain⟨hpn,gb,cur,rfl,hb,hsg⟩:=hf rfl;have hbw:gb < w.heap.size:=(aL.1 hb).1;have k4:wc.cell? ⟨gb,p * 5+3,none⟩=some (.int .i64 sg):=((hS.cell (by show gb < _;omega)).trans (hB0.cell (by show gb < _;omega))).trans ((cell_of_row _ _ _ _ 68 (0,0) hb).trans hsg);have ea:(⟨gb,0,none⟩:Addr).add (p * 5)=⟨gb,p * 5,none⟩:=by rw[Addr.add_lit,cX]
   by_cases h3:sg=3
   ·subst h3;have h88':=h88 rfl
    go_wp2
    go_loopw [35] (λi wx=>∃ j:Nat,j<=n2/\i=.int .i64 j/\(∀ k,k < j->cn k=false)/\Below W0.heap.size W0 wx) (λi _=>n2-(intOf i).toNat)
    case atStart=>exact⟨0,bX _,rfl,λk hk=>by omega,hS⟩
    case round=>
     obtain⟨j,hj,rfl,hcn,hSr⟩:=hrel;clear k1 f1 k2 k3 k4;obtain⟨⟨k1,f1⟩,k2,k3⟩:=hr _ hSr;by_cases hlt:j < n2
     ·obtain⟨gv,cv,rfl,hbv,hel⟩:=hv (by omega);obtain⟨x,y,z,qi,ni,ci,e0,e1,e2,e3,h87⟩:=hel j hlt;have hvw:gv < w.heap.size:=(aL.1 hbv).1;have bv:=(hSr.block gv (by omega)).trans ((hB0.block gv hvw).trans hbv);have l0:wr.cell? ⟨gv,j * 4,none⟩=_:=(cell_of_row _ _ _ _ 76 (0,0) bv).trans e0;have l1:wr.cell? ⟨gv,j * 4+1,none⟩=_:=(cell_of_row _ _ _ _ 76 (0,0) bv).trans e1;have l2:wr.cell? ⟨gv,j * 4+2,none⟩=_:=(cell_of_row _ _ _ _ 76 (0,0) bv).trans e2;have l3:wr.cell? ⟨gv,j * 4+3,none⟩=_:=(cell_of_row _ _ _ _ 76 (0,0) bv).trans e3;have ea2:(⟨gv,0,none⟩:Addr).add (j * 4)=⟨gv,j * 4,none⟩:=by rw[Addr.add_lit,cX]
      have hSa:=hSr.alloc hSr.size (.cells #[.int .i64 x,.int .i64 y,.int .i64 z,.slice qi ni ci] 76);have h87':=h87 _ (hB0.trans (hSa.mono hB0.size));have k3a:(wr.alloc (.cells #[.int .i64 x,.int .i64 y,.int .i64 z,.slice qi ni ci] 76)).cell? ⟨w.heap.size,2,none⟩=some (.int .i64 nm):=(hr _ hSa).2.2;cases hc:cn j
      ·rw[hc]at h87'
       go_wp2_with (go_at_call 87;refine h87'.mono ?_;clear h87';rintro e w2 ⟨rfl,hb2⟩)
       refine⟨⟨j+1,by omega,by simp,λk hk=>?_,hSa.trans (hb2.mono hSa.size)⟩,by simp[intOf];omega⟩;rcases eR k j with h | h
       ·exact hcn k h
       ·rw[show k=j by omega];exact hc
      ·rw[hc]at h87'
       go_wp2_with (go_at_call 87;refine h87'.mono ?_;clear h87';rintro e w2 ⟨rfl,hb2⟩)
       exact hG8 (by simp) (by simp) j hlt hc _ (hB0.trans ((hSa.trans (hb2.mono hSa.size)).mono hB0.size))
     ·obtain rfl:j=n2:=by omega
      have hw64:wrap64 ((p:Int)+1)=(p:Int)+1:=by first | (unfold wrap64;omega) | (rw[wrap64_eq];omega)
      have h88w:=h88' wr (hB0.trans (hSr.mono hB0.size))
      go_wp2_with (go_at_call 88;(refine h88w.mono ?_;clear h88w;rintro e w2 ⟨u,rfl,hRu⟩;obtain⟨⟨qu,nu',cu,rfl⟩,hgu⟩:=hR _ _ _ hRu;have c1:=hgu.trans ((hSr.block g (by omega)).trans ((hB0.block g hgw).trans hg));have m1:w2.cell? ⟨g,1,none⟩=some (.slice (some ⟨gb,0,none⟩) n cap):=(cell_of_row _ _ _ _ 32 (0,0) c1).trans rfl;have m2:w2.frozen? ⟨g,1,none⟩=false:=frozen_of_row _ _ _ _ 32 c1;clear hR hgu c1))
      exact hG0 (by simp) (by simp) hcn _ _ _ (hB0.trans (hSr.mono hB0.size)) hRu
   ·have h3b:(sg != 3)=true:=by simp[h3]
    go_wp2
    exact hG10 (by simp) h3 _ (hB0.trans (hS.mono hB0.size))
end
theorem aFU {X Y S U:List Nat}(h:(X++(S++Y)).Nodup)(hU:U.Nodup)(hu:∀ b∈U,b∈S\/(b∉X/\b∉Y)):(X++(U++Y)).Nodup:=by
 obtain⟨n1,n2,n3⟩:=aH.1 h;obtain⟨n4,n5,n6⟩:=aH.1 n2;have hd:∀ b∈U,b∉X/\b∉Y:=λb hb=>by
  rcases hu b hb with hs | hs
  ·exact⟨λhx=>n3 b hx b (aA.2 (.inl hs)) rfl,λhy=>n6 b hs b hy rfl⟩
  ·exact hs
 refine aH.2 ⟨n1,aH.2 ⟨hU,n5,λa ha b hb e=>(hd a ha).2 (e▸hb)⟩,λa ha b hb e=>?_⟩;rcases aA.1 hb with hb | hb
 ·exact(hd b hb).1 (e▸ha)
 ·exact n3 a ha b (aA.2 (.inr hb)) e
theorem aLe (s:Value):(ob s).Nodup:=by
 unfold ob;cases s.ownBlock<;>simp
theorem Hold.put1 {W W1:World}{g:Nat}{c:Cg}{s1 s2 u:Value}{ss:List Value}{bs':LB}(h:Hold W g c s1 s2 ss)(hk:∀ b,b=g\/b∈ob s2++ss.flatMap ob->W1.heap[b]?=W.heap[b]?)
  (hr:W1.ownsRow 0 68 5 u bs'.length (bs'.flatMap oY)) (hu:∀ b∈ob u,b∈ob s1\/W.heap.size<=b):Hold (W1.setCell ⟨g,1,none⟩ u) g (c.1,bs',c.2.2) u s2 ss:=by
 have hg:∀ b,b≠g->(W1.setCell ⟨g,1,none⟩ u).heap[b]?=W1.heap[b]?:=λb hb=>Below.heap_setCell W1 _ _ b hb
 have hrest:∀ b∈ob s2++ss.flatMap ob,b≠g:=λb hb=>h.ne b (aA.2 (.inr hb))
 have hun:∀ b∈ob u,b≠g:=λb hb=>by
  rcases hu b hb with h1 | h1
  ·exact h.ne b (aA.2 (.inl h1))
  ·have:=h.glt;omega
 refine⟨?_,?_,?_,?_,?_,?_⟩
 ·have:=zM (k:=1) (u:=u) ((hk g (.inl rfl)).trans h.box);exact this
 ·exact fM hr λb hb=>hg b (hun b (by simp[ob,hb]))
 ·refine fM h.r2 λb hb=>?_
  have:b∈ob s2++ss.flatMap ob:=aA.2 (.inl (by simp[ob,hb]));exact(hg b (hrest b this)).trans (hk b (.inr this))
 ·refine h.inn.keep λb hb=>?_
  have:b∈ob s2++ss.flatMap ob:=aA.2 (.inr hb);exact(hg b (hrest b this)).trans (hk b (.inr this))
 ·refine aFU (X:=[]) h.nd (aLe u) λb hb=>?_
  rcases hu b hb with h1 | h1
  ·exact .inl h1
  ·refine .inr ⟨by simp,λh2=>?_⟩;have:=h.lt b (aA.2 (.inr h2));omega
 ·intro b hb;rcases aA.1 hb with hb | hb
  ·exact hun b hb
  ·exact hrest b hb
def m57 (z:Cg×Cm):Option (Int×Cg):=
 if ok8 z.1 then some (if gY z.1.2.1 z.2.2.2.1 then(if(z.1.2.1.getD (fZ z.1.2.1 z.2.2.2.1) jW).2.2.2.1=3 then(if z.1.2.2.any (λv=>iY v.2.2.2 z.2.2.2.1)then(8,z.1)else(0,z.1.1,z.1.2.1.take (fZ z.1.2.1 z.2.2.2.1)++z.1.2.1.drop (fZ z.1.2.1 z.2.2.2.1+1),z.1.2.2))else(10,z.1))else(4,z.1))else none
theorem aB2 (f:Bk->List Value)(hf:∀ b,(f b).length=5)(j:Nat)(hj:j < 5):∀ (bs:LB) (p:Nat),p < bs.length->(bs.flatMap f)[p * 5+j]?=(f (bs.getD p jW))[j]?
 | [],p,h=>by simp at h
 | b::bs,0,h=>by
  rw[aR,Nat.zero_mul,cX,bM (by rw[hf];exact hj)]
  rfl
 | b::bs,p+1,h=>by
  rw[aR,bJ (by rw[hf];omega),hf,show(p+1) * 5+j-5=p * 5+j by omega,aB2 f hf j hj bs p (by simpa using h)];simp
theorem uE (j:Nat)(hj:j < 4):∀ (vs:LV) (ss:List Value) (i:Nat),ss.length=vs.length->i < vs.length->(kJ vs ss)[i * 4+j]?=(vpC (vs.getD i eJ) (ss.getD i undef))[j]?
 | [],_,i,_,h=>by simp at h
 | v::vs,[],i,hl,h=>by simp at hl
 | v::vs,s::ss,0,hl,h=>by
  have:kJ (v::vs) (s::ss)=vpC v s++kJ vs ss:=rfl;rw[this,Nat.zero_mul,cX,bM (by simpa[vpC]using hj)]
  rfl
 | v::vs,s::ss,i+1,hl,h=>by
  have:kJ (v::vs) (s::ss)=vpC v s++kJ vs ss:=rfl;rw[this,bJ (by simp[vpC];omega),show(i+1) * 4+j-(vpC v s).length=i * 4+j by simp[vpC];omega,uE j hj vs ss i (by simpa using hl) (by simpa using h)];simp
theorem uA {cur:Array Value}{xs:List Value}{n K k:Nat}{u:Value}(ht:cur.toList.take (n * K)=xs)(h:xs[k]?=some u):cur[k]?=some u:=by
 subst ht;rw[bK]at h;split at h
 ·rw[<-h,Array.getElem?_toList]
 ·cases h
theorem rB {W:World}{vs:LV}{ss:List Value}(h:Inn W vs ss){i:Nat}(hi:i < vs.length):W.ownsRow 0 2 1 (ss.getD i undef) (vs.getD i eJ).2.2.2.length (tR (vs.getD i eJ).2.2.2):=by
 have hi':i < ss.length:=by rw[h.1];exact hi
 exact h.2 i _ _ (by rw[fT eJ hi];exact aC hi) (by rw[fT undef hi'];exact aC hi')
theorem aTK:AppOk 57 m57:=by
 intro w g c s1 s2 ss x r c' h hm;obtain⟨kd,ex,nm,ad,nu,pr⟩:=x;obtain⟨a,bs,vs⟩:=c;unfold m57 at hm;split at hm
 ·rename_i hk;obtain⟨hr,hl,hrv,hlv,hin⟩:=hk;simp only at hr hl hrv hlv hin hm;obtain⟨q,cap,e1⟩:=eS h.r1;obtain⟨q2,cap2,e2⟩:=eS h.r2;simp only at e1 e2;subst e1;subst e2;refine aIx g a kd ex nm ad nu pr q q2 bs.length cap vs.length cap2 (fZ bs nm) (gY bs nm) w ((bs.getD (fZ bs nm) jW).2.2.2.1) [] (λi=>iY (vs.getD i eJ).2.2.2 nm) h.box (by omega) (by omega) (λW hW=>aEo nm (h.below hW).r1 hr (by unfold iU;omega)) ?_ ?_
   (λu W W'=>∃ gb,q=some ⟨gb,0,none⟩/\u=.slice (some ⟨gb,0,none⟩) (bs.length-1) cap/\W'.ownsRow 0 68 5 u (bs.length-1) ((bs.take (fZ bs nm)++bs.drop (fZ bs nm+1)).flatMap oY)/\Kept (λb=>b=gb) W W') ?_ ?_ _ ?_ ?_ ?_ ?_
  ·intro hf;have hp:=tS hr hf;rcases h.r1.2 with⟨h0,hn0⟩ | ⟨gb,cp,cur,h0,_,hb,hn,_,hs,ht⟩
   ·simp only at hn0;omega
   ·cases h0;exact⟨hp,gb,cur,rfl,hb,uA ht (aB2 oY sL 3 (by omega) bs _ hp)⟩
  ·intro hn0;rcases h.r2.2 with⟨h0,hn1⟩ | ⟨gv,cp,cur,h0,_,hb,hn,_,hs,ht⟩
   ·exact absurd hn1 hn0
   ·cases h0;refine⟨gv,cur,rfl,hb,λi hi=>?_⟩;obtain⟨qi,ci,ei⟩:=eS (rB h.inn hi);have hc:=λj hj=>uE j hj vs ss i h.inn.1 hi
    refine⟨_,_,_,qi,(vs.getD i eJ).2.2.2.length,ci,uA ht (hc 0 (by omega)),uA ht (hc 1 (by omega)),uA ht (hc 2 (by omega)),?_,λW hW=>?_⟩
    ·have:=uA ht (hc 3 (by omega));rw[ei]at this;exact this
    ·have hrow:=rB (h.below hW).inn hi;rw[ei]at hrow;have hm9:(vs.getD i eJ)∈vs:=eG eJ hi;exact aTC nm hrow (by have:=(hin _ hm9).2;unfold iU;omega)
  ·rintro u W W' ⟨gb,rfl,rfl,_,hkp⟩;exact⟨⟨_,_,_,rfl⟩,hkp.block g λe=>h.ne gb (xN rfl) e.symm⟩
  ·intro hf W hW;have hp:=tS hr hf;have h':=h.below hW;rcases h'.r1.2 with⟨h0,hn0⟩ | ⟨gb,cp,cur,h0,_,hb,hn,_,hs,ht⟩
   ·simp only at hn0;omega
   ·cases h0;refine(aSq gb (fZ bs nm) bs.length cap (bs.flatMap oY) W h'.r1 hp (by omega) (aD3 _ aDf _)).mono ?_;rintro e W1 ⟨rfl,k1,k2⟩;refine⟨_,rfl,gb,rfl,rfl,?_,k2⟩;rw[bE,<-sH oY sL bs _,<-sI oY sL bs (fZ bs nm+1)];exact k1
  ·intro hf W hW;rw[hf]at hm;cases hm;exact⟨rfl,_,_,_,_,h.below hW,gF hW (λb hb=>.inl hb),λb hb=>.inr hb⟩
  ·intro hf hsg W hW;rw[hf,if_pos rfl,if_neg hsg]at hm;cases hm;exact⟨rfl,_,_,_,_,h.below hW,gF hW (λb hb=>.inl hb),λb hb=>.inr hb⟩
  ·intro hf hsg i hi hc W hW;have hany:vs.any (λv=>iY v.2.2.2 nm)=true:=eN.2 ⟨_,eG eJ hi,hc⟩;rw[hf,if_pos rfl,if_pos hsg,if_pos hany]at hm;cases hm;exact⟨rfl,_,_,_,_,h.below hW,gF hW (λb hb=>.inl hb),λb hb=>.inr hb⟩
  ·rintro hf hsg hc W W1 u hW ⟨gb,rfl,rfl,hrow,hkp⟩;have hany:¬ vs.any (λv=>iY v.2.2.2 nm)=true:=λh1=>by
    obtain⟨v,hv,h2⟩:=eN.1 h1;obtain⟨i,hi,rfl⟩:=dL.1 hv;have:=hc i hi;rw[fT eJ hi,h2]at this;cases this
   rw[hf,if_pos rfl,if_pos hsg,if_neg hany]at hm;cases hm;have hp:=tS hr hf;have h':=h.below hW;have hlen:(bs.take (fZ bs nm)++bs.drop (fZ bs nm+1)).length=bs.length-1:=by
    rw[aW,bA,bL];omega
   have hob:∀ b,b=gb->b∈jY (.slice (some ⟨gb,0,none⟩) bs.length cap) (.slice q2 vs.length cap2) ss:=λb hb=>by subst hb;exact xN rfl
   refine⟨rfl,_,_,_,_,h'.put1 (bs':=bs.take (fZ bs nm)++bs.drop (fZ bs nm+1)) (λb hb=>hkp.block b λe=>?_) (by rw[hlen];exact hrow) (λb hb=>.inl (by simpa[ob,Value.ownBlock]using hb)),?_,λb hb=>.inr ?_⟩
   ·subst e;rcases hb with hb | hb
    ·exact h.ne b (xN rfl) hb
    ·exact aFS h.nd (a:=b) rfl (by
      rcases aA.1 hb with hb | hb
      ·exact .inl (by simpa[ob]using hb)
      ·exact .inr hb) rfl
   ·refine((gF hW (λb hb=>.inl hb)).trans ⟨hkp.os,hkp.tape,hkp.output,hkp.size,λb hb=>hkp.block b λe=>hb (.inr (.inl (hob b e)))⟩).trans (mW (.inr (.inr rfl)))
   ·exact hb
 ·cases hm
set_option maxRecDepth 100000
def aNi (iO:(LB×Int)->Option (Int×Bool))(m83:(LB×Int×LB)->Option LB):Env cxT:={ Kc:=eF [(82,c82 iO)],Kw:=eE [(83,c83 m83)],lv:=λi=>[],xv:=λi=>none }
theorem i53 (iO:(LB×Int)->Option (Int×Bool))(m83:(LB×Int×LB)->Option LB)(L:Nat)(x1:Int)(x0:LB)(x2:LV)(x6 x7:Int)(x3 x4:Int)(x5 x8:Int):wH prog (aNi iO m83) (bH L) f53 (a53.enc ((x1,x0,x2),(x6,x7,x3,x4,x5,x8))) none=
 cZ (iO (x0,x3)) (0,false) λ(q1:(Int×Bool))=>bif q1.2 then some (n53 (7,x1,x0,x2))
  else bif ((x0.length:Int) == 8)then some (n53 (2,x1,x0,x2))
  else cZ (m83 (x0,(q1.1,(List.cons (x3,(x4,(x5,(1,true)))) [])))) [] λ(q2:LB)=>some (n53 (0,x1,q2,x2)):=by kernel_rfl
def g53 (iO:(LB×Int)->Option (Int×Bool))(m83:(LB×Int×LB)->Option LB)(L:Nat)(x1:Int)(x0:LB)(x2:LV)(x6 x7:Int)(x3 x4:Int)(x5 x8:Int):Option CR:=
 cZ (iO (x0,x3)) (0,false) λ(q1:(Int×Bool))=>bif q1.2 then some (7,x1,x0,x2)
  else bif ((x0.length:Int) == 8)then some (2,x1,x0,x2)
  else cZ (m83 (x0,(q1.1,(List.cons (x3,(x4,(x5,(1,true)))) [])))) [] λ(q2:LB)=>some (0,x1,q2,x2)
theorem e53 (iO:(LB×Int)->Option (Int×Bool))(m83:(LB×Int×LB)->Option LB)(L:Nat)(x0:Int)(x1:LB)(x2:LV)(x3 x4:Int)(x5 x6:Int)(x7 x8:Int):wH prog (aNi iO m83) (bH L) f53 (a53.enc ((x0,x1,x2),(x3,x4,x5,x6,x7,x8))) none=(g53 iO m83 L x0 x1 x2 x3 x4 x5 x6 x7 x8).map n53:=by
 rw[i53];simp only[g53,aU,aS,aT,aD,aE]
theorem s53 (iO:(LB×Int)->Option (Int×Bool))(m83:(LB×Int×LB)->Option LB)(h82:Sat prog cxT 82 (c82 iO))(h83:SatI prog cxT 83 (c83 m83).nres (c83 m83).F)(m:(CZ×DZ)->Option CR)(hm:∀ (x:(CZ×DZ)) t,m x=some t->∃ L,g53 iO m83 L x.1.1 x.1.2.1 x.1.2.2 x.2.1 x.2.2.1 x.2.2.2.1 x.2.2.2.2.1 x.2.2.2.2.2.1 x.2.2.2.2.2.2=some t):SatQ prog cxT 53 (c53 m).nres (c53 m).F (c53 m).bx:=
 aDB bZ bV (by rfl) (fn:=f53) rfl rfl a53 n53 aKm m (aNi iO m83) (bN h82 bU) (iP h83 bP) (λL x=>g53 iO m83 L x.1.1 x.1.2.1 x.1.2.2 x.2.1 x.2.2.1 x.2.2.2.1 x.2.2.2.2.1 x.2.2.2.2.2.1 x.2.2.2.2.2.2) (λL x=>e53 iO m83 L x.1.1 x.1.2.1 x.1.2.2 x.2.1 x.2.2.1 x.2.2.2.1 x.2.2.2.2.1 x.2.2.2.2.2.1 x.2.2.2.2.2.2) hm aWg
def aNe (nN:(LV×Int×Int×Int)->Option (Int×Bool))(m90:(LV×Int×LV)->Option LV):Env cxT:={ Kc:=eF [(89,c89 nN)],Kw:=eE [(90,c90 m90)],lv:=λi=>[],xv:=λi=>none }
theorem i60 (nN:(LV×Int×Int×Int)->Option (Int×Bool))(m90:(LV×Int×LV)->Option LV)(L:Nat)(x1:Int)(x2:LB)(x0:LV)(x6 x7:Int)(x8 x3:Int)(x4 x5:Int):wH prog (aNe nN m90) (bH L) f60 (a60.enc ((x1,x2,x0),(x6,x7,x8,x3,x4,x5))) none=
 cZ (nN (x0,(x3,(x4,x5)))) (0,false) λ(q1:(Int×Bool))=>bif q1.2 then some (n60 (7,x1,x2,x0))
  else bif ((x0.length:Int) == 4)then some (n60 (2,x1,x2,x0))
  else cZ (m90 (x0,(q1.1,(List.cons (x3,(x4,(x5,[]))) [])))) [] λ(q2:LV)=>some (n60 (0,x1,x2,q2)):=by kernel_rfl
def g60 (nN:(LV×Int×Int×Int)->Option (Int×Bool))(m90:(LV×Int×LV)->Option LV)(L:Nat)(x1:Int)(x2:LB)(x0:LV)(x6 x7:Int)(x8 x3:Int)(x4 x5:Int):Option CR:=
 cZ (nN (x0,(x3,(x4,x5)))) (0,false) λ(q1:(Int×Bool))=>bif q1.2 then some (7,x1,x2,x0)
  else bif ((x0.length:Int) == 4)then some (2,x1,x2,x0)
  else cZ (m90 (x0,(q1.1,(List.cons (x3,(x4,(x5,[]))) [])))) [] λ(q2:LV)=>some (0,x1,x2,q2)
theorem e60 (nN:(LV×Int×Int×Int)->Option (Int×Bool))(m90:(LV×Int×LV)->Option LV)(L:Nat)(x0:Int)(x1:LB)(x2:LV)(x3 x4:Int)(x5 x6:Int)(x7 x8:Int):wH prog (aNe nN m90) (bH L) f60 (a60.enc ((x0,x1,x2),(x3,x4,x5,x6,x7,x8))) none=(g60 nN m90 L x0 x1 x2 x3 x4 x5 x6 x7 x8).map n60:=by
 rw[i60];simp only[g60,aU,aS,aT,aD,aE]
theorem s60 (nN:(LV×Int×Int×Int)->Option (Int×Bool))(m90:(LV×Int×LV)->Option LV)(h89:Sat prog cxT 89 (c89 nN))(h90:SatI prog cxT 90 (c90 m90).nres (c90 m90).F)(m:(CZ×DZ)->Option CR)(hm:∀ (x:(CZ×DZ)) t,m x=some t->∃ L,g60 nN m90 L x.1.1 x.1.2.1 x.1.2.2 x.2.1 x.2.2.1 x.2.2.2.1 x.2.2.2.2.1 x.2.2.2.2.2.1 x.2.2.2.2.2.2=some t):SatQ prog cxT 60 (c60 m).nres (c60 m).F (c60 m).bx:=
 aDB bZ bV (by rfl) (fn:=f60) rfl rfl a60 n60 aSK m (aNe nN m90) (bN h89 bU) (iP h90 bP) (λL x=>g60 nN m90 L x.1.1 x.1.2.1 x.1.2.2 x.2.1 x.2.2.1 x.2.2.2.1 x.2.2.2.2.1 x.2.2.2.2.2.1 x.2.2.2.2.2.2) (λL x=>e60 nN m90 L x.1.1 x.1.2.1 x.1.2.2 x.2.1 x.2.2.1 x.2.2.2.1 x.2.2.2.2.1 x.2.2.2.2.2.1 x.2.2.2.2.2.2) hm aWc
def aNd (nN:(LV×Int×Int×Int)->Option (Int×Bool))(m91:(LV×Int×Int)->Option LV):Env cxT:={ Kc:=eF [(89,c89 nN)],Kw:=eE [(91,c91 m91)],lv:=λi=>[],xv:=λi=>none }
theorem i61 (nN:(LV×Int×Int×Int)->Option (Int×Bool))(m91:(LV×Int×Int)->Option LV)(L:Nat)(x1:Int)(x2:LB)(x0:LV)(x6 x7:Int)(x8 x3:Int)(x4 x5:Int):wH prog (aNd nN m91) (bH L) f61 (a61.enc ((x1,x2,x0),(x6,x7,x8,x3,x4,x5))) none=
 cZ (nN (x0,(x3,(x4,x5)))) (0,false) λ(q1:(Int×Bool))=>bif (!q1.2)then some (n61 (4,x1,x2,x0))
  else cZ (m91 (x0,(q1.1,(wrap .i64 (q1.1+1))))) [] λ(q2:LV)=>some (n61 (0,x1,x2,q2)):=by kernel_rfl
def g61 (nN:(LV×Int×Int×Int)->Option (Int×Bool))(m91:(LV×Int×Int)->Option LV)(L:Nat)(x1:Int)(x2:LB)(x0:LV)(x6 x7:Int)(x8 x3:Int)(x4 x5:Int):Option CR:=
 cZ (nN (x0,(x3,(x4,x5)))) (0,false) λ(q1:(Int×Bool))=>bif (!q1.2)then some (4,x1,x2,x0)
  else cZ (m91 (x0,(q1.1,(wrap .i64 (q1.1+1))))) [] λ(q2:LV)=>some (0,x1,x2,q2)
theorem e61 (nN:(LV×Int×Int×Int)->Option (Int×Bool))(m91:(LV×Int×Int)->Option LV)(L:Nat)(x0:Int)(x1:LB)(x2:LV)(x3 x4:Int)(x5 x6:Int)(x7 x8:Int):wH prog (aNd nN m91) (bH L) f61 (a61.enc ((x0,x1,x2),(x3,x4,x5,x6,x7,x8))) none=(g61 nN m91 L x0 x1 x2 x3 x4 x5 x6 x7 x8).map n61:=by
 rw[i61];simp only[g61,aU,aS,aT,aD,aE]
theorem s61 (nN:(LV×Int×Int×Int)->Option (Int×Bool))(m91:(LV×Int×Int)->Option LV)(h89:Sat prog cxT 89 (c89 nN))(h91:SatI prog cxT 91 (c91 m91).nres (c91 m91).F)(m:(CZ×DZ)->Option CR)(hm:∀ (x:(CZ×DZ)) t,m x=some t->∃ L,g61 nN m91 L x.1.1 x.1.2.1 x.1.2.2 x.2.1 x.2.2.1 x.2.2.2.1 x.2.2.2.2.1 x.2.2.2.2.2.1 x.2.2.2.2.2.2=some t):SatQ prog cxT 61 (c61 m).nres (c61 m).F (c61 m).bx:=
 aDB bZ bV (by rfl) (fn:=f61) rfl rfl a61 n61 aSJ m (aNd nN m91) (bN h89 bU) (iP h91 bP) (λL x=>g61 nN m91 L x.1.1 x.1.2.1 x.1.2.2 x.2.1 x.2.2.1 x.2.2.2.1 x.2.2.2.2.1 x.2.2.2.2.2.1 x.2.2.2.2.2.2) (λL x=>e61 nN m91 L x.1.1 x.1.2.1 x.1.2.2 x.2.1 x.2.2.1 x.2.2.2.1 x.2.2.2.2.1 x.2.2.2.2.2.1 x.2.2.2.2.2.2) hm aWb
end Go.Proofs.Tryz
