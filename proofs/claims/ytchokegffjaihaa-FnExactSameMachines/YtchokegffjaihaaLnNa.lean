/- A part of the proof of FnExactSameMachines: LnNa, LnNb. -/
import Derived.Test.YtchokegffjaihaaLnPe
import Derived.Test.YtchokegffjaihaaLnFd
set_option linter.unusedSimpArgs false
set_option linter.unusedVariables false
set_option maxHeartbeats 0
namespace Go.Proofs.Try
open Go Go.VM Go.RowKit
abbrev Mg:=Int×List Bk×List Vp×List Ss
def dSs:Ss:=((0:Int),((0:Int),(0:Int)))
def cfg (m:Mg):Cg:=(m.1,m.2.1,m.2.2.1)
def vH (x:List Ss×Int):Option Int:=if 0<=x.2/\x.2<=1048576/\x.1.length<=top then some (iB x.2 x.1.length)else none
theorem aHk:Sat prog cxT 17 (c17 vH):=s17 vH λx t h=>by
 obtain⟨a,v⟩:=x;unfold vH at h;split at h
 ·rename_i hc;cases h;exact⟨0,aAC hc.1 hc.2.1 hc.2.2⟩
 ·cases h
def wG (m:Mg):Int:=wC (cfg m)+(m.2.2.2.length:Int)
theorem pN (c:Cg):0<=wC c:=by
 have:=fZ (w:=wV) (l:=c.2.2) λx _=>jJ x
 unfold wC;omega
def zG (m:Mg):Prop:=okZ (cfg m)/\m.2.2.2.length<=top
instance (m:Mg):Decidable (zG m):=by unfold zG;infer_instance
def m6 (x:Mg×Int):Option Int:=if 0<=x.2/\x.2<=1048576/\zG x.1 then some (iB x.2 (wG x.1))else none
theorem aJQ:Sat prog cxT 6 (c6 m6):=s6 vI vH aHl aHk m6 λx t h=>by
 obtain⟨⟨a,b,c,d⟩,v⟩:=x;unfold m6 at h;split at h
 ·rename_i hc;obtain⟨h0,h1,h2,h3⟩:=hc;cases h;refine⟨0,?_⟩;show g6 vI vH 0 a b c d v=some (iB v (wC (a,b,c)+(d.length:Int)));have h0:0<=v:=h0;have h1:v<=1048576:=h1;have hn:=pN (a,b,c);unfold g6;rw[show vI ((a,b,c),v)=some (iB v (wC (a,b,c))) from if_pos ⟨h0,h1,h2⟩,bX,aBm hn (by omega) h0];have hr:=kN (v:=v) hn h0;by_cases hneg:iB v (wC (a,b,c)) < 0
  ·rw[dt hneg,cond_true,if_pos hneg]
  ·rw[df hneg,cond_false,if_neg hneg,show vH (d,iB v (wC (a,b,c)))=some (iB (iB v (wC (a,b,c))) d.length) from if_pos ⟨by simp only;omega,by simp only;omega,h3⟩,bX];have hr2:=kN (v:=iB v (wC (a,b,c))) (a:=(d.length:Int)) (by omega) (by omega);by_cases hneg2:iB (iB v (wC (a,b,c))) (d.length:Int) < 0
   ·rw[dt hneg2,cond_true];congr 1;omega
   ·rw[df hneg2,cond_false]
 ·cases h
theorem aCI {m:Mg}{v:Int}(hv:v<=1048576)(h:¬ iB v (wG m) < 0):okM (cfg m)/\okC (cfg m)/\m.2.2.2.length<=1048576:=by
 have hn:=pN (cfg m);unfold wG at h;have h1:0<=iB 1048576 (wC (cfg m)):=by
  unfold iB at h ⊢;split at h
  ·omega
  ·split<;>omega
 have h2:m.2.2.2.length<=1048576:=by
  unfold iB at h;split at h<;>omega
 obtain⟨a,b,c⟩:=aCA h1;unfold okM okC oY vJ;exact⟨⟨by omega,by omega,λv hv=>by have:=c v hv;omega⟩,⟨by omega,by omega,λv hv=>by have:=c v hv;omega⟩,h2⟩
theorem aG8:Sat prog cxT 37 (c37 λb=>some b):=s37 _ λx t h=>by
 obtain⟨a,b,c⟩:=x;cases h;exact⟨0,rfl⟩
theorem aIa (L:Nat)(a:List Ss):∀ (n:Nat) (o:List Ss) (i:Int) (k:List Ss->Option (List Ss)),tI (λb=>some b) L a n o i k=toL dSs (λb=>some b) a n o i k
 | 0,_,_,_=>rfl
 | n+1,o,i,k=>by unfold tI toL;simp only[aIa L a n];rfl
def vF (a:List Ss):Option (List Ss):=if a.length<=oY then some a else none
theorem aHi:Sat prog cxT 20 (c20 vF):=s20 _ aG8 vF λx t h=>by
 unfold vF at h;split at h
 ·rename_i ha;cases h;refine⟨x.length+1,?_⟩;unfold g20;rw[rV ha,cond_true,aIa,dR];unfold oY at ha;exact sF dSs _ x (by omega) (λv hv=>rfl) _ _ 0 _ (by simp) (by omega) (by omega) rfl
 ·cases h
def aCV (m:Mg):Prop:=okM (cfg m)/\m.2.2.2.length<=oY
instance (m:Mg):Decidable (aCV m):=by unfold aCV;infer_instance
def m8 (m:Mg):Option Mg:=if aCV m then some m else none
theorem aJP:Sat prog cxT 8 (c8 m8):=s8 vG vF aHj aHi m8 λx t h=>by
 obtain⟨a,b,c,d⟩:=x;unfold m8 at h;split at h
 ·rename_i ha;cases h;refine⟨0,?_⟩;show g8 vG vF 0 a b c d=some (a,b,c,d);unfold g8;rw[show vG (a,b,c)=some (a,b,c) from if_pos ha.1,bX,show vF d=some d from if_pos ha.2,bX]
 ·cases h
theorem aG4:Sat prog cxT 48 (c48 λx=>some (decide (x.1=x.2))):=s48 _ λx t h=>by
 obtain⟨⟨a,b,c⟩,a',b',c'⟩:=x;cases h;refine⟨0,?_⟩;show g48 0 a b c a' b' c'=some (decide ((a,b,c)=(a',b',c')));unfold g48;refine gL (λe1=>?_) (λe h=>by simp at h;exact e h.1);refine gL (λe2=>?_) (λe h=>by simp at h;exact e h.2.1);refine gL (λe3=>?_) (λe h=>by simp at h;exact e h.2.2);subst e1 e2 e3;simp
theorem aH9 (L:Nat)(a b:List Ss):∀ (n:Nat) (i:Int) (k:Option Bool),tH (λx=>some (decide (x.1=x.2))) L a b n i k=pM dSs (λx=>some (decide (x.1=x.2))) a b n i k
 | 0,_,_=>rfl
 | n+1,i,k=>by unfold tH pM;simp only[aH9 L a b n];rfl
def pL (x:List Ss×List Ss):Option Bool:=if x.1.length<=vJ then some (decide (x.1=x.2))else none
theorem aHg:Sat prog cxT 24 (c24 pL):=s24 _ aG4 pL λx t h=>by
 obtain⟨a,b⟩:=x;unfold pL at h;split at h
 ·rename_i hc;cases h;have hc1:a.length<=1000000000000:=hc;refine⟨a.length+1,?_⟩;show g24 _ (a.length+1) a b=some (decide (a=b));unfold g24;refine gL (λe=>?_) λe h=>e (by rw[h])
  rw[aH9];refine(kE dSs _ a b (by omega) (by omega) (λx hx y _=>rfl) _ _ 0 (by omega) (by omega)).trans ?_;simp only[cU];split<;>rename_i hh<;>simp[hh]
 ·cases h
def okG (m:Mg):Prop:=okC (cfg m)/\m.2.2.2.length<=vJ
instance (m:Mg):Decidable (okG m):=by unfold okG;infer_instance
def iA (x:Mg×Mg):Option Bool:=if okG x.1 then some (decide (x.1=x.2))else none
theorem aFK {a a':Int}{b b':List Bk}{c c':List Vp}{d d':List Ss}:decide (((a,b,c,d):Mg)=(a',b',c',d'))=(decide (((a,b,c):Cg)=(a',b',c'))&&decide (d=d')):=by
 rw[Bool.eq_iff_iff];simp only[aL,decide_eq_true_eq,aD,and_assoc]
theorem aHo:Sat prog cxT 10 (c10 iA):=s10 nL pL aHh aHg iA λx t h=>by
 obtain⟨⟨a,b,c,d⟩,a',b',c',d'⟩:=x;unfold iA at h;split at h
 ·rename_i hc;cases h;refine⟨0,?_⟩;show g10 nL pL 0 a b c d a' b' c' d'=some (decide ((a,b,c,d)=(a',b',c',d')));unfold g10;rw[show nL ((a,b,c),a',b',c')=some (decide ((a,b,c)=(a',b',c'))) from if_pos hc.1,bX,show pL (d,d')=some (decide (d=d')) from if_pos hc.2,aFK];by_cases e1:(a,b,c)=(a',b',c')<;>by_cases e2:d=d'<;>simp only[e1,e2,decide_true,decide_false,hJ,kK,cond_true,cond_false,bX,hU,Bool.and_true,Bool.true_and,nX]
 ·cases h
theorem aH8 (L:Nat)(a b:List Ss):∀ (n:Nat) (i:Int) (k:Option Bool),tF L a b n i k=pM dSs (λx=>some ((x.1.1 == x.2.1)&&(x.1.2.1 == x.2.2.1)&&(x.1.2.2 == x.2.2.2))) a b n i k
 | 0,_,_=>rfl
 | n+1,i,k=>by unfold tF pM;simp only[aH8 L a b n,bX];rfl
theorem aGM (x y:Ss):((x.1 == y.1)&&(x.2.1 == y.2.1)&&(x.2.2 == y.2.2))=decide (x=y):=by
 obtain⟨a,b,c⟩:=x;obtain⟨a',b',c'⟩:=y;rw[Bool.eq_iff_iff];simp only[aL,decide_eq_true_eq,aD,and_assoc,beq_iff_eq]
theorem aHd:Sat prog cxT 30 (c30 pL):=s30 pL λx t h=>by
 obtain⟨a,b⟩:=x;unfold pL at h;split at h
 ·rename_i hc;cases h;have hc1:a.length<=1000000000000:=hc;refine⟨a.length+1,?_⟩;show g30 (a.length+1) a b=some (decide (a=b));unfold g30;refine gL (λe=>?_) λe h=>e (by rw[h])
  rw[aH8];refine(kE dSs _ a b (by omega) (by omega) (λx hx y _=>by simp only[aGM]) _ _ 0 (by omega) (by omega)).trans ?_;simp only[cU];split<;>rename_i hh<;>simp[hh]
 ·cases h
theorem aHm:Sat prog cxT 15 (c15 iA):=s15 nL pL aHe aHd iA λx t h=>by
 obtain⟨⟨a,b,c,d⟩,a',b',c',d'⟩:=x;unfold iA at h;split at h
 ·rename_i hc;cases h;refine⟨0,?_⟩;show g15 nL pL 0 a b c d a' b' c' d'=some (decide ((a,b,c,d)=(a',b',c',d')));unfold g15;rw[show nL ((a,b,c),a',b',c')=some (decide ((a,b,c)=(a',b',c'))) from if_pos hc.1,bX,show pL (d,d')=some (decide (d=d')) from if_pos hc.2,aFK];by_cases e1:(a,b,c)=(a',b',c')<;>by_cases e2:d=d'<;>simp only[e1,e2,decide_true,decide_false,hJ,kK,cond_true,cond_false,bX,hU,Bool.and_true,Bool.true_and,nX,Bool.false_and]
 ·cases h
theorem aIb (M:Cg×Cg->Option Bool)(L:Nat)(a0:Int)(b0:List Bk)(c0:List Vp)(d0:List Ss)(a1:Int)(b1:List Bk)(c1:List Vp)(d1:List Ss)(A:Int)(B:List Bk)(C:List Vp)(A':Int)(B':List Bk)(C':List Vp)(a b:List Ss):∀ (n:Nat) (i:Int) (k:Option Bool),tJ M L a0 b0 c0 d0 a1 b1 c1 d1 n A B C a A' B' C' b i k=pM dSs (λx=>some ((x.1.1 == x.2.1)&&(x.1.2.1 == x.2.2.1)&&(x.1.2.2 == x.2.2.2))) a b n i k
 | 0,_,_=>rfl
 | n+1,i,k=>by unfold tJ pM;simp only[aIb M L a0 b0 c0 d0 a1 b1 c1 d1 A B C A' B' C' a b n,bX];rfl
theorem aHn:Sat prog cxT 14 (c14 iA):=s14 nL aHf iA λx t h=>by
 obtain⟨⟨a,b,c,d⟩,a',b',c',d'⟩:=x;unfold iA at h;split at h
 ·rename_i hc;cases h;have hc1:d.length<=1000000000000:=hc.2;refine⟨d.length+1,?_⟩;show g14 nL (d.length+1) a b c d a' b' c' d'=some (decide ((a,b,c,d)=(a',b',c',d')));unfold g14;rw[show nL ((a,b,c),a',b',c')=some (decide ((a,b,c)=(a',b',c'))) from if_pos hc.1,bX,aFK];by_cases e1:(a,b,c)=(a',b',c')
  ·rw[dt e1];simp only[hJ,cond_false];refine gL (λe=>?_) λe h=>e (by rw[h])
   rw[aIb];refine(kE dSs _ d d' (by omega) (by omega) (λx hx y _=>by simp only[aGM]) _ _ 0 (by omega) (by omega)).trans ?_;simp only[cU];split<;>rename_i hh<;>simp[hh,e1]
  ·simp[e1]
 ·cases h
def m5 (x:Mg×Mg):Option Bool:=if zG x.1/\zG x.2 then some true else none
theorem sat5:Sat prog cxT 5 (c5 m5):=s5 m6 m8 iA iA iA aJQ aJP aHn aHm aHo m5 λx t h=>by
 obtain⟨⟨a,b,c,d⟩,a',b',c',d'⟩:=x;unfold m5 at h;split at h
 ·rename_i hz;obtain⟨hz,hz'⟩:=hz;cases h;refine⟨0,?_⟩;show g5 m6 m8 iA iA iA 0 a b c d a' b' c' d'=some true
  generalize hX:((a,b,c,d):Mg)=X at hz
  generalize hY:((a',b',c',d'):Mg)=Y at hz'
  unfold g5;simp only[hX,hY];rw[show m6 (X,1048576)=some (iB 1048576 (wG X)) from if_pos ⟨by simp only;omega,by simp only;omega,hz⟩,bX];by_cases h:iB 1048576 (wG X) < 0
  ·rw[dt h,cond_true]
  ·obtain⟨hM,hC,hL⟩:=aCI (by omega) h;have hMX:aCV X:=⟨hM,by unfold oY;omega⟩
   have hGX:okG X:=⟨hC,by unfold vJ;omega⟩
   have hr:=kN (v:=1048576) (a:=wG X) (by unfold wG;have:=pN (cfg X);omega) (by omega);rw[df h,cond_false,show m6 (Y,iB 1048576 (wG X))=some (iB (iB 1048576 (wG X)) (wG Y)) from if_pos ⟨by simp only;omega,by simp only;omega,hz'⟩,bX];by_cases h':iB (iB 1048576 (wG X)) (wG Y) < 0
   ·rw[dt h',cond_true]
   ·obtain⟨hM',hC',hL'⟩:=aCI (by omega) h';have hMY:aCV Y:=⟨hM',by unfold oY;omega⟩
    have hGY:okG Y:=⟨hC',by unfold vJ;omega⟩
    have eX:m8 X=some X:=if_pos hMX;have eY:m8 Y=some Y:=if_pos hMY;rw[df h',cond_false];have pX:iA (X,X)=some true:=by rw[show iA (X,X)=some (decide (X=X)) from if_pos hGX,dt rfl]
    have pY:iA (Y,Y)=some true:=by rw[show iA (Y,Y)=some (decide (Y=Y)) from if_pos hGY,dt rfl]
    have pXY:iA (X,Y)=some (decide (X=Y)):=if_pos hGX;simp only[eX,eY,bX,pX,pY,pXY,beq_self_eq_true,bne_self_eq_false,hJ,cond_false]
 ·cases h
end Go.Proofs.Try
set_option maxHeartbeats 0
namespace Go.Proofs.Try
open Go Go.VM Go.RowKit
def m3 (x:Mg):Option Bool:=if zG x then some true else none
end Go.Proofs.Try
