/- A part of the proof of FnLogs: LkFa, LkFb, LkFc. -/
import Derived.Test.YtlnabockdjjpbaaGreatLkBase
set_option linter.unusedSimpArgs false
set_option linter.unusedVariables false
set_option maxHeartbeats 0
set_option maxRecDepth 100000
namespace Go.Proofs.Tryz
open Go.IntKind (wrap)
open Go Go.VM Go.RowKit
def aJm (dF:Y18):Env bL:={ Kc:=eE [(18,yC dF)],Kw:=eD [],lv:=λi=>[],xv:=λi=>none }
def G43 {B:Type}(u:(Bool×Bool×Bool×Bool)->B)(dF:Y18)(a0:Int):Option B:=
 bS (dF (a0,((5:Int),(8:Int)))) false λ(q1:Bool)=>bif (a0 != (5:Int))then bif (a0 == (1:Int))then some (u ((a0 != (6:Int)),true,(a0 != (4:Int)),q1))
   else some (u ((a0 != (6:Int)),q1,(a0 != (4:Int)),q1))
  else bif (a0 == (1:Int))then some (u (false,true,(a0 != (4:Int)),q1))
  else some (u (false,q1,(a0 != (4:Int)),q1))
def g43 (dF:Y18)(L:Nat)(a0:Int):Option (Bool×Bool×Bool×Bool):=G43 (λx=>x) dF a0
theorem e43 (dF:Y18)(L:Nat)(a0:Int):jL prog (aJm dF) (cE L) f43 (a43.enc a0)=(g43 dF L a0).map n43:=by
 refine .trans (b:=G43 n43 dF a0) (by kernel_rfl) ?_;unfold g43 G43
 repeat' first | with_reducible refine gW ?_ ?_ | with_reducible refine gU λ_=>?_ | with_reducible refine gV λ_=>?_ | exact rfl
def w43 (dF:Y18)(L:Nat)(x:Int):Option (Bool×Bool×Bool×Bool):=g43 dF L x
theorem s43 (dF:Y18)(h18:Sat prog bL 18 (yC dF))(m:Y43)(hm:∀ (x:Int) t,m x=some t->∃ L,w43 dF L x=some t):Sat prog bL 43 (c43 m):=
 dZ cC bX (by rfl) (fn:=f43) rfl a43 n43 aJ7 m (aJm dF) (bM h18 bW) bH (w43 dF) (λL x=>e43 dF L x) hm aMi
def aJk (dF:Y18):Env bL:={ Kc:=eE [(18,yC dF)],Kw:=eD [],lv:=λi=>[],xv:=λi=>none }
def G49 {B:Type}(u:Bool->B)(dF:Y18)(a0:Int):Option B:=
 bS (dF (a0,((0:Int),(1000000:Int)))) false λ(q1:Bool)=>some (u q1)
def g49 (dF:Y18)(L:Nat)(a0:Int):Option Bool:=G49 (λx=>x) dF a0
theorem e49 (dF:Y18)(L:Nat)(a0:Int):jL prog (aJk dF) (cE L) f49 (a49.enc a0)=(g49 dF L a0).map n49:=by
 refine .trans (b:=G49 n49 dF a0) (by kernel_rfl) ?_;unfold g49 G49
 repeat' first | with_reducible refine gW ?_ ?_ | with_reducible refine gU λ_=>?_ | with_reducible refine gV λ_=>?_ | exact rfl
def w49 (dF:Y18)(L:Nat)(x:Int):Option Bool:=g49 dF L x
theorem s49 (dF:Y18)(h18:Sat prog bL 18 (yC dF))(m:Y49)(hm:∀ (x:Int) t,m x=some t->∃ L,w49 dF L x=some t):Sat prog bL 49 (c49 m):=
 dZ cC bX (by rfl) (fn:=f49) rfl a49 n49 aJ5 m (aJk dF) (bM h18 bW) bH (w49 dF) (λL x=>e49 dF L x) hm aMg
def aJj (dF:Y18):Env bL:={ Kc:=eE [(18,yC dF)],Kw:=eD [],lv:=λi=>[],xv:=λi=>none }
def G50 {B:Type}(u:Bool->B)(dF:Y18)(a0:Int):Option B:=
 bS (dF (a0,((1:Int),(999:Int)))) false λ(q1:Bool)=>some (u q1)
def g50 (dF:Y18)(L:Nat)(a0:Int):Option Bool:=G50 (λx=>x) dF a0
theorem e50 (dF:Y18)(L:Nat)(a0:Int):jL prog (aJj dF) (cE L) f50 (a50.enc a0)=(g50 dF L a0).map n50:=by
 refine .trans (b:=G50 n50 dF a0) (by kernel_rfl) ?_;unfold g50 G50
 repeat' first | with_reducible refine gW ?_ ?_ | with_reducible refine gU λ_=>?_ | with_reducible refine gV λ_=>?_ | exact rfl
def w50 (dF:Y18)(L:Nat)(x:Int):Option Bool:=g50 dF L x
theorem s50 (dF:Y18)(h18:Sat prog bL 18 (yC dF))(m:Y50)(hm:∀ (x:Int) t,m x=some t->∃ L,w50 dF L x=some t):Sat prog bL 50 (c50 m):=
 dZ cC bX (by rfl) (fn:=f50) rfl a50 n50 aJ4 m (aJj dF) (bM h18 bW) bH (w50 dF) (λL x=>e50 dF L x) hm aMf
def aJi (dF:Y18):Env bL:={ Kc:=eE [(18,yC dF)],Kw:=eD [],lv:=λi=>[],xv:=λi=>none }
def G51 {B:Type}(u:Bool->B)(dF:Y18)(a0:Int):Option B:=
 bS (dF (a0,((0:Int),(4294967295:Int)))) false λ(q1:Bool)=>some (u q1)
def g51 (dF:Y18)(L:Nat)(a0:Int):Option Bool:=G51 (λx=>x) dF a0
theorem e51 (dF:Y18)(L:Nat)(a0:Int):jL prog (aJi dF) (cE L) f51 (a51.enc a0)=(g51 dF L a0).map n51:=by
 refine .trans (b:=G51 n51 dF a0) (by kernel_rfl) ?_;unfold g51 G51
 repeat' first | with_reducible refine gW ?_ ?_ | with_reducible refine gU λ_=>?_ | with_reducible refine gV λ_=>?_ | exact rfl
def w51 (dF:Y18)(L:Nat)(x:Int):Option Bool:=g51 dF L x
theorem s51 (dF:Y18)(h18:Sat prog bL 18 (yC dF))(m:Y51)(hm:∀ (x:Int) t,m x=some t->∃ L,w51 dF L x=some t):Sat prog bL 51 (c51 m):=
 dZ cC bX (by rfl) (fn:=f51) rfl a51 n51 aJ3 m (aJi dF) (bM h18 bW) bH (w51 dF) (λL x=>e51 dF L x) hm aMe
def aJh (dF:Y18)(m70:Y70):Env bL:={ Kc:=eE [(18,yC dF),(70,c70 m70)],Kw:=eD [],lv:=λi=>[],xv:=λi=>none }
def G52 {B:Type}(u:Bool->B)(dF:Y18)(m70:Y70)(a0_0:Int)(a0_1:Int)(a0_2:Int)(a0_3:Int)(a0_4:Int)(a0_5:Int):Option B:=
 bif (a0_0 == (1:Int))then bS (dF (a0_4,((0:Int),(9:Int)))) false λ(q2:Bool)=>some (u q2)
 else bif (a0_0 == (2:Int))then bS (dF (a0_4,((0:Int),(9:Int)))) false λ(q2:Bool)=>some (u q2)
 else bif (a0_0 == (3:Int))then bS (dF (a0_4,((1:Int),(3:Int)))) false λ(q2:Bool)=>some (u q2)
 else bif (a0_0 == (9:Int))then bS (dF (a0_4,((0:Int),(1:Int)))) false λ(q2:Bool)=>some (u q2)
 else bS (m70 a0_4) false λ(q1:Bool)=>some (u q1)
def g52 (dF:Y18)(m70:Y70)(L:Nat)(a0_0:Int)(a0_1:Int)(a0_2:Int)(a0_3:Int)(a0_4:Int)(a0_5:Int):Option Bool:=G52 (λx=>x) dF m70 a0_0 a0_1 a0_2 a0_3 a0_4 a0_5
theorem e52 (dF:Y18)(m70:Y70)(L:Nat)(a0_0:Int)(a0_1:Int)(a0_2:Int)(a0_3:Int)(a0_4:Int)(a0_5:Int):jL prog (aJh dF m70) (cE L) f52 (a52.enc (a0_0,a0_1,a0_2,a0_3,a0_4,a0_5))=(g52 dF m70 L a0_0 a0_1 a0_2 a0_3 a0_4 a0_5).map n52:=by
 refine .trans (b:=G52 n52 dF m70 a0_0 a0_1 a0_2 a0_3 a0_4 a0_5) (by kernel_rfl) ?_;unfold g52 G52
 repeat' first | with_reducible refine gW ?_ ?_ | with_reducible refine gU λ_=>?_ | with_reducible refine gV λ_=>?_ | exact rfl
def w52 (dF:Y18)(m70:Y70)(L:Nat)(x:(Int×Int×Int×Int×Int×Int)):Option Bool:=g52 dF m70 L x.1 x.2.1 x.2.2.1 x.2.2.2.1 x.2.2.2.2.1 x.2.2.2.2.2
theorem s52 (dF:Y18)(m70:Y70)(h18:Sat prog bL 18 (yC dF))(h70:Sat prog bL 70 (c70 m70))(m:Y52)(hm:∀ (x:(Int×Int×Int×Int×Int×Int)) t,m x=some t->∃ L,w52 dF m70 L x=some t):Sat prog bL 52 (c52 m):=
 dZ cC bX (by rfl) (fn:=f52) rfl a52 n52 aJ2 m (aJh dF m70) (bM h18 (bM h70 bW)) bH (w52 dF m70) (λL x=>e52 dF m70 L x.1 x.2.1 x.2.2.1 x.2.2.2.1 x.2.2.2.2.1 x.2.2.2.2.2) hm aMd
def aJg:Env bL:={ Kc:=eE [],Kw:=eD [],lv:=λi=>[],xv:=λi=>none }
def G53 {B:Type}(u:Bool->B)(a0:Int):Option B:=
 bif (a0 == (6:Int))then some (u true)
 else some (u (a0 == (17:Int)))
def g53 (L:Nat)(a0:Int):Option Bool:=G53 (λx=>x) a0
theorem e53 (L:Nat)(a0:Int):jL prog aJg (cE L) f53 (a53.enc a0)=(g53 L a0).map n53:=by
 refine .trans (b:=G53 n53 a0) (by kernel_rfl) ?_;unfold g53 G53
 repeat' first | with_reducible refine gW ?_ ?_ | with_reducible refine gU λ_=>?_ | with_reducible refine gV λ_=>?_ | exact rfl
def w53 (L:Nat)(x:Int):Option Bool:=g53 L x
theorem s53 (m:Y53)(hm:∀ (x:Int) t,m x=some t->∃ L,w53 L x=some t):Sat prog bL 53 (c53 m):=
 dZ cC bX (by rfl) (fn:=f53) rfl a53 n53 aJ1 m aJg bW bH (w53) (λL x=>e53 L x) hm aMc
def aI8 (dF:Y18):Env bL:={ Kc:=eE [(18,yC dF)],Kw:=eD [],lv:=λi=>[],xv:=λi=>none }
def G70 {B:Type}(u:Bool->B)(dF:Y18)(a0:Int):Option B:=
 bS (dF (a0,((0:Int),(65535:Int)))) false λ(q1:Bool)=>some (u q1)
def g70 (dF:Y18)(L:Nat)(a0:Int):Option Bool:=G70 (λx=>x) dF a0
theorem e70 (dF:Y18)(L:Nat)(a0:Int):jL prog (aI8 dF) (cE L) f70 (a70.enc a0)=(g70 dF L a0).map n70:=by
 refine .trans (b:=G70 n70 dF a0) (by kernel_rfl) ?_;unfold g70 G70
 repeat' first | with_reducible refine gW ?_ ?_ | with_reducible refine gU λ_=>?_ | with_reducible refine gV λ_=>?_ | exact rfl
def w70 (dF:Y18)(L:Nat)(x:Int):Option Bool:=g70 dF L x
theorem s70 (dF:Y18)(h18:Sat prog bL 18 (yC dF))(m:Y70)(hm:∀ (x:Int) t,m x=some t->∃ L,w70 dF L x=some t):Sat prog bL 70 (c70 m):=
 dZ cC bX (by rfl) (fn:=f70) rfl a70 n70 aJT m (aI8 dF) (bM h18 bW) bH (w70 dF) (λL x=>e70 dF L x) hm aL4
def aJl:Env bL:={ Kc:=eE [],Kw:=eD [],lv:=λi=>[],xv:=λi=>none }
def G46 {B:Type}(u:Bool->B)(a0:Int):Option B:=
 bif (decide (a0>=(0:Int)))then some (u (decide (a0<=(1000000:Int))))
 else some (u false)
def g46 (L:Nat)(a0:Int):Option Bool:=G46 (λx=>x) a0
theorem e46 (L:Nat)(a0:Int):jL prog aJl (cE L) f46 (a46.enc a0)=(g46 L a0).map n46:=by
 refine .trans (b:=G46 n46 a0) (by kernel_rfl) ?_;unfold g46 G46
 repeat' first | with_reducible refine gW ?_ ?_ | with_reducible refine gU λ_=>?_ | with_reducible refine gV λ_=>?_ | exact rfl
def w46 (L:Nat)(x:Int):Option Bool:=g46 L x
theorem s46 (m:Y46)(hm:∀ (x:Int) t,m x=some t->∃ L,w46 L x=some t):Sat prog bL 46 (c46 m):=
 dZ cC bX (by rfl) (fn:=f46) rfl a46 n46 aJ6 m aJl bW bH (w46) (λL x=>e46 L x) hm aMh
def aJf:Env bL:={ Kc:=eE [],Kw:=eD [],lv:=λi=>[],xv:=λi=>none }
def G54 {B:Type}(u:Bool->B)(a0:Int):Option B:=
 bif (decide (a0>=(1:Int)))then some (u (decide (a0<=(999:Int))))
 else some (u false)
def g54 (L:Nat)(a0:Int):Option Bool:=G54 (λx=>x) a0
theorem e54 (L:Nat)(a0:Int):jL prog aJf (cE L) f54 (a54.enc a0)=(g54 L a0).map n54:=by
 refine .trans (b:=G54 n54 a0) (by kernel_rfl) ?_;unfold g54 G54
 repeat' first | with_reducible refine gW ?_ ?_ | with_reducible refine gU λ_=>?_ | with_reducible refine gV λ_=>?_ | exact rfl
def w54 (L:Nat)(x:Int):Option Bool:=g54 L x
theorem s54 (m:Y54)(hm:∀ (x:Int) t,m x=some t->∃ L,w54 L x=some t):Sat prog bL 54 (c54 m):=
 dZ cC bX (by rfl) (fn:=f54) rfl a54 n54 aJ0 m aJf bW bH (w54) (λL x=>e54 L x) hm aMb
def aJe:Env bL:={ Kc:=eE [],Kw:=eD [],lv:=λi=>[],xv:=λi=>none }
def G55 {B:Type}(u:Bool->B)(a0:Int):Option B:=
 bif (decide (a0>=(0:Int)))then some (u (decide (a0<=(4294967295:Int))))
 else some (u false)
def g55 (L:Nat)(a0:Int):Option Bool:=G55 (λx=>x) a0
theorem e55 (L:Nat)(a0:Int):jL prog aJe (cE L) f55 (a55.enc a0)=(g55 L a0).map n55:=by
 refine .trans (b:=G55 n55 a0) (by kernel_rfl) ?_;unfold g55 G55
 repeat' first | with_reducible refine gW ?_ ?_ | with_reducible refine gU λ_=>?_ | with_reducible refine gV λ_=>?_ | exact rfl
def w55 (L:Nat)(x:Int):Option Bool:=g55 L x
theorem s55 (m:Y55)(hm:∀ (x:Int) t,m x=some t->∃ L,w55 L x=some t):Sat prog bL 55 (c55 m):=
 dZ cC bX (by rfl) (fn:=f55) rfl a55 n55 aJZ m aJe bW bH (w55) (λL x=>e55 L x) hm aMa
def aJd:Env bL:={ Kc:=eE [],Kw:=eD [],lv:=λi=>[],xv:=λi=>none }
def G56 {B:Type}(u:Bool->B)(a0:Int):Option B:=
 bif (decide (a0>=(0:Int)))then some (u (decide (a0<=(9:Int))))
 else some (u false)
def g56 (L:Nat)(a0:Int):Option Bool:=G56 (λx=>x) a0
theorem e56 (L:Nat)(a0:Int):jL prog aJd (cE L) f56 (a56.enc a0)=(g56 L a0).map n56:=by
 refine .trans (b:=G56 n56 a0) (by kernel_rfl) ?_;unfold g56 G56
 repeat' first | with_reducible refine gW ?_ ?_ | with_reducible refine gU λ_=>?_ | with_reducible refine gV λ_=>?_ | exact rfl
def w56 (L:Nat)(x:Int):Option Bool:=g56 L x
theorem s56 (m:Y56)(hm:∀ (x:Int) t,m x=some t->∃ L,w56 L x=some t):Sat prog bL 56 (c56 m):=
 dZ cC bX (by rfl) (fn:=f56) rfl a56 n56 aJY m aJd bW bH (w56) (λL x=>e56 L x) hm aL9
def aJc:Env bL:={ Kc:=eE [],Kw:=eD [],lv:=λi=>[],xv:=λi=>none }
def G59 {B:Type}(u:Bool->B)(a0:Int):Option B:=
 bif (decide (a0>=(1:Int)))then some (u (decide (a0<=(3:Int))))
 else some (u false)
def g59 (L:Nat)(a0:Int):Option Bool:=G59 (λx=>x) a0
theorem e59 (L:Nat)(a0:Int):jL prog aJc (cE L) f59 (a59.enc a0)=(g59 L a0).map n59:=by
 refine .trans (b:=G59 n59 a0) (by kernel_rfl) ?_;unfold g59 G59
 repeat' first | with_reducible refine gW ?_ ?_ | with_reducible refine gU λ_=>?_ | with_reducible refine gV λ_=>?_ | exact rfl
def w59 (L:Nat)(x:Int):Option Bool:=g59 L x
theorem s59 (m:Y59)(hm:∀ (x:Int) t,m x=some t->∃ L,w59 L x=some t):Sat prog bL 59 (c59 m):=
 dZ cC bX (by rfl) (fn:=f59) rfl a59 n59 aJX m aJc bW bH (w59) (λL x=>e59 L x) hm aL8
def aJb:Env bL:={ Kc:=eE [],Kw:=eD [],lv:=λi=>[],xv:=λi=>none }
def G62 {B:Type}(u:Bool->B)(a0:Int):Option B:=
 bif (decide (a0>=(0:Int)))then some (u (decide (a0<=(65535:Int))))
 else some (u false)
def g62 (L:Nat)(a0:Int):Option Bool:=G62 (λx=>x) a0
theorem e62 (L:Nat)(a0:Int):jL prog aJb (cE L) f62 (a62.enc a0)=(g62 L a0).map n62:=by
 refine .trans (b:=G62 n62 a0) (by kernel_rfl) ?_;unfold g62 G62
 repeat' first | with_reducible refine gW ?_ ?_ | with_reducible refine gU λ_=>?_ | with_reducible refine gV λ_=>?_ | exact rfl
def w62 (L:Nat)(x:Int):Option Bool:=g62 L x
theorem s62 (m:Y62)(hm:∀ (x:Int) t,m x=some t->∃ L,w62 L x=some t):Sat prog bL 62 (c62 m):=
 dZ cC bX (by rfl) (fn:=f62) rfl a62 n62 aJW m aJb bW bH (w62) (λL x=>e62 L x) hm aL7
def aJa:Env bL:={ Kc:=eE [],Kw:=eD [],lv:=λi=>[],xv:=λi=>none }
def G63 {B:Type}(u:Bool->B)(a0:Int):Option B:=
 bif (a0 == (6:Int))then some (u true)
 else some (u (a0 == (17:Int)))
def g63 (L:Nat)(a0:Int):Option Bool:=G63 (λx=>x) a0
theorem e63 (L:Nat)(a0:Int):jL prog aJa (cE L) f63 (a63.enc a0)=(g63 L a0).map n63:=by
 refine .trans (b:=G63 n63 a0) (by kernel_rfl) ?_;unfold g63 G63
 repeat' first | with_reducible refine gW ?_ ?_ | with_reducible refine gU λ_=>?_ | with_reducible refine gV λ_=>?_ | exact rfl
def w63 (L:Nat)(x:Int):Option Bool:=g63 L x
theorem s63 (m:Y63)(hm:∀ (x:Int) t,m x=some t->∃ L,w63 L x=some t):Sat prog bL 63 (c63 m):=
 dZ cC bX (by rfl) (fn:=f63) rfl a63 n63 aJV m aJa bW bH (w63) (λL x=>e63 L x) hm aL6
def aI9:Env bL:={ Kc:=eE [],Kw:=eD [],lv:=λi=>[],xv:=λi=>none }
def G68 {B:Type}(u:Bool->B)(a0:Int):Option B:=
 bif (a0 == (0:Int))then some (u true)
 else some (u (a0 == (1:Int)))
def g68 (L:Nat)(a0:Int):Option Bool:=G68 (λx=>x) a0
theorem e68 (L:Nat)(a0:Int):jL prog aI9 (cE L) f68 (a68.enc a0)=(g68 L a0).map n68:=by
 refine .trans (b:=G68 n68 a0) (by kernel_rfl) ?_;unfold g68 G68
 repeat' first | with_reducible refine gW ?_ ?_ | with_reducible refine gU λ_=>?_ | with_reducible refine gV λ_=>?_ | exact rfl
def w68 (L:Nat)(x:Int):Option Bool:=g68 L x
theorem s68 (m:Y68)(hm:∀ (x:Int) t,m x=some t->∃ L,w68 L x=some t):Sat prog bL 68 (c68 m):=
 dZ cC bX (by rfl) (fn:=f68) rfl a68 n68 aJU m aI9 bW bH (w68) (λL x=>e68 L x) hm aL5
def aJp:Env bL:={ Kc:=eE [],Kw:=eD [],lv:=λi=>[],xv:=λi=>none }
def G39 {B:Type}(u:Bool->B)(a0:Int):Option B:=
 bif (decide (a0>=(1:Int)))then some (u (decide (a0<=(100000:Int))))
 else some (u false)
def g39 (L:Nat)(a0:Int):Option Bool:=G39 (λx=>x) a0
theorem e39 (L:Nat)(a0:Int):jL prog aJp (cE L) f39 (a39.enc a0)=(g39 L a0).map n39:=by
 refine .trans (b:=G39 n39 a0) (by kernel_rfl) ?_;unfold g39 G39
 repeat' first | with_reducible refine gW ?_ ?_ | with_reducible refine gU λ_=>?_ | with_reducible refine gV λ_=>?_ | exact rfl
def w39 (L:Nat)(x:Int):Option Bool:=g39 L x
theorem s39 (m:Y39)(hm:∀ (x:Int) t,m x=some t->∃ L,w39 L x=some t):Sat prog bL 39 (c39 m):=
 dZ cC bX (by rfl) (fn:=f39) rfl a39 n39 aKa m aJp bW bH (w39) (λL x=>e39 L x) hm aMl
def aJo:Env bL:={ Kc:=eE [],Kw:=eD [],lv:=λi=>[],xv:=λi=>none }
def G40 {B:Type}(u:Bool->B)(a0:Int):Option B:=
 bif (decide (a0>=(0:Int)))then some (u (decide (a0<=(999:Int))))
 else some (u false)
def g40 (L:Nat)(a0:Int):Option Bool:=G40 (λx=>x) a0
theorem e40 (L:Nat)(a0:Int):jL prog aJo (cE L) f40 (a40.enc a0)=(g40 L a0).map n40:=by
 refine .trans (b:=G40 n40 a0) (by kernel_rfl) ?_;unfold g40 G40
 repeat' first | with_reducible refine gW ?_ ?_ | with_reducible refine gU λ_=>?_ | with_reducible refine gV λ_=>?_ | exact rfl
def w40 (L:Nat)(x:Int):Option Bool:=g40 L x
theorem s40 (m:Y40)(hm:∀ (x:Int) t,m x=some t->∃ L,w40 L x=some t):Sat prog bL 40 (c40 m):=
 dZ cC bX (by rfl) (fn:=f40) rfl a40 n40 aJ9 m aJo bW bH (w40) (λL x=>e40 L x) hm aMk
def aJn:Env bL:={ Kc:=eE [],Kw:=eD [],lv:=λi=>[],xv:=λi=>none }
def G41 {B:Type}(u:Bool->B)(a0:Int):Option B:=
 bif (decide (a0>=(0:Int)))then some (u (decide (a0<=(1000000:Int))))
 else some (u false)
def g41 (L:Nat)(a0:Int):Option Bool:=G41 (λx=>x) a0
theorem e41 (L:Nat)(a0:Int):jL prog aJn (cE L) f41 (a41.enc a0)=(g41 L a0).map n41:=by
 refine .trans (b:=G41 n41 a0) (by kernel_rfl) ?_;unfold g41 G41
 repeat' first | with_reducible refine gW ?_ ?_ | with_reducible refine gU λ_=>?_ | with_reducible refine gV λ_=>?_ | exact rfl
def w41 (L:Nat)(x:Int):Option Bool:=g41 L x
theorem s41 (m:Y41)(hm:∀ (x:Int) t,m x=some t->∃ L,w41 L x=some t):Sat prog bL 41 (c41 m):=
 dZ cC bX (by rfl) (fn:=f41) rfl a41 n41 aJ8 m aJn bW bH (w41) (λL x=>e41 L x) hm aMj
end Go.Proofs.Tryz
set_option maxHeartbeats 0
set_option maxRecDepth 100000
namespace Go.Proofs.Tryz
open Go.IntKind (wrap)
open Go Go.VM Go.RowKit
def aJG:Env bL:={ Kc:=eE [],Kw:=eD [],lv:=λi=>[],xv:=λi=>none }
def G18 {B:Type}(u:Bool->B)(a0:Int)(a1:Int)(a2:Int):Option B:=
 bif (decide (a0>=a1))then some (u (decide (a0<=a2)))
 else some (u false)
def g18 (L:Nat)(a0:Int)(a1:Int)(a2:Int):Option Bool:=G18 (λx=>x) a0 a1 a2
theorem e18 (L:Nat)(a0:Int)(a1:Int)(a2:Int):jL prog aJG (cE L) f18 (a18.enc (a0,a1,a2))=(g18 L a0 a1 a2).map n18:=by
 refine .trans (b:=G18 n18 a0 a1 a2) (by kernel_rfl) ?_;unfold g18 G18
 repeat' first | with_reducible refine gW ?_ ?_ | with_reducible refine gU λ_=>?_ | with_reducible refine gV λ_=>?_ | exact rfl
def w18 (L:Nat)(x:(Int×Int×Int)):Option Bool:=g18 L x.1 x.2.1 x.2.2
theorem s18 (m:Y18)(hm:∀ (x:(Int×Int×Int)) t,m x=some t->∃ L,w18 L x=some t):Sat prog bL 18 (yC m):=
 dZ cC bX (by rfl) (fn:=f18) rfl a18 n18 aKv m aJG bW bH (w18) (λL x=>e18 L x.1 x.2.1 x.2.2) hm aMA
def aJz:Env bL:={ Kc:=eE [],Kw:=eD [],lv:=λi=>[],xv:=λi=>none }
def G28 {B:Type}(u:Bool->B)(a0_0:Int)(a0_1:Int)(a0_2:Int)(a0_3:Int)(a0_4:Int)(a0_5:Int)(a0_6:Int)(a0_7:Int)(a0_8:Int)(a1_0:Int)(a1_1:Int)(a1_2:Int)(a1_3:Int)(a1_4:Int)(a1_5:Int)(a1_6:Int)(a1_7:Int)(a1_8:Int):Option B:=
 some (u (((((((((a0_0 == a1_0)&&(a0_1 == a1_1))&&(a0_2 == a1_2))&&(a0_3 == a1_3))&&(a0_4 == a1_4))&&(a0_5 == a1_5))&&(a0_6 == a1_6))&&(a0_7 == a1_7))&&(a0_8 == a1_8)))
def g28 (L:Nat)(a0_0:Int)(a0_1:Int)(a0_2:Int)(a0_3:Int)(a0_4:Int)(a0_5:Int)(a0_6:Int)(a0_7:Int)(a0_8:Int)(a1_0:Int)(a1_1:Int)(a1_2:Int)(a1_3:Int)(a1_4:Int)(a1_5:Int)(a1_6:Int)(a1_7:Int)(a1_8:Int):Option Bool:=G28 (λx=>x) a0_0 a0_1 a0_2 a0_3 a0_4 a0_5 a0_6 a0_7 a0_8 a1_0 a1_1 a1_2 a1_3 a1_4 a1_5 a1_6 a1_7 a1_8
theorem e28 (L:Nat)(a0_0:Int)(a0_1:Int)(a0_2:Int)(a0_3:Int)(a0_4:Int)(a0_5:Int)(a0_6:Int)(a0_7:Int)(a0_8:Int)(a1_0:Int)(a1_1:Int)(a1_2:Int)(a1_3:Int)(a1_4:Int)(a1_5:Int)(a1_6:Int)(a1_7:Int)(a1_8:Int):jL prog aJz (cE L) f28 (a28.enc ((a0_0,a0_1,a0_2,a0_3,a0_4,a0_5,a0_6,a0_7,a0_8),(a1_0,a1_1,a1_2,a1_3,a1_4,a1_5,a1_6,a1_7,a1_8)))=(g28 L a0_0 a0_1 a0_2 a0_3 a0_4 a0_5 a0_6 a0_7 a0_8 a1_0 a1_1 a1_2 a1_3 a1_4 a1_5 a1_6 a1_7 a1_8).map n28:=by
 refine .trans (b:=G28 n28 a0_0 a0_1 a0_2 a0_3 a0_4 a0_5 a0_6 a0_7 a0_8 a1_0 a1_1 a1_2 a1_3 a1_4 a1_5 a1_6 a1_7 a1_8) (by kernel_rfl) ?_;unfold g28 G28
 repeat' first | with_reducible refine gW ?_ ?_ | with_reducible refine gU λ_=>?_ | with_reducible refine gV λ_=>?_ | exact rfl
def w28 (L:Nat)(x:(E9×E9)):Option Bool:=g28 L x.1.1 x.1.2.1 x.1.2.2.1 x.1.2.2.2.1 x.1.2.2.2.2.1 x.1.2.2.2.2.2.1 x.1.2.2.2.2.2.2.1 x.1.2.2.2.2.2.2.2.1 x.1.2.2.2.2.2.2.2.2 x.2.1 x.2.2.1 x.2.2.2.1 x.2.2.2.2.1 x.2.2.2.2.2.1 x.2.2.2.2.2.2.1 x.2.2.2.2.2.2.2.1 x.2.2.2.2.2.2.2.2.1 x.2.2.2.2.2.2.2.2.2
theorem s28 (m:Y28)(hm:∀ (x:(E9×E9)) t,m x=some t->∃ L,w28 L x=some t):Sat prog bL 28 (c28 m):=
 dZ cC bX (by rfl) (fn:=f28) rfl a28 n28 aKl m aJz bW bH (w28) (λL x=>e28 L x.1.1 x.1.2.1 x.1.2.2.1 x.1.2.2.2.1 x.1.2.2.2.2.1 x.1.2.2.2.2.2.1 x.1.2.2.2.2.2.2.1 x.1.2.2.2.2.2.2.2.1 x.1.2.2.2.2.2.2.2.2 x.2.1 x.2.2.1 x.2.2.2.1 x.2.2.2.2.1 x.2.2.2.2.2.1 x.2.2.2.2.2.2.1 x.2.2.2.2.2.2.2.1 x.2.2.2.2.2.2.2.2.1 x.2.2.2.2.2.2.2.2.2) hm aMs
def aJs:Env bL:={ Kc:=eE [],Kw:=eD [],lv:=λi=>[],xv:=λi=>none }
def G36 {B:Type}(u:Bool->B)(a0_0:Int)(a0_1:Int)(a0_2:Int)(a0_3:Int)(a0_4:Int)(a0_5:Int)(a0_6:Int)(a0_7:Int)(a0_8:Int)(a1_0:Int)(a1_1:Int)(a1_2:Int)(a1_3:Int)(a1_4:Int)(a1_5:Int)(a1_6:Int)(a1_7:Int)(a1_8:Int):Option B:=
 some (u (a0_0 == a1_0))
def g36 (L:Nat)(a0_0:Int)(a0_1:Int)(a0_2:Int)(a0_3:Int)(a0_4:Int)(a0_5:Int)(a0_6:Int)(a0_7:Int)(a0_8:Int)(a1_0:Int)(a1_1:Int)(a1_2:Int)(a1_3:Int)(a1_4:Int)(a1_5:Int)(a1_6:Int)(a1_7:Int)(a1_8:Int):Option Bool:=G36 (λx=>x) a0_0 a0_1 a0_2 a0_3 a0_4 a0_5 a0_6 a0_7 a0_8 a1_0 a1_1 a1_2 a1_3 a1_4 a1_5 a1_6 a1_7 a1_8
theorem e36 (L:Nat)(a0_0:Int)(a0_1:Int)(a0_2:Int)(a0_3:Int)(a0_4:Int)(a0_5:Int)(a0_6:Int)(a0_7:Int)(a0_8:Int)(a1_0:Int)(a1_1:Int)(a1_2:Int)(a1_3:Int)(a1_4:Int)(a1_5:Int)(a1_6:Int)(a1_7:Int)(a1_8:Int):jL prog aJs (cE L) f36 (a36.enc ((a0_0,a0_1,a0_2,a0_3,a0_4,a0_5,a0_6,a0_7,a0_8),(a1_0,a1_1,a1_2,a1_3,a1_4,a1_5,a1_6,a1_7,a1_8)))=(g36 L a0_0 a0_1 a0_2 a0_3 a0_4 a0_5 a0_6 a0_7 a0_8 a1_0 a1_1 a1_2 a1_3 a1_4 a1_5 a1_6 a1_7 a1_8).map n36:=by
 refine .trans (b:=G36 n36 a0_0 a0_1 a0_2 a0_3 a0_4 a0_5 a0_6 a0_7 a0_8 a1_0 a1_1 a1_2 a1_3 a1_4 a1_5 a1_6 a1_7 a1_8) (by kernel_rfl) ?_;unfold g36 G36
 repeat' first | with_reducible refine gW ?_ ?_ | with_reducible refine gU λ_=>?_ | with_reducible refine gV λ_=>?_ | exact rfl
def w36 (L:Nat)(x:(E9×E9)):Option Bool:=g36 L x.1.1 x.1.2.1 x.1.2.2.1 x.1.2.2.2.1 x.1.2.2.2.2.1 x.1.2.2.2.2.2.1 x.1.2.2.2.2.2.2.1 x.1.2.2.2.2.2.2.2.1 x.1.2.2.2.2.2.2.2.2 x.2.1 x.2.2.1 x.2.2.2.1 x.2.2.2.2.1 x.2.2.2.2.2.1 x.2.2.2.2.2.2.1 x.2.2.2.2.2.2.2.1 x.2.2.2.2.2.2.2.2.1 x.2.2.2.2.2.2.2.2.2
theorem s36 (m:Y36)(hm:∀ (x:(E9×E9)) t,m x=some t->∃ L,w36 L x=some t):Sat prog bL 36 (c36 m):=
 dZ cC bX (by rfl) (fn:=f36) rfl a36 n36 aKd m aJs bW bH (w36) (λL x=>e36 L x.1.1 x.1.2.1 x.1.2.2.1 x.1.2.2.2.1 x.1.2.2.2.2.1 x.1.2.2.2.2.2.1 x.1.2.2.2.2.2.2.1 x.1.2.2.2.2.2.2.2.1 x.1.2.2.2.2.2.2.2.2 x.2.1 x.2.2.1 x.2.2.2.1 x.2.2.2.2.1 x.2.2.2.2.2.1 x.2.2.2.2.2.2.1 x.2.2.2.2.2.2.2.1 x.2.2.2.2.2.2.2.2.1 x.2.2.2.2.2.2.2.2.2) hm aMo
def aJy (dN:Y30):Env bL:={ Kc:=eE [(30,c30 dN)],Kw:=eD [],lv:=λi=>[],xv:=λi=>none }
def G29 {B:Type}(u:(Int×Int×Int×Int×Int×Int×Int×Int×Int×Bool)->B)(dN:Y30)(a0:(List E9))(a1:Int):Option B:=
 bif (decide (a1 < (1:Int)))then some (u ((0:Int),(0:Int),(0:Int),(0:Int),(0:Int),(0:Int),(0:Int),(0:Int),(0:Int),false))
 else bS (dN a0) (0:Int) λ(q1:Int)=>bif (decide (a1 > q1))then some (u ((0:Int),(0:Int),(0:Int),(0:Int),(0:Int),(0:Int),(0:Int),(0:Int),(0:Int),false))
  else bif ((decide ((0:Int)<=(wrap .i64 (a1-(1:Int)))))&&(decide ((wrap .i64 (a1-(1:Int))) < (Nat.cast (List.length a0):Int))))then oJ (List.getD a0 (Int.toNat (wrap .i64 (a1-(1:Int)))) ((0:Int),((0:Int),((0:Int),((0:Int),((0:Int),((0:Int),((0:Int),((0:Int),(0:Int)))))))))) λs2_0=>some (u (s2_0.1,s2_0.2.1,s2_0.2.2.1,s2_0.2.2.2.1,s2_0.2.2.2.2.1,s2_0.2.2.2.2.2.1,s2_0.2.2.2.2.2.2.1,s2_0.2.2.2.2.2.2.2.1,s2_0.2.2.2.2.2.2.2.2,true))
  else none
def g29 (dN:Y30)(L:Nat)(a0:(List E9))(a1:Int):Option (Int×Int×Int×Int×Int×Int×Int×Int×Int×Bool):=G29 (λx=>x) dN a0 a1
theorem e29 (dN:Y30)(L:Nat)(a0:(List E9))(a1:Int):jL prog (aJy dN) (cE L) f29 (a29.enc (a0,a1))=(g29 dN L a0 a1).map n29:=by
 refine .trans (b:=G29 n29 dN a0 a1) (by kernel_rfl) ?_;unfold g29 G29
 repeat' first | with_reducible refine gW ?_ ?_ | with_reducible refine gU λ_=>?_ | with_reducible refine gV λ_=>?_ | exact rfl
def w29 (dN:Y30)(L:Nat)(x:((List E9)×Int)):Option (Int×Int×Int×Int×Int×Int×Int×Int×Int×Bool):=g29 dN L x.1 x.2
theorem s29 (dN:Y30)(h30:Sat prog bL 30 (c30 dN))(m:Y29)(hm:∀ (x:((List E9)×Int)) t,m x=some t->∃ L,w29 dN L x=some t):Sat prog bL 29 (c29 m):=
 dZ cC bX (by rfl) (fn:=f29) rfl a29 n29 aKk m (aJy dN) (bM h30 bW) bH (w29 dN) (λL x=>e29 dN L x.1 x.2) hm aMr
def aJx:Env bL:={ Kc:=eE [],Kw:=eD [],lv:=λi=>[],xv:=λi=>none }
def G30 {B:Type}(u:Int->B)(a0:(List E9)):Option B:=
 some (u (Nat.cast (List.length a0):Int))
def g30 (L:Nat)(a0:(List E9)):Option Int:=G30 (λx=>x) a0
theorem e30 (L:Nat)(a0:(List E9)):jL prog aJx (cE L) f30 (a30.enc a0)=(g30 L a0).map n30:=by
 refine .trans (b:=G30 n30 a0) (by kernel_rfl) ?_;unfold g30 G30
 repeat' first | with_reducible refine gW ?_ ?_ | with_reducible refine gU λ_=>?_ | with_reducible refine gV λ_=>?_ | exact rfl
def w30 (L:Nat)(x:(List E9)):Option Int:=g30 L x
theorem s30 (m:Y30)(hm:∀ (x:(List E9)) t,m x=some t->∃ L,w30 L x=some t):Sat prog bL 30 (c30 m):=
 dZ cC bX (by rfl) (fn:=f30) rfl a30 n30 aKj m aJx bW bH (w30) (λL x=>e30 L x) hm aMq
def aJt:Env bL:={ Kc:=eE [],Kw:=eD [],lv:=λi=>[],xv:=λi=>none }
def G35 {B:Type}(u:(List E9)->B)(a0:(List E9))(a1:Int):Option B:=
 bif (((decide ((0:Int)<=a1))&&(decide (a1<=(Nat.cast (List.length a0):Int))))&&(decide ((Nat.cast (List.length a0):Int)<=(Nat.cast (List.length a0):Int))))then some (u (List.drop a1.toNat (List.take (Int.toNat (Nat.cast (List.length a0):Int)) a0)))
 else none
def g35 (L:Nat)(a0:(List E9))(a1:Int):Option (List E9):=G35 (λx=>x) a0 a1
theorem e35 (L:Nat)(a0:(List E9))(a1:Int):aEm prog aJt (cE L) f35 (a35.enc (a0,a1))=(g35 L a0 a1).map n35:=by
 refine .trans (b:=G35 n35 a0 a1) (by kernel_rfl) ?_;unfold g35 G35
 repeat' first | with_reducible refine gW ?_ ?_ | with_reducible refine gU λ_=>?_ | with_reducible refine gV λ_=>?_ | exact rfl
def w35 (L:Nat)(x:((List E9)×Int)):Option (List E9):=g35 L x.1 x.2
theorem s35 (m:Y35)(hm:∀ (x:((List E9)×Int)) t,m x=some t->∃ L,w35 L x=some t):Sat prog bL 35 (c35 m):=
 aFL cC bX (by rfl) (fn:=f35) rfl a35 n35 aKe m aJt bW bH (w35) (λL x=>e35 L x.1 x.2) hm aMp
def aJr (uM:Y44):Env bL:={ Kc:=eE [(44,c44 uM)],Kw:=eD [],lv:=λi=>[],xv:=λi=>none }
def G37 {B:Type}(u:(List E9)->B)(uM:Y44)(a0:(List E9))(a1:Int)(a2:(List E9)):Option B:=
 bif (((decide ((0:Int)<=(0:Int)))&&(decide ((0:Int)<=a1)))&&(decide (a1<=(Nat.cast (List.length a0):Int))))then bS (uM (List.cons (List.drop (Int.toNat (0:Int)) (List.take a1.toNat a0)) (List.cons a2 ([]:List (List E9))))) [] λ(q2:(List E9))=>some (u q2)
 else none
def g37 (uM:Y44)(L:Nat)(a0:(List E9))(a1:Int)(a2:(List E9)):Option (List E9):=G37 (λx=>x) uM a0 a1 a2
theorem e37 (uM:Y44)(L:Nat)(a0:(List E9))(a1:Int)(a2:(List E9)):jL prog (aJr uM) (cE L) f37 (a37.enc (a0,a1,a2))=(g37 uM L a0 a1 a2).map n37:=by
 refine .trans (b:=G37 n37 uM a0 a1 a2) (by kernel_rfl) ?_;unfold g37 G37
 repeat' first | with_reducible refine gW ?_ ?_ | with_reducible refine gU λ_=>?_ | with_reducible refine gV λ_=>?_ | exact rfl
def w37 (uM:Y44)(L:Nat)(x:((List E9)×Int×(List E9))):Option (List E9):=g37 uM L x.1 x.2.1 x.2.2
theorem s37 (uM:Y44)(h44:Sat prog bL 44 (c44 uM))(m:Y37)(hm:∀ (x:((List E9)×Int×(List E9))) t,m x=some t->∃ L,w37 uM L x=some t):Sat prog bL 37 (c37 m):=
 dZ cC bX (by rfl) (fn:=f37) rfl a37 n37 aKc m (aJr uM) (bM h44 bW) bH (w37 uM) (λL x=>e37 uM L x.1 x.2.1 x.2.2) hm aMn
def aJF:Env bL:={ Kc:=eE [],Kw:=eD [],lv:=λi=>[],xv:=λi=>none }
def G19 {B:Type}(u:(List E9)->B)(a0:(List E9)):Option B:=
 bif (decide (((List.length ([]:List E9))+(List.length a0))<=(1000000000:Nat)))then some (u ([]++a0))
 else none
def g19 (L:Nat)(a0:(List E9)):Option (List E9):=G19 (λx=>x) a0
theorem e19 (L:Nat)(a0:(List E9)):jL prog aJF (cE L) f19 (a19.enc a0)=(g19 L a0).map n19:=by
 refine .trans (b:=G19 n19 a0) (by kernel_rfl) ?_;unfold g19 G19
 repeat' first | with_reducible refine gW ?_ ?_ | with_reducible refine gU λ_=>?_ | with_reducible refine gV λ_=>?_ | exact rfl
def w19 (L:Nat)(x:(List E9)):Option (List E9):=g19 L x
theorem s19 (m:Y19)(hm:∀ (x:(List E9)) t,m x=some t->∃ L,w19 L x=some t):Sat prog bL 19 (c19 m):=
 dZ cC bX (by rfl) (fn:=f19) rfl a19 n19 aKu m aJF bW bH (w19) (λL x=>e19 L x) hm aMz
end Go.Proofs.Tryz
set_option maxHeartbeats 0
set_option maxRecDepth 100000
namespace Go.Proofs.Tryz
open Go.IntKind (wrap)
open Go Go.VM Go.RowKit
def aJA (m39:Y39)(m40:Y40)(m41:Y41)(sF:Y42):Env bL:={ Kc:=eE [(39,c39 m39),(40,c40 m40),(41,c41 m41),(42,c42 sF)],Kw:=eD [],lv:=λi=>[],xv:=λi=>none }
def G26 {B:Type}(u:Int->B)(m39:Y39)(m40:Y40)(m41:Y41)(sF:Y42)(a0_0:Int)(a0_1:Int)(a0_2:Int)(a0_3:Int)(a0_4:Int)(a0_5:Int)(a0_6:Int)(a0_7:Int)(a0_8:Int):Option B:=
 bS (m39 a0_0) false λ(q1:Bool)=>bif (!q1)then some (u (3:Int))
  else bS (m40 a0_1) false λ(q2:Bool)=>bif (!q2)then some (u (3:Int))
   else bS (m41 a0_2) false λ(q3:Bool)=>bif (!q3)then some (u (3:Int))
    else bif (!((a0_1 == (0:Int)) == (a0_2 == (0:Int))))then some (u (1:Int))
    else bif (a0_1 != (0:Int))then bS (sF (a0_3,(a0_4,(a0_5,(a0_6,(a0_7,a0_8)))))) (0:Int) λ(q5:Int)=>some (u q5)
    else bif (!((((((a0_3 == (0:Int))&&(a0_4 == (0:Int)))&&(a0_5 == (0:Int)))&&(a0_6 == (0:Int)))&&(a0_7 == (0:Int)))&&(a0_8 == (0:Int))))then some (u (1:Int))
    else some (u (0:Int))
def g26 (m39:Y39)(m40:Y40)(m41:Y41)(sF:Y42)(L:Nat)(a0_0:Int)(a0_1:Int)(a0_2:Int)(a0_3:Int)(a0_4:Int)(a0_5:Int)(a0_6:Int)(a0_7:Int)(a0_8:Int):Option Int:=G26 (λx=>x) m39 m40 m41 sF a0_0 a0_1 a0_2 a0_3 a0_4 a0_5 a0_6 a0_7 a0_8
theorem e26 (m39:Y39)(m40:Y40)(m41:Y41)(sF:Y42)(L:Nat)(a0_0:Int)(a0_1:Int)(a0_2:Int)(a0_3:Int)(a0_4:Int)(a0_5:Int)(a0_6:Int)(a0_7:Int)(a0_8:Int):jL prog (aJA m39 m40 m41 sF) (cE L) f26 (a26.enc (a0_0,a0_1,a0_2,a0_3,a0_4,a0_5,a0_6,a0_7,a0_8))=(g26 m39 m40 m41 sF L a0_0 a0_1 a0_2 a0_3 a0_4 a0_5 a0_6 a0_7 a0_8).map n26:=by
 refine .trans (b:=G26 n26 m39 m40 m41 sF a0_0 a0_1 a0_2 a0_3 a0_4 a0_5 a0_6 a0_7 a0_8) (by kernel_rfl) ?_;unfold g26 G26
 repeat' first | with_reducible refine gW ?_ ?_ | with_reducible refine gU λ_=>?_ | with_reducible refine gV λ_=>?_ | exact rfl
def w26 (m39:Y39)(m40:Y40)(m41:Y41)(sF:Y42)(L:Nat)(x:E9):Option Int:=g26 m39 m40 m41 sF L x.1 x.2.1 x.2.2.1 x.2.2.2.1 x.2.2.2.2.1 x.2.2.2.2.2.1 x.2.2.2.2.2.2.1 x.2.2.2.2.2.2.2.1 x.2.2.2.2.2.2.2.2
theorem s26 (m39:Y39)(m40:Y40)(m41:Y41)(sF:Y42)(h39:Sat prog bL 39 (c39 m39))(h40:Sat prog bL 40 (c40 m40))(h41:Sat prog bL 41 (c41 m41))(h42:Sat prog bL 42 (c42 sF))(m:Y26)(hm:∀ (x:E9) t,m x=some t->∃ L,w26 m39 m40 m41 sF L x=some t):Sat prog bL 26 (c26 m):=
 dZ cC bX (by rfl) (fn:=f26) rfl a26 n26 aKn m (aJA m39 m40 m41 sF) (bM h39 (bM h40 (bM h41 (bM h42 bW)))) bH (w26 m39 m40 m41 sF) (λL x=>e26 m39 m40 m41 sF L x.1 x.2.1 x.2.2.1 x.2.2.2.1 x.2.2.2.2.1 x.2.2.2.2.2.1 x.2.2.2.2.2.2.1 x.2.2.2.2.2.2.2.1 x.2.2.2.2.2.2.2.2) hm aMu
def aJq (dF:Y18)(m45:Y45):Env bL:={ Kc:=eE [(18,yC dF),(45,c45 m45)],Kw:=eD [],lv:=λi=>[],xv:=λi=>none }
def G38 {B:Type}(u:Int->B)(dF:Y18)(m45:Y45)(a0_0:Int)(a0_1:Int)(a0_2:Int)(a0_3:Int)(a0_4:Int)(a0_5:Int)(a0_6:Int)(a0_7:Int)(a0_8:Int):Option B:=
 bS (dF (a0_0,((1:Int),(100000:Int)))) false λ(q1:Bool)=>bif (!q1)then some (u (3:Int))
  else bS (dF (a0_1,((0:Int),(999:Int)))) false λ(q2:Bool)=>bif (!q2)then some (u (3:Int))
   else bS (dF (a0_2,((0:Int),(1000000:Int)))) false λ(q3:Bool)=>bif (!q3)then some (u (3:Int))
    else bif (!((a0_1 == (0:Int)) == (a0_2 == (0:Int))))then some (u (1:Int))
    else bif (a0_1 != (0:Int))then bS (m45 (a0_3,(a0_4,(a0_5,(a0_6,(a0_7,a0_8)))))) (0:Int) λ(q5:Int)=>some (u q5)
    else bif (!((((((a0_3 == (0:Int))&&(a0_4 == (0:Int)))&&(a0_5 == (0:Int)))&&(a0_6 == (0:Int)))&&(a0_7 == (0:Int)))&&(a0_8 == (0:Int))))then some (u (1:Int))
    else some (u (0:Int))
def g38 (dF:Y18)(m45:Y45)(L:Nat)(a0_0:Int)(a0_1:Int)(a0_2:Int)(a0_3:Int)(a0_4:Int)(a0_5:Int)(a0_6:Int)(a0_7:Int)(a0_8:Int):Option Int:=G38 (λx=>x) dF m45 a0_0 a0_1 a0_2 a0_3 a0_4 a0_5 a0_6 a0_7 a0_8
theorem e38 (dF:Y18)(m45:Y45)(L:Nat)(a0_0:Int)(a0_1:Int)(a0_2:Int)(a0_3:Int)(a0_4:Int)(a0_5:Int)(a0_6:Int)(a0_7:Int)(a0_8:Int):jL prog (aJq dF m45) (cE L) f38 (a38.enc (a0_0,a0_1,a0_2,a0_3,a0_4,a0_5,a0_6,a0_7,a0_8))=(g38 dF m45 L a0_0 a0_1 a0_2 a0_3 a0_4 a0_5 a0_6 a0_7 a0_8).map n38:=by
 refine .trans (b:=G38 n38 dF m45 a0_0 a0_1 a0_2 a0_3 a0_4 a0_5 a0_6 a0_7 a0_8) (by kernel_rfl) ?_;unfold g38 G38
 repeat' first | with_reducible refine gW ?_ ?_ | with_reducible refine gU λ_=>?_ | with_reducible refine gV λ_=>?_ | exact rfl
def w38 (dF:Y18)(m45:Y45)(L:Nat)(x:E9):Option Int:=g38 dF m45 L x.1 x.2.1 x.2.2.1 x.2.2.2.1 x.2.2.2.2.1 x.2.2.2.2.2.1 x.2.2.2.2.2.2.1 x.2.2.2.2.2.2.2.1 x.2.2.2.2.2.2.2.2
theorem s38 (dF:Y18)(m45:Y45)(h18:Sat prog bL 18 (yC dF))(h45:Sat prog bL 45 (c45 m45))(m:Y38)(hm:∀ (x:E9) t,m x=some t->∃ L,w38 dF m45 L x=some t):Sat prog bL 38 (c38 m):=
 dZ cC bX (by rfl) (fn:=f38) rfl a38 n38 aKb m (aJq dF m45) (bM h18 (bM h45 bW)) bH (w38 dF m45) (λL x=>e38 dF m45 L x.1 x.2.1 x.2.2.1 x.2.2.2.1 x.2.2.2.2.1 x.2.2.2.2.2.1 x.2.2.2.2.2.2.1 x.2.2.2.2.2.2.2.1 x.2.2.2.2.2.2.2.2) hm aMm
def ev8 (m26:Y26):Env bL:={ Kc:=eE [(26,c26 m26)],Kw:=eD [],lv:=λi=>if i=0 then[(3,[]),(10,[some 35]),(11,[]),(12,[])]else[],xv:=λi=>if i=0 then some []else none }
def S8_0 (a0:(List E9))(v0_3:Int)(v0_12:Int):St bL.ty:={ slots:=[aT,aT,aT,(.inl (.inl (lv (.int .i64 v0_3)))),aT,aT,aT,aT,aT,aT,(.inl (.inl (ls { own:=0,nm:=0,e:=35,o:=false,xs:=a0 }))),(.inl (.inl (lv (.int .i64 (Nat.cast (List.length a0):Int))))),(.inl (.inl (lv (.int .i64 v0_12))))]++List.replicate 15 aT,D:=[],F:=[],ctr:=1 }
def X8_0 (a0:(List E9)):St bL.ty:={ slots:=[]++List.replicate 28 aT,D:=[],F:=[],ctr:=1 }
def G8 {B:Type}(u:Int->B)(hh0:Int->Int->Option B)(m26:Y26)(a0:(List E9)):Option B:=
 bif (decide ((Nat.cast (List.length a0):Int) > (40:Int)))then some (u (2:Int))
 else hh0 (0:Int) (0:Int)
def B8_0 {B:Type}(u:Int->B)(gg:Int->Int->Option B)(kk:Option B)(m26:Y26)(a0:(List E9))(v0_3:Int)(v0_12:Int):Option B:=
 bif (decide (v0_12 < (Nat.cast (List.length a0):Int)))then oJ (List.getD a0 v0_12.toNat ((0:Int),((0:Int),((0:Int),((0:Int),((0:Int),((0:Int),((0:Int),((0:Int),(0:Int)))))))))) λs1_0=>bif ((decide ((0:Int)<=v0_12))&&(decide (v0_12 < (Nat.cast (List.length a0):Int))))then bS (m26 (s1_0.1,(s1_0.2.1,(s1_0.2.2.1,(s1_0.2.2.2.1,(s1_0.2.2.2.2.1,(s1_0.2.2.2.2.2.1,(s1_0.2.2.2.2.2.2.1,(s1_0.2.2.2.2.2.2.2.1,s1_0.2.2.2.2.2.2.2.2))))))))) (0:Int) λ(q3:Int)=>bif (q3 != (0:Int))then some (u q3)
    else bif (decide (s1_0.1 < v0_3))then some (u (1:Int))
    else gg s1_0.1 (wrap .i64 (v0_12+(1:Int)))
  else none
 else kk
def A8_0 {B:Type}(u:Int->B)(m26:Y26)(a0:(List E9)):Option B:=
 some (u (0:Int))
def aAL (m26:Y26)(L:Nat)(a0:(List E9)):Nat->Int->Int->(Option Int)->Option Int
 | 0,_,_,_=>none
 | n+1,v0_3,v0_12,k=>B8_0 (λx=>x) (λv0_3 v0_12=>aAL m26 L a0 n v0_3 v0_12 k) k m26 a0 v0_3 v0_12
theorem aIO (m26:Y26)(L:Nat)(a0:(List E9))(k:St bL.ty->Option (V bL.ty))(xk:Nat->St bL.ty->Option (V bL.ty))(k':Option Int)(hk:k (X8_0 a0)=(k').map n8):∀ (n:Nat) (v0_3:Int) (v0_12:Int),fG prog (ev8 m26) L f8 0 [1,1,1,0,1,0,0] (iV (eK prog f8) k xk) n (S8_0 a0 v0_3 v0_12)=(aAL m26 L a0 n v0_3 v0_12 k').map n8
 | 0,_,_=>rfl
 | n+1,v0_3,v0_12=>by
  rw[gN];have ih:=aIO m26 L a0 k xk k' hk n;refine .trans (b:=B8_0 n8 (λv0_3 v0_12=>(fG prog (ev8 m26) L f8 0 [1,1,1,0,1,0,0] (iV (eK prog f8) k xk) n) (S8_0 a0 v0_3 v0_12)) (k (X8_0 a0)) m26 a0 v0_3 v0_12) (by kernel_rfl) ?_;unfold aAL B8_0
  repeat' first | with_reducible refine gW ?_ ?_ | with_reducible refine gU λ_=>?_ | with_reducible refine gV λ_=>?_ | with_reducible exact ih _ _ | with_reducible exact hk | exact rfl
def g8 (m26:Y26)(L:Nat)(a0:(List E9)):Option Int:=G8 (λx=>x) (λv0_3 v0_12=>aAL m26 L a0 L v0_3 v0_12 (A8_0 (λx=>x) m26 a0)) m26 a0
theorem e8 (m26:Y26)(L:Nat)(a0:(List E9)):jL prog (ev8 m26) (cE L) f8 (a8.enc a0)=(g8 m26 L a0).map n8:=by
 have hin0:∀ (v0_3:Int) (v0_12:Int),fG prog (ev8 m26) L f8 0 [1,1,1,0,1,0,0] (iV (eK prog f8) (iU prog (ev8 m26) L f8 [1,1,1,0,1] (eK prog f8)).n (iU prog (ev8 m26) L f8 [1,1,1,0,1] (eK prog f8)).x) L (S8_0 a0 v0_3 v0_12)=((λv0_3 v0_12=>aAL m26 L a0 L v0_3 v0_12 (A8_0 (λx=>x) m26 a0)) v0_3 v0_12).map n8:=λv0_3 v0_12=>aIO m26 L a0 _ _ _ (by refine .trans (b:=A8_0 n8 m26 a0) (by kernel_rfl) ?_;unfold A8_0;repeat' first | with_reducible refine gW ?_ ?_ | with_reducible refine gU λ_=>?_ | with_reducible refine gV λ_=>?_ | exact rfl) L v0_3 v0_12
 refine .trans (b:=G8 n8 (λv0_3 v0_12=>fG prog (ev8 m26) L f8 0 [1,1,1,0,1,0,0] (iV (eK prog f8) (iU prog (ev8 m26) L f8 [1,1,1,0,1] (eK prog f8)).n (iU prog (ev8 m26) L f8 [1,1,1,0,1] (eK prog f8)).x) L (S8_0 a0 v0_3 v0_12)) m26 a0) (by kernel_rfl) ?_;unfold g8 G8
 repeat' first | with_reducible refine gW ?_ ?_ | with_reducible refine gU λ_=>?_ | with_reducible refine gV λ_=>?_ | with_reducible exact hin0 _ _ | exact rfl
def w8 (m26:Y26)(L:Nat)(x:(List E9)):Option Int:=g8 m26 L x
theorem s8 (m26:Y26)(h26:Sat prog bL 26 (c26 m26))(m:Y8)(hm:∀ (x:(List E9)) t,m x=some t->∃ L,w8 m26 L x=some t):Sat prog bL 8 (c8 m):=
 dZ cC bX (by rfl) (fn:=f8) rfl a8 n8 dd8 m (ev8 m26) (bM h26 bW) bH (w8 m26) (λL x=>e8 m26 L x) hm hs8
def wT (m38:Y38):Env bL:={ Kc:=eE [(38,c38 m38)],Kw:=eD [],lv:=λi=>if i=0 then[(0,[some 35]),(3,[])]else[],xv:=λi=>if i=0 then some []else none }
def S23_0 (a0:(List E9))(v0_3:Int):St bL.ty:={ slots:=[(.inl (.inl (ls { own:=0,nm:=0,e:=35,o:=false,xs:=a0 }))),aT,aT,(.inl (.inl (lv (.int .i64 v0_3))))]++List.replicate 34 aT,D:=[],F:=[],ctr:=1 }
def X23_0 (a0:(List E9)):St bL.ty:={ slots:=[]++List.replicate 38 aT,D:=[],F:=[],ctr:=1 }
def G23 {B:Type}(u:Int->B)(hh0:Int->Option B)(m38:Y38)(a0:(List E9)):Option B:=
 bif (decide ((Nat.cast (List.length a0):Int) > (40:Int)))then some (u (2:Int))
 else hh0 (0:Int)
def B23_0 {B:Type}(u:Int->B)(gg:Int->Option B)(kk:Option B)(m38:Y38)(a0:(List E9))(v0_3:Int):Option B:=
 bif (decide (v0_3 < (Nat.cast (List.length a0):Int)))then oJ (List.getD a0 v0_3.toNat ((0:Int),((0:Int),((0:Int),((0:Int),((0:Int),((0:Int),((0:Int),((0:Int),(0:Int)))))))))) λs1_0=>bif ((decide ((0:Int)<=v0_3))&&(decide (v0_3 < (Nat.cast (List.length a0):Int))))then bS (m38 (s1_0.1,(s1_0.2.1,(s1_0.2.2.1,(s1_0.2.2.2.1,(s1_0.2.2.2.2.1,(s1_0.2.2.2.2.2.1,(s1_0.2.2.2.2.2.2.1,(s1_0.2.2.2.2.2.2.2.1,s1_0.2.2.2.2.2.2.2.2))))))))) (0:Int) λ(q3:Int)=>bif (q3 != (0:Int))then some (u q3)
    else bif (decide (v0_3 > (0:Int)))then bif ((decide ((0:Int)<=v0_3))&&(decide (v0_3 < (Nat.cast (List.length a0):Int))))then bif ((decide ((0:Int)<=(wrap .i64 (v0_3-(1:Int)))))&&(decide ((wrap .i64 (v0_3-(1:Int))) < (Nat.cast (List.length a0):Int))))then bif (decide (s1_0.1 < (List.getD a0 (Int.toNat (wrap .i64 (v0_3-(1:Int)))) ((0:Int),((0:Int),((0:Int),((0:Int),((0:Int),((0:Int),((0:Int),((0:Int),(0:Int)))))))))).1))then some (u (1:Int))
       else gg (wrap .i64 (v0_3+(1:Int)))
      else none
     else none
    else gg (wrap .i64 (v0_3+(1:Int)))
  else none
 else kk
def A23_0 {B:Type}(u:Int->B)(m38:Y38)(a0:(List E9)):Option B:=
 some (u (0:Int))
def uR (m38:Y38)(L:Nat)(a0:(List E9)):Nat->Int->(Option Int)->Option Int
 | 0,_,_=>none
 | n+1,v0_3,k=>B23_0 (λx=>x) (λv0_3=>uR m38 L a0 n v0_3 k) k m38 a0 v0_3
theorem aF3 (m38:Y38)(L:Nat)(a0:(List E9))(k:St bL.ty->Option (V bL.ty))(xk:Nat->St bL.ty->Option (V bL.ty))(k':Option Int)(hk:k (X23_0 a0)=(k').map n23):∀ (n:Nat) (v0_3:Int),fG prog (wT m38) L f23 0 [1,1,0,1,0,0] (iV (eK prog f23) k xk) n (S23_0 a0 v0_3)=(uR m38 L a0 n v0_3 k').map n23
 | 0,_=>rfl
 | n+1,v0_3=>by
  rw[gN];have ih:=aF3 m38 L a0 k xk k' hk n;refine .trans (b:=B23_0 n23 (λv0_3=>(fG prog (wT m38) L f23 0 [1,1,0,1,0,0] (iV (eK prog f23) k xk) n) (S23_0 a0 v0_3)) (k (X23_0 a0)) m38 a0 v0_3) (by kernel_rfl) ?_;unfold uR B23_0
  repeat' first | with_reducible refine gW ?_ ?_ | with_reducible refine gU λ_=>?_ | with_reducible refine gV λ_=>?_ | with_reducible exact ih _ | with_reducible exact hk | exact rfl
def g23 (m38:Y38)(L:Nat)(a0:(List E9)):Option Int:=G23 (λx=>x) (λv0_3=>uR m38 L a0 L v0_3 (A23_0 (λx=>x) m38 a0)) m38 a0
theorem e23 (m38:Y38)(L:Nat)(a0:(List E9)):jL prog (wT m38) (cE L) f23 (a23.enc a0)=(g23 m38 L a0).map n23:=by
 have hin0:∀ (v0_3:Int),fG prog (wT m38) L f23 0 [1,1,0,1,0,0] (iV (eK prog f23) (iU prog (wT m38) L f23 [1,1,0,1] (eK prog f23)).n (iU prog (wT m38) L f23 [1,1,0,1] (eK prog f23)).x) L (S23_0 a0 v0_3)=((λv0_3=>uR m38 L a0 L v0_3 (A23_0 (λx=>x) m38 a0)) v0_3).map n23:=λv0_3=>aF3 m38 L a0 _ _ _ (by refine .trans (b:=A23_0 n23 m38 a0) (by kernel_rfl) ?_;unfold A23_0;repeat' first | with_reducible refine gW ?_ ?_ | with_reducible refine gU λ_=>?_ | with_reducible refine gV λ_=>?_ | exact rfl) L v0_3
 refine .trans (b:=G23 n23 (λv0_3=>fG prog (wT m38) L f23 0 [1,1,0,1,0,0] (iV (eK prog f23) (iU prog (wT m38) L f23 [1,1,0,1] (eK prog f23)).n (iU prog (wT m38) L f23 [1,1,0,1] (eK prog f23)).x) L (S23_0 a0 v0_3)) m38 a0) (by kernel_rfl) ?_;unfold g23 G23
 repeat' first | with_reducible refine gW ?_ ?_ | with_reducible refine gU λ_=>?_ | with_reducible refine gV λ_=>?_ | with_reducible exact hin0 _ | exact rfl
def w23 (m38:Y38)(L:Nat)(x:(List E9)):Option Int:=g23 m38 L x
theorem s23 (m38:Y38)(h38:Sat prog bL 38 (c38 m38))(m:Y23)(hm:∀ (x:(List E9)) t,m x=some t->∃ L,w23 m38 L x=some t):Sat prog bL 23 (c23 m):=
 dZ cC bX (by rfl) (fn:=f23) rfl a23 n23 aKq m (wT m38) (bM h38 bW) bH (w23 m38) (λL x=>e23 m38 L x) hm aMx
def aJL (dN:Y30)(kT:Y29):Env bL:={ Kc:=eE [(30,c30 dN),(29,c29 kT)],Kw:=eD [],lv:=λi=>[],xv:=λi=>none }
def G13 {B:Type}(u:E9->B)(dN:Y30)(kT:Y29)(a0:(List E9)):Option B:=
 bS (dN a0) (0:Int) λ(q1:Int)=>bS (kT (a0,q1)) ((0:Int),(0:Int),(0:Int),(0:Int),(0:Int),(0:Int),(0:Int),(0:Int),(0:Int),false) λ(q2:(Int×Int×Int×Int×Int×Int×Int×Int×Int×Bool))=>some (u (q2.1,q2.2.1,q2.2.2.1,q2.2.2.2.1,q2.2.2.2.2.1,q2.2.2.2.2.2.1,q2.2.2.2.2.2.2.1,q2.2.2.2.2.2.2.2.1,q2.2.2.2.2.2.2.2.2.1))
def g13 (dN:Y30)(kT:Y29)(L:Nat)(a0:(List E9)):Option E9:=G13 (λx=>x) dN kT a0
theorem e13 (dN:Y30)(kT:Y29)(L:Nat)(a0:(List E9)):jL prog (aJL dN kT) (cE L) f13 (a13.enc a0)=(g13 dN kT L a0).map n13:=by
 refine .trans (b:=G13 n13 dN kT a0) (by kernel_rfl) ?_;unfold g13 G13
 repeat' first | with_reducible refine gW ?_ ?_ | with_reducible refine gU λ_=>?_ | with_reducible refine gV λ_=>?_ | exact rfl
def w13 (dN:Y30)(kT:Y29)(L:Nat)(x:(List E9)):Option E9:=g13 dN kT L x
theorem s13 (dN:Y30)(kT:Y29)(h30:Sat prog bL 30 (c30 dN))(h29:Sat prog bL 29 (c29 kT))(m:Y13)(hm:∀ (x:(List E9)) t,m x=some t->∃ L,w13 dN kT L x=some t):Sat prog bL 13 (c13 m):=
 dZ cC bX (by rfl) (fn:=f13) rfl a13 n13 aKA m (aJL dN kT) (bM h30 (bM h29 bW)) bH (w13 dN kT) (λL x=>e13 dN kT L x) hm aMB
def aJB (dF:Y18):Env bL:={ Kc:=eE [(18,yC dF)],Kw:=eD [],lv:=λi=>[],xv:=λi=>none }
def G24 {B:Type}(u:Bool->B)(dF:Y18)(a0:(List E9))(a1:Int)(a2:Int):Option B:=
 bif (a1 == (0:Int))then some (u (a2 == (0:Int)))
 else bS (dF (a1,((1:Int),(Nat.cast (List.length a0):Int)))) false λ(q1:Bool)=>bif q1 then bif ((decide ((0:Int)<=(wrap .i64 (a1-(1:Int)))))&&(decide ((wrap .i64 (a1-(1:Int))) < (Nat.cast (List.length a0):Int))))then some (u ((List.getD a0 (Int.toNat (wrap .i64 (a1-(1:Int)))) ((0:Int),((0:Int),((0:Int),((0:Int),((0:Int),((0:Int),((0:Int),((0:Int),(0:Int)))))))))).1 == a2))
   else none
  else some (u false)
def g24 (dF:Y18)(L:Nat)(a0:(List E9))(a1:Int)(a2:Int):Option Bool:=G24 (λx=>x) dF a0 a1 a2
theorem e24 (dF:Y18)(L:Nat)(a0:(List E9))(a1:Int)(a2:Int):jL prog (aJB dF) (cE L) f24 (a24.enc (a0,a1,a2))=(g24 dF L a0 a1 a2).map n24:=by
 refine .trans (b:=G24 n24 dF a0 a1 a2) (by kernel_rfl) ?_;unfold g24 G24
 repeat' first | with_reducible refine gW ?_ ?_ | with_reducible refine gU λ_=>?_ | with_reducible refine gV λ_=>?_ | exact rfl
def w24 (dF:Y18)(L:Nat)(x:((List E9)×Int×Int)):Option Bool:=g24 dF L x.1 x.2.1 x.2.2
theorem s24 (dF:Y18)(h18:Sat prog bL 18 (yC dF))(m:Y24)(hm:∀ (x:((List E9)×Int×Int)) t,m x=some t->∃ L,w24 dF L x=some t):Sat prog bL 24 (c24 m):=
 dZ cC bX (by rfl) (fn:=f24) rfl a24 n24 aKp m (aJB dF) (bM h18 bW) bH (w24 dF) (λL x=>e24 dF L x.1 x.2.1 x.2.2) hm aMw
def aJO (m8:Y8)(kT:Y29):Env bL:={ Kc:=eE [(8,c8 m8),(29,c29 kT)],Kw:=eD [],lv:=λi=>[],xv:=λi=>none }
def G10 {B:Type}(u:Bool->B)(m8:Y8)(kT:Y29)(a0:(List E9))(a1:Int)(a2:Int):Option B:=
 bS (m8 a0) (0:Int) λ(q1:Int)=>bif (q1 != (0:Int))then some (u false)
  else bif (a1 == (0:Int))then some (u (a2 == (0:Int)))
  else bS (kT (a0,a1)) ((0:Int),(0:Int),(0:Int),(0:Int),(0:Int),(0:Int),(0:Int),(0:Int),(0:Int),false) λ(q2:(Int×Int×Int×Int×Int×Int×Int×Int×Int×Bool))=>bif q2.2.2.2.2.2.2.2.2.2 then some (u (q2.1 == a2))
   else some (u false)
def g10 (m8:Y8)(kT:Y29)(L:Nat)(a0:(List E9))(a1:Int)(a2:Int):Option Bool:=G10 (λx=>x) m8 kT a0 a1 a2
theorem e10 (m8:Y8)(kT:Y29)(L:Nat)(a0:(List E9))(a1:Int)(a2:Int):jL prog (aJO m8 kT) (cE L) f10 (a10.enc (a0,a1,a2))=(g10 m8 kT L a0 a1 a2).map n10:=by
 refine .trans (b:=G10 n10 m8 kT a0 a1 a2) (by kernel_rfl) ?_;unfold g10 G10
 repeat' first | with_reducible refine gW ?_ ?_ | with_reducible refine gU λ_=>?_ | with_reducible refine gV λ_=>?_ | exact rfl
def w10 (m8:Y8)(kT:Y29)(L:Nat)(x:((List E9)×Int×Int)):Option Bool:=g10 m8 kT L x.1 x.2.1 x.2.2
theorem s10 (m8:Y8)(kT:Y29)(h8:Sat prog bL 8 (c8 m8))(h29:Sat prog bL 29 (c29 kT))(m:Y10)(hm:∀ (x:((List E9)×Int×Int)) t,m x=some t->∃ L,w10 m8 kT L x=some t):Sat prog bL 10 (c10 m):=
 dZ cC bX (by rfl) (fn:=f10) rfl a10 n10 aKD m (aJO m8 kT) (bM h8 (bM h29 bW)) bH (w10 m8 kT) (λL x=>e10 m8 kT L x.1 x.2.1 x.2.2) hm aME
end Go.Proofs.Tryz
