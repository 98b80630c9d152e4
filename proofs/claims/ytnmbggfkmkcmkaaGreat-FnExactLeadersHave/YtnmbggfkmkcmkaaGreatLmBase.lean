/- A part of the proof of FnExactSafeCluster: LmBase, LmCon. -/
import Derived.Test.YtnmbggfkmkcmkaaGreatVmJ
import Derived.Test.YtnmbggfkmkcmkaaGreatProg
set_option linter.unusedSimpArgs false
set_option linter.unusedVariables false
namespace Go.Proofs.Tryz
open Go Go.VM Go.RowKit
abbrev E9:Type:=Int×Int×Int×Int×Int×Int×Int×Int×Int
abbrev N10:Type:=Int×Int×Int×Int×(List E9)×Int×Int×(List Int)×(List Int)×(List Int)
abbrev M9:Type:=Int×Int×Int×Int×Int×Int×Int×Bool×(List E9)
abbrev S10:Type:=Int×E9
abbrev W2:Type:=Int×Int
abbrev C4:Type:=(List N10)×(List M9)×(List W2)×(List S10)
abbrev R5:Type:=Int×C4
def lX (e:Nat):Type:=if e=2 then Int else if e=3 then Int else if e=5 then Int else if e=113 then E9 else if e=102 then E9 else if e=91 then M9 else if e=96 then M9 else if e=88 then N10 else if e=73 then N10 else if e=109 then Int×Int else if e=64 then Int×Int else if e=115 then S10 else if e=104 then S10 else if e=27 then C4 else if e=35 then C4 else Unit
def aZ5 (e:Nat):lX e:=
 if h2:e=2 then h2.symm▸(((0:Int):Int):lX 2)else if h3:e=3 then h3.symm▸(((0:Int):Int):lX 3)else if h5:e=5 then h5.symm▸(((0:Int):Int):lX 5)else if h113:e=113 then h113.symm▸(((0,0,0,0,0,0,0,0,0):E9):lX 113)else if h102:e=102 then h102.symm▸(((0,0,0,0,0,0,0,0,0):E9):lX 102)else if h91:e=91 then h91.symm▸(((0,0,0,0,0,0,0,false,[]):M9):lX 91)else if h96:e=96 then h96.symm▸(((0,0,0,0,0,0,0,false,[]):M9):lX 96)else if h88:e=88 then h88.symm▸(((0,0,0,0,[],0,0,[],[],[]):N10):lX 88)else if h73:e=73 then h73.symm▸(((0,0,0,0,[],0,0,[],[],[]):N10):lX 73)else if h109:e=109 then h109.symm▸(((0,0):Int×Int):lX 109)else if h64:e=64 then h64.symm▸(((0,0):Int×Int):lX 64)else if h115:e=115 then h115.symm▸(((0,0,0,0,0,0,0,0,0,0):S10):lX 115)else if h104:e=104 then h104.symm▸(((0,0,0,0,0,0,0,0,0,0):S10):lX 104)else if h27:e=27 then h27.symm▸((([],[],[],[]):C4):lX 27)else if h35:e=35 then h35.symm▸((([],[],[],[]):C4):lX 35)else(by unfold lX;simp only[*,if_false];exact())
def cd2:Cd lX (lX 2):=dK .i64
def cd3:Cd lX (lX 3):=dK .i64
def cd5:Cd lX (lX 5):=dK .u8
def aWo:Cd lX (lX 113):=cD (dK .i64) (cD (dK .i64) (cD (dK .i64) (cD (dK .i64) (cD (dK .i64) (cD (dK .i64) (cD (dK .i64) (cD (dK .i64) (dK .i64))))))))
def aWr:Cd lX (lX 102):=cD (dK .i64) (cD (dK .i64) (cD (dK .i64) (cD (dK .i64) (cD (dK .i64) (cD (dK .i64) (cD (dK .i64) (cD (dK .i64) (dK .i64))))))))
def bCI:Cd lX (lX 91):=cD (dK .i64) (cD (dK .i64) (cD (dK .i64) (cD (dK .i64) (cD (dK .i64) (cD (dK .i64) (cD (dK .i64) (cD aJE (kO 113))))))))
def bCH:Cd lX (lX 96):=cD (dK .i64) (cD (dK .i64) (cD (dK .i64) (cD (dK .i64) (cD (dK .i64) (cD (dK .i64) (cD (dK .i64) (cD aJE (kO 102))))))))
def bCJ:Cd lX (lX 88):=cD (dK .i64) (cD (dK .i64) (cD (dK .i64) (cD (dK .i64) (cD (kO 113) (cD (dK .i64) (cD (dK .i64) (cD (kO 2) (cD (kO 2) (kO 2)))))))))
def bCK:Cd lX (lX 73):=cD (dK .i64) (cD (dK .i64) (cD (dK .i64) (cD (dK .i64) (cD (kO 102) (cD (dK .i64) (cD (dK .i64) (cD (kO 2) (cD (kO 2) (kO 2)))))))))
def aWp:Cd lX (lX 109):=cD (dK .i64) (dK .i64)
def bCL:Cd lX (lX 64):=cD (dK .i64) (dK .i64)
def aWn:Cd lX (lX 115):=cD (dK .i64) (cD (dK .i64) (cD (dK .i64) (cD (dK .i64) (cD (dK .i64) (cD (dK .i64) (cD (dK .i64) (cD (dK .i64) (cD (dK .i64) (dK .i64)))))))))
def aWq:Cd lX (lX 104):=cD (dK .i64) (cD (dK .i64) (cD (dK .i64) (cD (dK .i64) (cD (dK .i64) (cD (dK .i64) (cD (dK .i64) (cD (dK .i64) (cD (dK .i64) (dK .i64)))))))))
def bCN:Cd lX (lX 27):=cD (kO 88) (cD (kO 91) (cD (kO 109) (kO 115)))
def bCM:Cd lX (lX 35):=cD (kO 73) (cD (kO 96) (cD (kO 64) (kO 104)))
def cdT (e:Nat):Cd lX (lX e):=
 if h:e=2 then h.symm▸cd2 else if h:e=3 then h.symm▸cd3 else if h:e=5 then h.symm▸cd5 else if h:e=113 then h.symm▸aWo else if h:e=102 then h.symm▸aWr else if h:e=91 then h.symm▸bCI else if h:e=96 then h.symm▸bCH else if h:e=88 then h.symm▸bCJ else if h:e=73 then h.symm▸bCK else if h:e=109 then h.symm▸aWp else if h:e=64 then h.symm▸bCL else if h:e=115 then h.symm▸aWn else if h:e=104 then h.symm▸aWq else if h:e=27 then h.symm▸bCN else if h:e=35 then h.symm▸bCM else aPW (aZ5 e)
def cxT:Cx:=Cx.of cdT
theorem bB:cxT.Ok:=Cx.of_ok cdT
set_option maxRecDepth 100000 in
theorem aCl {e:Nat}(h:(cdT e).dom=true):e=2\/e=3\/e=5\/e=113\/e=102\/e=109\/e=64\/e=115\/e=104:=by
 by_cases h0:e=2
 ·exact .inl h0
 by_cases h1:e=3
 ·exact .inr (.inl h1)
 by_cases h2:e=5
 ·exact .inr (.inr (.inl h2))
 by_cases h3:e=113
 ·exact .inr (.inr (.inr (.inl h3)))
 by_cases h4:e=102
 ·exact .inr (.inr (.inr (.inr (.inl h4))))
 by_cases h5:e=91
 ·subst h5;exact absurd h (by intro hh;cases (show false=true from hh))
 by_cases h6:e=96
 ·subst h6;exact absurd h (by intro hh;cases (show false=true from hh))
 by_cases h7:e=88
 ·subst h7;exact absurd h (by intro hh;cases (show false=true from hh))
 by_cases h8:e=73
 ·subst h8;exact absurd h (by intro hh;cases (show false=true from hh))
 by_cases h9:e=109
 ·exact .inr (.inr (.inr (.inr (.inr (.inl h9)))))
 by_cases h10:e=64
 ·exact .inr (.inr (.inr (.inr (.inr (.inr (.inl h10))))))
 by_cases h11:e=115
 ·exact .inr (.inr (.inr (.inr (.inr (.inr (.inr (.inl h11)))))))
 by_cases h12:e=104
 ·exact .inr (.inr (.inr (.inr (.inr (.inr (.inr (.inr (h12))))))))
 by_cases h13:e=27
 ·subst h13;exact absurd h (by intro hh;cases (show false=true from hh))
 by_cases h14:e=35
 ·subst h14;exact absurd h (by intro hh;cases (show false=true from hh))
 ·unfold cdT at h;rw[dif_neg h0,dif_neg h1,dif_neg h2,dif_neg h3,dif_neg h4,dif_neg h5,dif_neg h6,dif_neg h7,dif_neg h8,dif_neg h9,dif_neg h10,dif_neg h11,dif_neg h12,dif_neg h13,dif_neg h14]at h;exact Bool.noConfusion h
set_option maxRecDepth 100000 in
theorem aW:cxT.POk prog:=by
  refine⟨λe he=>?_,λe he hu o x=>?_⟩
  · rcases aCl he with rfl | rfl | rfl | rfl | rfl | rfl | rfl | rfl | rfl <;>
    exact⟨_,_,rfl,rfl,rfl,by decide,rfl,by decide,rfl⟩
  · rcases aCl he with rfl | rfl | rfl | rfl | rfl | rfl | rfl | rfl | rfl
    · rw[show prog.underlying 2=_ from rfl]at hu;cases hu
    · rw[show prog.underlying 3=_ from rfl]at hu;cases hu
    · exact⟨x,rfl⟩
    · rw[show prog.underlying 113=_ from rfl]at hu;cases hu
    · rw[show prog.underlying 102=_ from rfl]at hu;cases hu
    · rw[show prog.underlying 109=_ from rfl]at hu;cases hu
    · rw[show prog.underlying 64=_ from rfl]at hu;cases hu
    · rw[show prog.underlying 115=_ from rfl]at hu;cases hu
    · rw[show prog.underlying 104=_ from rfl]at hu;cases hu
end Go.Proofs.Tryz
namespace Go.Proofs.Tryz
open Go Go.VM Go.RowKit
abbrev Y3:=C4->Option Bool
def a3:Args cxT.ty C4:=(Args.one (Arg.agg (SArg.cons (LArg.row 88) (SArg.cons (LArg.row 91) (SArg.cons (LArg.row 109) (SArg.one (LArg.row 115)))))))
def n3:Bool->V cxT.ty:=λt=>(.inl (.inl (lv (.bool t))))
def dd3:Bool:=false
abbrev c3 (m:Y3):=eP (cx:=cxT) a3 n3 dd3 m
theorem hs3:∀ t,bM (n3 t)=true\/bC (n3 t)=true:=λ_=>.inl rfl
abbrev Y4:=C4->Option Bool
def a4:Args cxT.ty C4:=(Args.one (Arg.agg (SArg.cons (LArg.row 88) (SArg.cons (LArg.row 91) (SArg.cons (LArg.row 109) (SArg.one (LArg.row 115)))))))
def n4:Bool->V cxT.ty:=λt=>(.inl (.inl (lv (.bool t))))
def dd4:Bool:=false
abbrev c4 (m:Y4):=eP (cx:=cxT) a4 n4 dd4 m
theorem hs4:∀ t,bM (n4 t)=true\/bC (n4 t)=true:=λ_=>.inl rfl
abbrev Y5:=C4->Option Bool
def a5:Args cxT.ty C4:=(Args.one (Arg.agg (SArg.cons (LArg.row 88) (SArg.cons (LArg.row 91) (SArg.cons (LArg.row 109) (SArg.one (LArg.row 115)))))))
def n5:Bool->V cxT.ty:=λt=>(.inl (.inl (lv (.bool t))))
def dd5:Bool:=false
abbrev c5 (m:Y5):=eP (cx:=cxT) a5 n5 dd5 m
theorem hs5:∀ t,bM (n5 t)=true\/bC (n5 t)=true:=λ_=>.inl rfl
abbrev Y6:=C4->Option Bool
def a6:Args cxT.ty C4:=(Args.one (Arg.agg (SArg.cons (LArg.row 88) (SArg.cons (LArg.row 91) (SArg.cons (LArg.row 109) (SArg.one (LArg.row 115)))))))
def n6:Bool->V cxT.ty:=λt=>(.inl (.inl (lv (.bool t))))
def dd6:Bool:=false
abbrev c6 (m:Y6):=eP (cx:=cxT) a6 n6 dd6 m
theorem hs6:∀ t,bM (n6 t)=true\/bC (n6 t)=true:=λ_=>.inl rfl
abbrev Y7:=C4->Option Bool
def a7:Args cxT.ty C4:=(Args.one (Arg.agg (SArg.cons (LArg.row 88) (SArg.cons (LArg.row 91) (SArg.cons (LArg.row 109) (SArg.one (LArg.row 115)))))))
def n7:Bool->V cxT.ty:=λt=>(.inl (.inl (lv (.bool t))))
def dd7:Bool:=false
abbrev c7 (m:Y7):=eP (cx:=cxT) a7 n7 dd7 m
theorem hs7:∀ t,bM (n7 t)=true\/bC (n7 t)=true:=λ_=>.inl rfl
def a8:Args cxT.ty C4:=(Args.one (Arg.agg (SArg.cons (LArg.row 88) (SArg.cons (LArg.row 91) (SArg.cons (LArg.row 109) (SArg.one (LArg.row 115)))))))
def n8:Bool->V cxT.ty:=λt=>(.inl (.inl (lv (.bool t))))
def a9:Args cxT.ty C4:=(Args.one (Arg.agg (SArg.cons (LArg.row 88) (SArg.cons (LArg.row 91) (SArg.cons (LArg.row 109) (SArg.one (LArg.row 115)))))))
def n9:Bool->V cxT.ty:=λt=>(.inl (.inl (lv (.bool t))))
abbrev Y10:=(C4×Int)->Option Int
def a10:Args cxT.ty (C4×Int):=(Args.cons (Arg.agg (SArg.cons (LArg.row 88) (SArg.cons (LArg.row 91) (SArg.cons (LArg.row 109) (SArg.one (LArg.row 115)))))) (Args.one (Arg.leaf (LArg.int .i64))))
def n10:Int->V cxT.ty:=λt=>(.inl (.inl (lv (.int .i64 t))))
def aWl:Int:=(0:Int)
abbrev c10 (m:Y10):=eP (cx:=cxT) a10 n10 aWl m
theorem bBh:∀ t,bM (n10 t)=true\/bC (n10 t)=true:=λ_=>.inl rfl
abbrev Y11:=C4->Option Bool
def a11:Args cxT.ty C4:=(Args.one (Arg.agg (SArg.cons (LArg.row 73) (SArg.cons (LArg.row 96) (SArg.cons (LArg.row 64) (SArg.one (LArg.row 104)))))))
def n11:Bool->V cxT.ty:=λt=>(.inl (.inl (lv (.bool t))))
def aWj:Bool:=false
abbrev c11 (m:Y11):=eP (cx:=cxT) a11 n11 aWj m
theorem bBg:∀ t,bM (n11 t)=true\/bC (n11 t)=true:=λ_=>.inl rfl
abbrev Y12:=C4->Option C4
def a12:Args cxT.ty C4:=(Args.one (Arg.agg (SArg.cons (LArg.row 88) (SArg.cons (LArg.row 91) (SArg.cons (LArg.row 109) (SArg.one (LArg.row 115)))))))
def n12:C4->V cxT.ty:=λt=>(.inl (.inr [(ls { own:=2,nm:=0,e:=73,o:=true,xs:=t.1 }),(ls { own:=2,nm:=0,e:=96,o:=true,xs:=t.2.1 }),(ls { own:=2,nm:=0,e:=64,o:=true,xs:=t.2.2.1 }),(ls { own:=2,nm:=0,e:=104,o:=true,xs:=t.2.2.2 })]))
def aWi:C4:=([],[],[],[])
abbrev c12 (m:Y12):=eP (cx:=cxT) a12 n12 aWi m
theorem bBf:∀ t,bM (n12 t)=true\/bC (n12 t)=true:=λ_=>.inl rfl
abbrev Y13:=C4->Option Bool
def a13:Args cxT.ty C4:=(Args.one (Arg.agg (SArg.cons (LArg.row 73) (SArg.cons (LArg.row 96) (SArg.cons (LArg.row 64) (SArg.one (LArg.row 104)))))))
def n13:Bool->V cxT.ty:=λt=>(.inl (.inl (lv (.bool t))))
def aWh:Bool:=false
abbrev c13 (m:Y13):=eP (cx:=cxT) a13 n13 aWh m
theorem bBe:∀ t,bM (n13 t)=true\/bC (n13 t)=true:=λ_=>.inl rfl
abbrev Y14:=(C4×C4)->Option Bool
def a14:Args cxT.ty (C4×C4):=(Args.cons (Arg.agg (SArg.cons (LArg.row 73) (SArg.cons (LArg.row 96) (SArg.cons (LArg.row 64) (SArg.one (LArg.row 104)))))) (Args.one (Arg.agg (SArg.cons (LArg.row 73) (SArg.cons (LArg.row 96) (SArg.cons (LArg.row 64) (SArg.one (LArg.row 104))))))))
def n14:Bool->V cxT.ty:=λt=>(.inl (.inl (lv (.bool t))))
def aWf:Bool:=false
abbrev c14 (m:Y14):=eP (cx:=cxT) a14 n14 aWf m
theorem bBd:∀ t,bM (n14 t)=true\/bC (n14 t)=true:=λ_=>.inl rfl
abbrev Y15:=C4->Option Bool
def a15:Args cxT.ty C4:=(Args.one (Arg.agg (SArg.cons (LArg.row 73) (SArg.cons (LArg.row 96) (SArg.cons (LArg.row 64) (SArg.one (LArg.row 104)))))))
def n15:Bool->V cxT.ty:=λt=>(.inl (.inl (lv (.bool t))))
def aWe:Bool:=false
abbrev c15 (m:Y15):=eP (cx:=cxT) a15 n15 aWe m
theorem bBc:∀ t,bM (n15 t)=true\/bC (n15 t)=true:=λ_=>.inl rfl
abbrev Y16:=C4->Option Bool
def a16:Args cxT.ty C4:=(Args.one (Arg.agg (SArg.cons (LArg.row 73) (SArg.cons (LArg.row 96) (SArg.cons (LArg.row 64) (SArg.one (LArg.row 104)))))))
def n16:Bool->V cxT.ty:=λt=>(.inl (.inl (lv (.bool t))))
def aWd:Bool:=false
abbrev c16 (m:Y16):=eP (cx:=cxT) a16 n16 aWd m
theorem bBb:∀ t,bM (n16 t)=true\/bC (n16 t)=true:=λ_=>.inl rfl
abbrev Y17:=C4->Option Bool
def a17:Args cxT.ty C4:=(Args.one (Arg.agg (SArg.cons (LArg.row 73) (SArg.cons (LArg.row 96) (SArg.cons (LArg.row 64) (SArg.one (LArg.row 104)))))))
def n17:Bool->V cxT.ty:=λt=>(.inl (.inl (lv (.bool t))))
def aWc:Bool:=false
abbrev c17 (m:Y17):=eP (cx:=cxT) a17 n17 aWc m
theorem bBa:∀ t,bM (n17 t)=true\/bC (n17 t)=true:=λ_=>.inl rfl
abbrev Y18:=C4->Option Bool
def a18:Args cxT.ty C4:=(Args.one (Arg.agg (SArg.cons (LArg.row 73) (SArg.cons (LArg.row 96) (SArg.cons (LArg.row 64) (SArg.one (LArg.row 104)))))))
def n18:Bool->V cxT.ty:=λt=>(.inl (.inl (lv (.bool t))))
def aWb:Bool:=false
abbrev c18 (m:Y18):=eP (cx:=cxT) a18 n18 aWb m
theorem bA9:∀ t,bM (n18 t)=true\/bC (n18 t)=true:=λ_=>.inl rfl
abbrev Y19:=C4->Option Bool
def a19:Args cxT.ty C4:=(Args.one (Arg.agg (SArg.cons (LArg.row 73) (SArg.cons (LArg.row 96) (SArg.cons (LArg.row 64) (SArg.one (LArg.row 104)))))))
def n19:Bool->V cxT.ty:=λt=>(.inl (.inl (lv (.bool t))))
def aWa:Bool:=false
abbrev c19 (m:Y19):=eP (cx:=cxT) a19 n19 aWa m
theorem bA8:∀ t,bM (n19 t)=true\/bC (n19 t)=true:=λ_=>.inl rfl
abbrev Y20:=C4->Option Bool
def a20:Args cxT.ty C4:=(Args.one (Arg.agg (SArg.cons (LArg.row 73) (SArg.cons (LArg.row 96) (SArg.cons (LArg.row 64) (SArg.one (LArg.row 104)))))))
def n20:Bool->V cxT.ty:=λt=>(.inl (.inl (lv (.bool t))))
def aV9:Bool:=false
abbrev c20 (m:Y20):=eP (cx:=cxT) a20 n20 aV9 m
theorem bA7:∀ t,bM (n20 t)=true\/bC (n20 t)=true:=λ_=>.inl rfl
abbrev Y21:=C4->Option Bool
def a21:Args cxT.ty C4:=(Args.one (Arg.agg (SArg.cons (LArg.row 73) (SArg.cons (LArg.row 96) (SArg.cons (LArg.row 64) (SArg.one (LArg.row 104)))))))
def n21:Bool->V cxT.ty:=λt=>(.inl (.inl (lv (.bool t))))
def aV8:Bool:=false
abbrev c21 (m:Y21):=eP (cx:=cxT) a21 n21 aV8 m
theorem bA6:∀ t,bM (n21 t)=true\/bC (n21 t)=true:=λ_=>.inl rfl
abbrev Y22:=C4->Option Bool
def a22:Args cxT.ty C4:=(Args.one (Arg.agg (SArg.cons (LArg.row 73) (SArg.cons (LArg.row 96) (SArg.cons (LArg.row 64) (SArg.one (LArg.row 104)))))))
def n22:Bool->V cxT.ty:=λt=>(.inl (.inl (lv (.bool t))))
def aV7:Bool:=false
abbrev c22 (m:Y22):=eP (cx:=cxT) a22 n22 aV7 m
theorem bA5:∀ t,bM (n22 t)=true\/bC (n22 t)=true:=λ_=>.inl rfl
abbrev Y23:=C4->Option (Int×(List E9))
def a23:Args cxT.ty C4:=(Args.one (Arg.agg (SArg.cons (LArg.row 73) (SArg.cons (LArg.row 96) (SArg.cons (LArg.row 64) (SArg.one (LArg.row 104)))))))
def n23:(Int×(List E9))->V cxT.ty:=λt=>(.inl (.inr [(lv (.int .i64 t.1)),(ls { own:=2,nm:=0,e:=102,o:=true,xs:=t.2 })]))
def bCG:(Int×(List E9)):=((0:Int),[])
abbrev c23 (m:Y23):=eP (cx:=cxT) a23 n23 bCG m
abbrev Y24:=C4->Option (Int×(List E9))
def a24:Args cxT.ty C4:=(Args.one (Arg.agg (SArg.cons (LArg.row 73) (SArg.cons (LArg.row 96) (SArg.cons (LArg.row 64) (SArg.one (LArg.row 104)))))))
def n24:(Int×(List E9))->V cxT.ty:=λt=>(.inl (.inr [(lv (.int .i64 t.1)),(ls { own:=2,nm:=0,e:=102,o:=true,xs:=t.2 })]))
def bCF:(Int×(List E9)):=((0:Int),[])
abbrev c24 (m:Y24):=eP (cx:=cxT) a24 n24 bCF m
abbrev Y25:=((Int×(List E9))×(Int×(List E9)))->Option Bool
def a25:Args cxT.ty ((Int×(List E9))×(Int×(List E9))):=(Args.cons (Arg.agg (SArg.cons (LArg.int .i64) (SArg.one (LArg.row 102)))) (Args.one (Arg.agg (SArg.cons (LArg.int .i64) (SArg.one (LArg.row 102))))))
def n25:Bool->V cxT.ty:=λt=>(.inl (.inl (lv (.bool t))))
def bCE:Bool:=false
abbrev c25 (m:Y25):=eP (cx:=cxT) a25 n25 bCE m
abbrev Y26:=(C4×Int)->Option R5
def a26:Args cxT.ty (C4×Int):=(Args.cons (Arg.agg (SArg.cons (LArg.own 73) (SArg.cons (LArg.own 96) (SArg.cons (LArg.own 64) (SArg.one (LArg.own 104)))))) (Args.one (Arg.leaf (LArg.int .i64))))
def n26:R5->List (A cxT.ty):=λt=>[(.inl (lv (.int .i64 t.1))),(.inr [(ls { own:=2,nm:=0,e:=73,o:=true,xs:=t.2.1 }),(ls { own:=2,nm:=0,e:=96,o:=true,xs:=t.2.2.1 }),(ls { own:=2,nm:=0,e:=64,o:=true,xs:=t.2.2.2.1 }),(ls { own:=2,nm:=0,e:=104,o:=true,xs:=t.2.2.2.2 })])]
def bCD:R5:=((0:Int),[],[],[],[])
abbrev c26 (m:Y26):WFn cxT:={ nres:=1,n:=1,F:=fnW (cx:=cxT) a26 n26 bCD m,p:=4 }
abbrev Y27:=((Int×(List E9))×Int)->Option (Int×Int×(List E9))
def a27:Args cxT.ty ((Int×(List E9))×Int):=(Args.cons (Arg.agg (SArg.cons (LArg.int .i64) (SArg.one (LArg.own 102)))) (Args.one (Arg.leaf (LArg.int .i64))))
def n27:(Int×Int×(List E9))->List (A cxT.ty):=λt=>[(.inl (lv (.int .i64 t.1))),(.inr [(lv (.int .i64 t.2.1)),(ls { own:=2,nm:=0,e:=102,o:=true,xs:=t.2.2 })])]
def bCC:(Int×Int×(List E9)):=((0:Int),(0:Int),[])
abbrev c27 (m:Y27):WFn cxT:={ nres:=1,n:=1,F:=fnW (cx:=cxT) a27 n27 bCC m }
abbrev Y28:=((Int×(List E9))×Int)->Option Int
def a28:Args cxT.ty ((Int×(List E9))×Int):=(Args.cons (Arg.agg (SArg.cons (LArg.int .i64) (SArg.one (LArg.row 102)))) (Args.one (Arg.leaf (LArg.int .i64))))
def n28:Int->V cxT.ty:=λt=>(.inl (.inl (lv (.int .i64 t))))
def bCB:Int:=(0:Int)
abbrev c28 (m:Y28):=eP (cx:=cxT) a28 n28 bCB m
abbrev Y29:=C4->Option (Int×Int)
def a29:Args cxT.ty C4:=(Args.one (Arg.agg (SArg.cons (LArg.row 73) (SArg.cons (LArg.row 96) (SArg.cons (LArg.row 64) (SArg.one (LArg.row 104)))))))
def n29:(Int×Int)->V cxT.ty:=λt=>(.inl (.inr [(lv (.int .i64 t.1)),(lv (.int .i64 t.2))]))
def bCA:(Int×Int):=((0:Int),(0:Int))
abbrev c29 (m:Y29):=eP (cx:=cxT) a29 n29 bCA m
abbrev Y30:=C4->Option (Int×Int)
def a30:Args cxT.ty C4:=(Args.one (Arg.agg (SArg.cons (LArg.row 73) (SArg.cons (LArg.row 96) (SArg.cons (LArg.row 64) (SArg.one (LArg.row 104)))))))
def n30:(Int×Int)->V cxT.ty:=λt=>(.inl (.inr [(lv (.int .i64 t.1)),(lv (.int .i64 t.2))]))
def bCz:(Int×Int):=((0:Int),(0:Int))
abbrev c30 (m:Y30):=eP (cx:=cxT) a30 n30 bCz m
abbrev Y31:=((Int×Int)×(Int×Int))->Option Bool
def a31:Args cxT.ty ((Int×Int)×(Int×Int)):=(Args.cons (Arg.agg (SArg.cons (LArg.int .i64) (SArg.one (LArg.int .i64)))) (Args.one (Arg.agg (SArg.cons (LArg.int .i64) (SArg.one (LArg.int .i64))))))
def n31:Bool->V cxT.ty:=λt=>(.inl (.inl (lv (.bool t))))
def bCy:Bool:=false
abbrev c31 (m:Y31):=eP (cx:=cxT) a31 n31 bCy m
abbrev Y32:=((List N10)×Int)->Option Int
def a32:Args cxT.ty ((List N10)×Int):=(Args.cons (Arg.leaf (LArg.row 88)) (Args.one (Arg.leaf (LArg.int .i64))))
def n32:Int->V cxT.ty:=λt=>(.inl (.inl (lv (.int .i64 t))))
def aV6:Int:=(0:Int)
abbrev c32 (m:Y32):=eP (cx:=cxT) a32 n32 aV6 m
theorem bA4:∀ t,bM (n32 t)=true\/bC (n32 t)=true:=λ_=>.inl rfl
abbrev Y33:=((List M9)×Int)->Option Int
def a33:Args cxT.ty ((List M9)×Int):=(Args.cons (Arg.leaf (LArg.row 91)) (Args.one (Arg.leaf (LArg.int .i64))))
def n33:Int->V cxT.ty:=λt=>(.inl (.inl (lv (.int .i64 t))))
def aV5:Int:=(0:Int)
abbrev c33 (m:Y33):=eP (cx:=cxT) a33 n33 aV5 m
theorem bA3:∀ t,bM (n33 t)=true\/bC (n33 t)=true:=λ_=>.inl rfl
abbrev Y34:=((List W2)×Int)->Option Int
def a34:Args cxT.ty ((List W2)×Int):=(Args.cons (Arg.leaf (LArg.row 109)) (Args.one (Arg.leaf (LArg.int .i64))))
def n34:Int->V cxT.ty:=λt=>(.inl (.inl (lv (.int .i64 t))))
def aV4:Int:=(0:Int)
abbrev c34 (m:Y34):=eP (cx:=cxT) a34 n34 aV4 m
theorem bA2:∀ t,bM (n34 t)=true\/bC (n34 t)=true:=λ_=>.inl rfl
abbrev Y35:=((List S10)×Int)->Option Int
def a35:Args cxT.ty ((List S10)×Int):=(Args.cons (Arg.leaf (LArg.row 115)) (Args.one (Arg.leaf (LArg.int .i64))))
def n35:Int->V cxT.ty:=λt=>(.inl (.inl (lv (.int .i64 t))))
def aV3:Int:=(0:Int)
abbrev c35 (m:Y35):=eP (cx:=cxT) a35 n35 aV3 m
theorem bA1:∀ t,bM (n35 t)=true\/bC (n35 t)=true:=λ_=>.inl rfl
abbrev Y36:=C4->Option Int
def a36:Args cxT.ty C4:=(Args.one (Arg.leaf (LArg.ptr 35)))
def xB:Int->V cxT.ty:=λt=>(.inl (.inl (lv (.int .i64 t))))
def aV2:Int:=(0:Int)
abbrev c36 (m:Y36):=eP (cx:=cxT) a36 xB aV2 m
theorem bA0:∀ t,bM (xB t)=true\/bC (xB t)=true:=λ_=>.inl rfl
abbrev Y37:=C4->Option Bool
def a37:Args cxT.ty C4:=(Args.one (Arg.leaf (LArg.ptr 35)))
def n37:Bool->V cxT.ty:=λt=>(.inl (.inl (lv (.bool t))))
def aV1:Bool:=false
abbrev c37 (m:Y37):=eP (cx:=cxT) a37 n37 aV1 m
theorem bAZ:∀ t,bM (n37 t)=true\/bC (n37 t)=true:=λ_=>.inl rfl
abbrev Y38:=(List N10)->Option (List N10)
def a38:Args cxT.ty (List N10):=(Args.one (Arg.leaf (LArg.row 88)))
def n38:(List N10)->V cxT.ty:=λt=>(.inl (.inl (ls { own:=2,nm:=0,e:=73,o:=true,xs:=t })))
def aV0:(List N10):=[]
abbrev c38 (m:Y38):=eP (cx:=cxT) a38 n38 aV0 m
theorem bAY:∀ t,bM (n38 t)=true\/bC (n38 t)=true:=λ_=>.inl rfl
abbrev Y39:=(List M9)->Option (List M9)
def a39:Args cxT.ty (List M9):=(Args.one (Arg.leaf (LArg.row 91)))
def n39:(List M9)->V cxT.ty:=λt=>(.inl (.inl (ls { own:=2,nm:=0,e:=96,o:=true,xs:=t })))
def aVZ:(List M9):=[]
abbrev c39 (m:Y39):=eP (cx:=cxT) a39 n39 aVZ m
theorem bAX:∀ t,bM (n39 t)=true\/bC (n39 t)=true:=λ_=>.inl rfl
abbrev Y40:=(List W2)->Option (List W2)
def a40:Args cxT.ty (List W2):=(Args.one (Arg.leaf (LArg.row 109)))
def n40:(List W2)->V cxT.ty:=λt=>(.inl (.inl (ls { own:=2,nm:=0,e:=64,o:=true,xs:=t })))
def aVY:(List W2):=[]
abbrev c40 (m:Y40):=eP (cx:=cxT) a40 n40 aVY m
theorem bAW:∀ t,bM (n40 t)=true\/bC (n40 t)=true:=λ_=>.inl rfl
abbrev Y41:=(List S10)->Option (List S10)
def a41:Args cxT.ty (List S10):=(Args.one (Arg.leaf (LArg.row 115)))
def n41:(List S10)->V cxT.ty:=λt=>(.inl (.inl (ls { own:=2,nm:=0,e:=104,o:=true,xs:=t })))
def aVX:(List S10):=[]
abbrev c41 (m:Y41):=eP (cx:=cxT) a41 n41 aVX m
theorem bAV:∀ t,bM (n41 t)=true\/bC (n41 t)=true:=λ_=>.inl rfl
abbrev Y42:=C4->Option Int
def a42:Args cxT.ty C4:=(Args.one (Arg.agg (SArg.cons (LArg.row 73) (SArg.cons (LArg.row 96) (SArg.cons (LArg.row 64) (SArg.one (LArg.row 104)))))))
def n42:Int->V cxT.ty:=λt=>(.inl (.inl (lv (.int .i64 t))))
def aVW:Int:=(0:Int)
abbrev c42 (m:Y42):=eP (cx:=cxT) a42 n42 aVW m
theorem bAU:∀ t,bM (n42 t)=true\/bC (n42 t)=true:=λ_=>.inl rfl
abbrev Y43:=((List W2)×Unit)->Option Bool
def a43:Args cxT.ty ((List W2)×Unit):=(Args.cons (Arg.leaf (LArg.row 64)) (Args.one (Arg.leaf (LArg.fn 44))))
def n43:Bool->V cxT.ty:=λt=>(.inl (.inl (lv (.bool t))))
def aVV:Bool:=false
abbrev c43 (m:Y43):=eP (cx:=cxT) a43 n43 aVV m
theorem bAT:∀ t,bM (n43 t)=true\/bC (n43 t)=true:=λ_=>.inl rfl
abbrev Y44:=((Int×Int)×(Int×Int))->Option Bool
def a44:Args cxT.ty ((Int×Int)×(Int×Int)):=(Args.cons (Arg.agg (SArg.cons (LArg.int .i64) (SArg.one (LArg.int .i64)))) (Args.one (Arg.agg (SArg.cons (LArg.int .i64) (SArg.one (LArg.int .i64))))))
def n44:Bool->V cxT.ty:=λt=>(.inl (.inl (lv (.bool t))))
def aVU:Bool:=false
abbrev c44 (m:Y44):=eP (cx:=cxT) a44 n44 aVU m
theorem bAS:∀ t,bM (n44 t)=true\/bC (n44 t)=true:=λ_=>.inl rfl
abbrev Y45:=((List N10)×(List N10))->Option Bool
def a45:Args cxT.ty ((List N10)×(List N10)):=(Args.cons (Arg.leaf (LArg.row 73)) (Args.one (Arg.leaf (LArg.row 73))))
def n45:Bool->V cxT.ty:=λt=>(.inl (.inl (lv (.bool t))))
def aVT:Bool:=false
abbrev c45 (m:Y45):=eP (cx:=cxT) a45 n45 aVT m
theorem bAR:∀ t,bM (n45 t)=true\/bC (n45 t)=true:=λ_=>.inl rfl
abbrev Y46:=((List M9)×(List M9))->Option Bool
def a46:Args cxT.ty ((List M9)×(List M9)):=(Args.cons (Arg.leaf (LArg.row 96)) (Args.one (Arg.leaf (LArg.row 96))))
def n46:Bool->V cxT.ty:=λt=>(.inl (.inl (lv (.bool t))))
def aVS:Bool:=false
abbrev c46 (m:Y46):=eP (cx:=cxT) a46 n46 aVS m
theorem bAQ:∀ t,bM (n46 t)=true\/bC (n46 t)=true:=λ_=>.inl rfl
abbrev Y47:=((List W2)×(List W2))->Option Bool
def a47:Args cxT.ty ((List W2)×(List W2)):=(Args.cons (Arg.leaf (LArg.row 64)) (Args.one (Arg.leaf (LArg.row 64))))
def n47:Bool->V cxT.ty:=λt=>(.inl (.inl (lv (.bool t))))
def aVR:Bool:=false
abbrev c47 (m:Y47):=eP (cx:=cxT) a47 n47 aVR m
theorem bAP:∀ t,bM (n47 t)=true\/bC (n47 t)=true:=λ_=>.inl rfl
abbrev Y48:=((List S10)×(List S10))->Option Bool
def a48:Args cxT.ty ((List S10)×(List S10)):=(Args.cons (Arg.leaf (LArg.row 104)) (Args.one (Arg.leaf (LArg.row 104))))
def n48:Bool->V cxT.ty:=λt=>(.inl (.inl (lv (.bool t))))
def aVQ:Bool:=false
abbrev c48 (m:Y48):=eP (cx:=cxT) a48 n48 aVQ m
theorem bAO:∀ t,bM (n48 t)=true\/bC (n48 t)=true:=λ_=>.inl rfl
abbrev Y49:=C4->Option Bool
def a49:Args cxT.ty C4:=(Args.one (Arg.leaf (LArg.ptr 35)))
def n49:Bool->V cxT.ty:=λt=>(.inl (.inl (lv (.bool t))))
def aVP:Bool:=false
abbrev c49 (m:Y49):=eP (cx:=cxT) a49 n49 aVP m
theorem bAN:∀ t,bM (n49 t)=true\/bC (n49 t)=true:=λ_=>.inl rfl
abbrev Y50:=((List N10)×Unit)->Option Bool
def a50:Args cxT.ty ((List N10)×Unit):=(Args.cons (Arg.leaf (LArg.row 73)) (Args.one (Arg.leaf (LArg.fn 51))))
def n50:Bool->V cxT.ty:=λt=>(.inl (.inl (lv (.bool t))))
def aVO:Bool:=false
abbrev c50 (m:Y50):=eP (cx:=cxT) a50 n50 aVO m
theorem bAM:∀ t,bM (n50 t)=true\/bC (n50 t)=true:=λ_=>.inl rfl
abbrev Y51:=(N10×N10)->Option Bool
def a51:Args cxT.ty (N10×N10):=(Args.cons (Arg.agg (SArg.cons (LArg.int .i64) (SArg.cons (LArg.int .i64) (SArg.cons (LArg.int .i64) (SArg.cons (LArg.int .i64) (SArg.cons (LArg.row 102) (SArg.cons (LArg.int .i64) (SArg.cons (LArg.int .i64) (SArg.cons (LArg.row 2) (SArg.cons (LArg.row 2) (SArg.one (LArg.row 2)))))))))))) (Args.one (Arg.agg (SArg.cons (LArg.int .i64) (SArg.cons (LArg.int .i64) (SArg.cons (LArg.int .i64) (SArg.cons (LArg.int .i64) (SArg.cons (LArg.row 102) (SArg.cons (LArg.int .i64) (SArg.cons (LArg.int .i64) (SArg.cons (LArg.row 2) (SArg.cons (LArg.row 2) (SArg.one (LArg.row 2))))))))))))))
def n51:Bool->V cxT.ty:=λt=>(.inl (.inl (lv (.bool t))))
def aVN:Bool:=false
abbrev c51 (m:Y51):=eP (cx:=cxT) a51 n51 aVN m
theorem bAL:∀ t,bM (n51 t)=true\/bC (n51 t)=true:=λ_=>.inl rfl
abbrev Y52:=C4->Option Bool
def a52:Args cxT.ty C4:=(Args.one (Arg.leaf (LArg.ptr 35)))
def n52:Bool->V cxT.ty:=λt=>(.inl (.inl (lv (.bool t))))
def aVM:Bool:=false
abbrev c52 (m:Y52):=eP (cx:=cxT) a52 n52 aVM m
theorem bAK:∀ t,bM (n52 t)=true\/bC (n52 t)=true:=λ_=>.inl rfl
abbrev Y53:=(List S10)->Option (List E9)
def a53:Args cxT.ty (List S10):=(Args.one (Arg.leaf (LArg.row 104)))
def n53:(List E9)->V cxT.ty:=λt=>(.inl (.inl (ls { own:=2,nm:=0,e:=102,o:=true,xs:=t })))
def aVL:(List E9):=[]
abbrev c53 (m:Y53):=eP (cx:=cxT) a53 n53 aVL m
theorem bAJ:∀ t,bM (n53 t)=true\/bC (n53 t)=true:=λ_=>.inl rfl
abbrev Y54:=((List E9)×(List E9))->Option Int
def a54:Args cxT.ty ((List E9)×(List E9)):=(Args.cons (Arg.leaf (LArg.row 102)) (Args.one (Arg.leaf (LArg.row 102))))
def n54:Int->V cxT.ty:=λt=>(.inl (.inl (lv (.int .i64 t))))
def aVK:Int:=(0:Int)
abbrev c54 (m:Y54):=eP (cx:=cxT) a54 n54 aVK m
theorem bAI:∀ t,bM (n54 t)=true\/bC (n54 t)=true:=λ_=>.inl rfl
abbrev Y55:=C4->Option Bool
def a55:Args cxT.ty C4:=(Args.one (Arg.leaf (LArg.ptr 35)))
def n55:Bool->V cxT.ty:=λt=>(.inl (.inl (lv (.bool t))))
def aVJ:Bool:=false
abbrev c55 (m:Y55):=eP (cx:=cxT) a55 n55 aVJ m
theorem bAH:∀ t,bM (n55 t)=true\/bC (n55 t)=true:=λ_=>.inl rfl
abbrev Y56:=(N10×(List S10))->Option Bool
def a56:Args cxT.ty (N10×(List S10)):=(Args.cons (Arg.agg (SArg.cons (LArg.int .i64) (SArg.cons (LArg.int .i64) (SArg.cons (LArg.int .i64) (SArg.cons (LArg.int .i64) (SArg.cons (LArg.row 102) (SArg.cons (LArg.int .i64) (SArg.cons (LArg.int .i64) (SArg.cons (LArg.row 2) (SArg.cons (LArg.row 2) (SArg.one (LArg.row 2)))))))))))) (Args.one (Arg.leaf (LArg.row 104))))
def n56:Bool->V cxT.ty:=λt=>(.inl (.inl (lv (.bool t))))
def aVI:Bool:=false
abbrev c56 (m:Y56):=eP (cx:=cxT) a56 n56 aVI m
theorem bAG:∀ t,bM (n56 t)=true\/bC (n56 t)=true:=λ_=>.inl rfl
abbrev Y58:=((List E9)×(List E9))->Option Bool
def a58:Args cxT.ty ((List E9)×(List E9)):=(Args.cons (Arg.leaf (LArg.row 102)) (Args.one (Arg.leaf (LArg.row 102))))
def n58:Bool->V cxT.ty:=λt=>(.inl (.inl (lv (.bool t))))
def aVH:Bool:=false
abbrev c58 (m:Y58):=eP (cx:=cxT) a58 n58 aVH m
theorem bAF:∀ t,bM (n58 t)=true\/bC (n58 t)=true:=λ_=>.inl rfl
abbrev Y65:=(N10×Int)->Option Int
def a65:Args cxT.ty (N10×Int):=(Args.cons (Arg.agg (SArg.cons (LArg.int .i64) (SArg.cons (LArg.int .i64) (SArg.cons (LArg.int .i64) (SArg.cons (LArg.int .i64) (SArg.cons (LArg.row 113) (SArg.cons (LArg.int .i64) (SArg.cons (LArg.int .i64) (SArg.cons (LArg.row 2) (SArg.cons (LArg.row 2) (SArg.one (LArg.row 2)))))))))))) (Args.one (Arg.leaf (LArg.int .i64))))
def n65:Int->V cxT.ty:=λt=>(.inl (.inl (lv (.int .i64 t))))
def aVG:Int:=(0:Int)
abbrev c65 (m:Y65):=eP (cx:=cxT) a65 n65 aVG m
theorem bAE:∀ t,bM (n65 t)=true\/bC (n65 t)=true:=λ_=>.inl rfl
abbrev Y66:=(M9×Int)->Option Int
def a66:Args cxT.ty (M9×Int):=(Args.cons (Arg.agg (SArg.cons (LArg.int .i64) (SArg.cons (LArg.int .i64) (SArg.cons (LArg.int .i64) (SArg.cons (LArg.int .i64) (SArg.cons (LArg.int .i64) (SArg.cons (LArg.int .i64) (SArg.cons (LArg.int .i64) (SArg.cons LArg.bool (SArg.one (LArg.row 113))))))))))) (Args.one (Arg.leaf (LArg.int .i64))))
def n66:Int->V cxT.ty:=λt=>(.inl (.inl (lv (.int .i64 t))))
def aVF:Int:=(0:Int)
abbrev c66 (m:Y66):=eP (cx:=cxT) a66 n66 aVF m
theorem bAD:∀ t,bM (n66 t)=true\/bC (n66 t)=true:=λ_=>.inl rfl
abbrev Y67:=N10->Option Int
def a67:Args cxT.ty N10:=(Args.one (Arg.leaf (LArg.ptr 73)))
def n67:Int->V cxT.ty:=λt=>(.inl (.inl (lv (.int .i64 t))))
def aVE:Int:=(0:Int)
abbrev c67 (m:Y67):=eP (cx:=cxT) a67 n67 aVE m
theorem bAC:∀ t,bM (n67 t)=true\/bC (n67 t)=true:=λ_=>.inl rfl
abbrev Y68:=(C4×Int)->Option Bool
def a68:Args cxT.ty (C4×Int):=(Args.cons (Arg.leaf (LArg.ptr 35)) (Args.one (Arg.leaf (LArg.int .i64))))
def n68:Bool->V cxT.ty:=λt=>(.inl (.inl (lv (.bool t))))
def aVD:Bool:=false
abbrev c68 (m:Y68):=eP (cx:=cxT) a68 n68 aVD m
theorem bAB:∀ t,bM (n68 t)=true\/bC (n68 t)=true:=λ_=>.inl rfl
abbrev Y69:=(N10×M9)->Option Int
def a69:Args cxT.ty (N10×M9):=(Args.cons (Arg.leaf (LArg.ptr 73)) (Args.one (Arg.agg (SArg.cons (LArg.int .i64) (SArg.cons (LArg.int .i64) (SArg.cons (LArg.int .i64) (SArg.cons (LArg.int .i64) (SArg.cons (LArg.int .i64) (SArg.cons (LArg.int .i64) (SArg.cons (LArg.int .i64) (SArg.cons LArg.bool (SArg.one (LArg.row 102)))))))))))))
def n69:Int->V cxT.ty:=λt=>(.inl (.inl (lv (.int .i64 t))))
def aVC:Int:=(0:Int)
abbrev c69 (m:Y69):=eP (cx:=cxT) a69 n69 aVC m
theorem bAA:∀ t,bM (n69 t)=true\/bC (n69 t)=true:=λ_=>.inl rfl
abbrev Y70:=(Int×Int×Int)->Option Bool
def a70:Args cxT.ty (Int×Int×Int):=(Args.cons (Arg.leaf (LArg.int .i64)) (Args.cons (Arg.leaf (LArg.int .i64)) (Args.one (Arg.leaf (LArg.int .i64)))))
def n70:Bool->V cxT.ty:=λt=>(.inl (.inl (lv (.bool t))))
def aVB:Bool:=false
abbrev xQ (m:Y70):=eP (cx:=cxT) a70 n70 aVB m
theorem bAz:∀ t,bM (n70 t)=true\/bC (n70 t)=true:=λ_=>.inl rfl
abbrev Y71:=E9->Option Int
def a71:Args cxT.ty E9:=(Args.one (Arg.agg (SArg.cons (LArg.int .i64) (SArg.cons (LArg.int .i64) (SArg.cons (LArg.int .i64) (SArg.cons (LArg.int .i64) (SArg.cons (LArg.int .i64) (SArg.cons (LArg.int .i64) (SArg.cons (LArg.int .i64) (SArg.cons (LArg.int .i64) (SArg.one (LArg.int .i64))))))))))))
def n71:Int->V cxT.ty:=λt=>(.inl (.inl (lv (.int .i64 t))))
def aVA:Int:=(0:Int)
abbrev c71 (m:Y71):=eP (cx:=cxT) a71 n71 aVA m
theorem bAy:∀ t,bM (n71 t)=true\/bC (n71 t)=true:=λ_=>.inl rfl
abbrev Y72:=N10->Option N10
def a72:Args cxT.ty N10:=(Args.one (Arg.agg (SArg.cons (LArg.int .i64) (SArg.cons (LArg.int .i64) (SArg.cons (LArg.int .i64) (SArg.cons (LArg.int .i64) (SArg.cons (LArg.row 113) (SArg.cons (LArg.int .i64) (SArg.cons (LArg.int .i64) (SArg.cons (LArg.row 2) (SArg.cons (LArg.row 2) (SArg.one (LArg.row 2)))))))))))))
def n72:N10->V cxT.ty:=λt=>(.inl (.inr [(lv (.int .i64 t.1)),(lv (.int .i64 t.2.1)),(lv (.int .i64 t.2.2.1)),(lv (.int .i64 t.2.2.2.1)),(ls { own:=2,nm:=0,e:=102,o:=true,xs:=t.2.2.2.2.1 }),(lv (.int .i64 t.2.2.2.2.2.1)),(lv (.int .i64 t.2.2.2.2.2.2.1)),(ls { own:=2,nm:=0,e:=2,o:=true,xs:=t.2.2.2.2.2.2.2.1 }),(ls { own:=2,nm:=0,e:=2,o:=true,xs:=t.2.2.2.2.2.2.2.2.1 }),(ls { own:=2,nm:=0,e:=2,o:=true,xs:=t.2.2.2.2.2.2.2.2.2 })]))
def aVz:N10:=((0:Int),(0:Int),(0:Int),(0:Int),[],(0:Int),(0:Int),[],[],[])
abbrev c72 (m:Y72):=eP (cx:=cxT) a72 n72 aVz m
theorem bAx:∀ t,bM (n72 t)=true\/bC (n72 t)=true:=λ_=>.inl rfl
abbrev Y73:=M9->Option M9
def a73:Args cxT.ty M9:=(Args.one (Arg.agg (SArg.cons (LArg.int .i64) (SArg.cons (LArg.int .i64) (SArg.cons (LArg.int .i64) (SArg.cons (LArg.int .i64) (SArg.cons (LArg.int .i64) (SArg.cons (LArg.int .i64) (SArg.cons (LArg.int .i64) (SArg.cons LArg.bool (SArg.one (LArg.row 113))))))))))))
def n73:M9->V cxT.ty:=λt=>(.inl (.inr [(lv (.int .i64 t.1)),(lv (.int .i64 t.2.1)),(lv (.int .i64 t.2.2.1)),(lv (.int .i64 t.2.2.2.1)),(lv (.int .i64 t.2.2.2.2.1)),(lv (.int .i64 t.2.2.2.2.2.1)),(lv (.int .i64 t.2.2.2.2.2.2.1)),(lv (.bool t.2.2.2.2.2.2.2.1)),(ls { own:=2,nm:=0,e:=102,o:=true,xs:=t.2.2.2.2.2.2.2.2 })]))
def aVy:M9:=((0:Int),(0:Int),(0:Int),(0:Int),(0:Int),(0:Int),(0:Int),false,[])
abbrev c73 (m:Y73):=eP (cx:=cxT) a73 n73 aVy m
theorem bAw:∀ t,bM (n73 t)=true\/bC (n73 t)=true:=λ_=>.inl rfl
abbrev Y74:=(Int×Int)->Option (Int×Int)
def a74:Args cxT.ty (Int×Int):=(Args.one (Arg.agg (SArg.cons (LArg.int .i64) (SArg.one (LArg.int .i64)))))
def n74:(Int×Int)->V cxT.ty:=λt=>(.inl (.inr [(lv (.int .i64 t.1)),(lv (.int .i64 t.2))]))
def aVx:(Int×Int):=((0:Int),(0:Int))
abbrev c74 (m:Y74):=eP (cx:=cxT) a74 n74 aVx m
theorem bAv:∀ t,bM (n74 t)=true\/bC (n74 t)=true:=λ_=>.inl rfl
abbrev Y75:=S10->Option S10
def a75:Args cxT.ty S10:=(Args.one (Arg.agg (SArg.cons (LArg.int .i64) (SArg.cons (LArg.int .i64) (SArg.cons (LArg.int .i64) (SArg.cons (LArg.int .i64) (SArg.cons (LArg.int .i64) (SArg.cons (LArg.int .i64) (SArg.cons (LArg.int .i64) (SArg.cons (LArg.int .i64) (SArg.cons (LArg.int .i64) (SArg.one (LArg.int .i64)))))))))))))
def n75:S10->V cxT.ty:=λt=>(.inl (.inr [(lv (.int .i64 t.1)),(lv (.int .i64 t.2.1)),(lv (.int .i64 t.2.2.1)),(lv (.int .i64 t.2.2.2.1)),(lv (.int .i64 t.2.2.2.2.1)),(lv (.int .i64 t.2.2.2.2.2.1)),(lv (.int .i64 t.2.2.2.2.2.2.1)),(lv (.int .i64 t.2.2.2.2.2.2.2.1)),(lv (.int .i64 t.2.2.2.2.2.2.2.2.1)),(lv (.int .i64 t.2.2.2.2.2.2.2.2.2))]))
def aVw:S10:=((0:Int),(0:Int),(0:Int),(0:Int),(0:Int),(0:Int),(0:Int),(0:Int),(0:Int),(0:Int))
abbrev c75 (m:Y75):=eP (cx:=cxT) a75 n75 aVw m
theorem bAu:∀ t,bM (n75 t)=true\/bC (n75 t)=true:=λ_=>.inl rfl
abbrev Y76:=Int->Option Bool
def a76:Args cxT.ty Int:=(Args.one (Arg.leaf (LArg.int .i64)))
def n76:Bool->V cxT.ty:=λt=>(.inl (.inl (lv (.bool t))))
def aVv:Bool:=false
abbrev c76 (m:Y76):=eP (cx:=cxT) a76 n76 aVv m
theorem bAt:∀ t,bM (n76 t)=true\/bC (n76 t)=true:=λ_=>.inl rfl
abbrev Y77:=(List N10)->Option Int
def a77:Args cxT.ty (List N10):=(Args.one (Arg.leaf (LArg.row 73)))
def n77:Int->V cxT.ty:=λt=>(.inl (.inl (lv (.int .i64 t))))
def aVu:Int:=(0:Int)
abbrev c77 (m:Y77):=eP (cx:=cxT) a77 n77 aVu m
theorem bAs:∀ t,bM (n77 t)=true\/bC (n77 t)=true:=λ_=>.inl rfl
abbrev Y78:=((List N10)×(List M9))->Option Int
def a78:Args cxT.ty ((List N10)×(List M9)):=(Args.cons (Arg.leaf (LArg.row 73)) (Args.one (Arg.leaf (LArg.row 96))))
def n78:Int->V cxT.ty:=λt=>(.inl (.inl (lv (.int .i64 t))))
def aVt:Int:=(0:Int)
abbrev c78 (m:Y78):=eP (cx:=cxT) a78 n78 aVt m
theorem bAr:∀ t,bM (n78 t)=true\/bC (n78 t)=true:=λ_=>.inl rfl
abbrev Y79:=Int->Option Bool
def a79:Args cxT.ty Int:=(Args.one (Arg.leaf (LArg.int .i64)))
def n79:Bool->V cxT.ty:=λt=>(.inl (.inl (lv (.bool t))))
def aVs:Bool:=false
abbrev c79 (m:Y79):=eP (cx:=cxT) a79 n79 aVs m
theorem bAq:∀ t,bM (n79 t)=true\/bC (n79 t)=true:=λ_=>.inl rfl
abbrev Y80:=(Int×Int)->Option Bool
def a80:Args cxT.ty (Int×Int):=(Args.cons (Arg.leaf (LArg.int .i64)) (Args.one (Arg.leaf (LArg.int .i64))))
def n80:Bool->V cxT.ty:=λt=>(.inl (.inl (lv (.bool t))))
def aVr:Bool:=false
abbrev c80 (m:Y80):=eP (cx:=cxT) a80 n80 aVr m
theorem bAp:∀ t,bM (n80 t)=true\/bC (n80 t)=true:=λ_=>.inl rfl
abbrev Y81:=(List S10)->Option Int
def a81:Args cxT.ty (List S10):=(Args.one (Arg.leaf (LArg.row 104)))
def n81:Int->V cxT.ty:=λt=>(.inl (.inl (lv (.int .i64 t))))
def aVq:Int:=(0:Int)
abbrev c81 (m:Y81):=eP (cx:=cxT) a81 n81 aVq m
theorem bAo:∀ t,bM (n81 t)=true\/bC (n81 t)=true:=λ_=>.inl rfl
abbrev Y82:=(N10×N10)->Option Bool
def a82:Args cxT.ty (N10×N10):=(Args.cons (Arg.agg (SArg.cons (LArg.int .i64) (SArg.cons (LArg.int .i64) (SArg.cons (LArg.int .i64) (SArg.cons (LArg.int .i64) (SArg.cons (LArg.row 102) (SArg.cons (LArg.int .i64) (SArg.cons (LArg.int .i64) (SArg.cons (LArg.row 2) (SArg.cons (LArg.row 2) (SArg.one (LArg.row 2)))))))))))) (Args.one (Arg.agg (SArg.cons (LArg.int .i64) (SArg.cons (LArg.int .i64) (SArg.cons (LArg.int .i64) (SArg.cons (LArg.int .i64) (SArg.cons (LArg.row 102) (SArg.cons (LArg.int .i64) (SArg.cons (LArg.int .i64) (SArg.cons (LArg.row 2) (SArg.cons (LArg.row 2) (SArg.one (LArg.row 2))))))))))))))
def n82:Bool->V cxT.ty:=λt=>(.inl (.inl (lv (.bool t))))
def aVp:Bool:=false
abbrev c82 (m:Y82):=eP (cx:=cxT) a82 n82 aVp m
theorem bAn:∀ t,bM (n82 t)=true\/bC (n82 t)=true:=λ_=>.inl rfl
abbrev Y83:=(M9×M9)->Option Bool
def a83:Args cxT.ty (M9×M9):=(Args.cons (Arg.agg (SArg.cons (LArg.int .i64) (SArg.cons (LArg.int .i64) (SArg.cons (LArg.int .i64) (SArg.cons (LArg.int .i64) (SArg.cons (LArg.int .i64) (SArg.cons (LArg.int .i64) (SArg.cons (LArg.int .i64) (SArg.cons LArg.bool (SArg.one (LArg.row 102))))))))))) (Args.one (Arg.agg (SArg.cons (LArg.int .i64) (SArg.cons (LArg.int .i64) (SArg.cons (LArg.int .i64) (SArg.cons (LArg.int .i64) (SArg.cons (LArg.int .i64) (SArg.cons (LArg.int .i64) (SArg.cons (LArg.int .i64) (SArg.cons LArg.bool (SArg.one (LArg.row 102)))))))))))))
def n83:Bool->V cxT.ty:=λt=>(.inl (.inl (lv (.bool t))))
def aVo:Bool:=false
abbrev c83 (m:Y83):=eP (cx:=cxT) a83 n83 aVo m
theorem bAm:∀ t,bM (n83 t)=true\/bC (n83 t)=true:=λ_=>.inl rfl
abbrev Y84:=((Int×Int)×(Int×Int))->Option Bool
def a84:Args cxT.ty ((Int×Int)×(Int×Int)):=(Args.cons (Arg.agg (SArg.cons (LArg.int .i64) (SArg.one (LArg.int .i64)))) (Args.one (Arg.agg (SArg.cons (LArg.int .i64) (SArg.one (LArg.int .i64))))))
def n84:Bool->V cxT.ty:=λt=>(.inl (.inl (lv (.bool t))))
def aVn:Bool:=false
abbrev c84 (m:Y84):=eP (cx:=cxT) a84 n84 aVn m
theorem bAl:∀ t,bM (n84 t)=true\/bC (n84 t)=true:=λ_=>.inl rfl
abbrev Y85:=(S10×S10)->Option Bool
def a85:Args cxT.ty (S10×S10):=(Args.cons (Arg.agg (SArg.cons (LArg.int .i64) (SArg.cons (LArg.int .i64) (SArg.cons (LArg.int .i64) (SArg.cons (LArg.int .i64) (SArg.cons (LArg.int .i64) (SArg.cons (LArg.int .i64) (SArg.cons (LArg.int .i64) (SArg.cons (LArg.int .i64) (SArg.cons (LArg.int .i64) (SArg.one (LArg.int .i64)))))))))))) (Args.one (Arg.agg (SArg.cons (LArg.int .i64) (SArg.cons (LArg.int .i64) (SArg.cons (LArg.int .i64) (SArg.cons (LArg.int .i64) (SArg.cons (LArg.int .i64) (SArg.cons (LArg.int .i64) (SArg.cons (LArg.int .i64) (SArg.cons (LArg.int .i64) (SArg.cons (LArg.int .i64) (SArg.one (LArg.int .i64))))))))))))))
def n85:Bool->V cxT.ty:=λt=>(.inl (.inl (lv (.bool t))))
def aVm:Bool:=false
abbrev c85 (m:Y85):=eP (cx:=cxT) a85 n85 aVm m
theorem bAk:∀ t,bM (n85 t)=true\/bC (n85 t)=true:=λ_=>.inl rfl
abbrev Y86:=((List E9)×(List E9))->Option Bool
def a86:Args cxT.ty ((List E9)×(List E9)):=(Args.cons (Arg.leaf (LArg.row 102)) (Args.one (Arg.leaf (LArg.row 102))))
def n86:Bool->V cxT.ty:=λt=>(.inl (.inl (lv (.bool t))))
def aVl:Bool:=false
abbrev c86 (m:Y86):=eP (cx:=cxT) a86 n86 aVl m
theorem bAj:∀ t,bM (n86 t)=true\/bC (n86 t)=true:=λ_=>.inl rfl
abbrev Y87:=N10->Option Int
def a87:Args cxT.ty N10:=(Args.one (Arg.leaf (LArg.ptr 73)))
def n87:Int->V cxT.ty:=λt=>(.inl (.inl (lv (.int .i64 t))))
def aVk:Int:=(0:Int)
abbrev c87 (m:Y87):=eP (cx:=cxT) a87 n87 aVk m
theorem bAi:∀ t,bM (n87 t)=true\/bC (n87 t)=true:=λ_=>.inl rfl
abbrev Y88:=(E9×E9)->Option Bool
def a88:Args cxT.ty (E9×E9):=(Args.cons (Arg.agg (SArg.cons (LArg.int .i64) (SArg.cons (LArg.int .i64) (SArg.cons (LArg.int .i64) (SArg.cons (LArg.int .i64) (SArg.cons (LArg.int .i64) (SArg.cons (LArg.int .i64) (SArg.cons (LArg.int .i64) (SArg.cons (LArg.int .i64) (SArg.one (LArg.int .i64))))))))))) (Args.one (Arg.agg (SArg.cons (LArg.int .i64) (SArg.cons (LArg.int .i64) (SArg.cons (LArg.int .i64) (SArg.cons (LArg.int .i64) (SArg.cons (LArg.int .i64) (SArg.cons (LArg.int .i64) (SArg.cons (LArg.int .i64) (SArg.cons (LArg.int .i64) (SArg.one (LArg.int .i64)))))))))))))
def n88:Bool->V cxT.ty:=λt=>(.inl (.inl (lv (.bool t))))
def aVj:Bool:=false
abbrev c88 (m:Y88):=eP (cx:=cxT) a88 n88 aVj m
theorem bAh:∀ t,bM (n88 t)=true\/bC (n88 t)=true:=λ_=>.inl rfl
abbrev Y89:=((List E9)×(List E9)×Unit)->Option Int
def a89:Args cxT.ty ((List E9)×(List E9)×Unit):=(Args.cons (Arg.leaf (LArg.row 102)) (Args.cons (Arg.leaf (LArg.row 102)) (Args.one (Arg.leaf (LArg.fn 90)))))
def n89:Int->V cxT.ty:=λt=>(.inl (.inl (lv (.int .i64 t))))
def aVi:Int:=(0:Int)
abbrev c89 (m:Y89):=eP (cx:=cxT) a89 n89 aVi m
theorem bAg:∀ t,bM (n89 t)=true\/bC (n89 t)=true:=λ_=>.inl rfl
abbrev Y90:=(E9×E9)->Option Bool
def a90:Args cxT.ty (E9×E9):=(Args.cons (Arg.agg (SArg.cons (LArg.int .i64) (SArg.cons (LArg.int .i64) (SArg.cons (LArg.int .i64) (SArg.cons (LArg.int .i64) (SArg.cons (LArg.int .i64) (SArg.cons (LArg.int .i64) (SArg.cons (LArg.int .i64) (SArg.cons (LArg.int .i64) (SArg.one (LArg.int .i64))))))))))) (Args.one (Arg.agg (SArg.cons (LArg.int .i64) (SArg.cons (LArg.int .i64) (SArg.cons (LArg.int .i64) (SArg.cons (LArg.int .i64) (SArg.cons (LArg.int .i64) (SArg.cons (LArg.int .i64) (SArg.cons (LArg.int .i64) (SArg.cons (LArg.int .i64) (SArg.one (LArg.int .i64)))))))))))))
def n90:Bool->V cxT.ty:=λt=>(.inl (.inl (lv (.bool t))))
def aVh:Bool:=false
abbrev c90 (m:Y90):=eP (cx:=cxT) a90 n90 aVh m
theorem bAf:∀ t,bM (n90 t)=true\/bC (n90 t)=true:=λ_=>.inl rfl
abbrev Y91:=((List E9)×Int)->Option (Int×Int×Int×Int×Int×Int×Int×Int×Int×Bool)
def a91:Args cxT.ty ((List E9)×Int):=(Args.cons (Arg.leaf (LArg.row 102)) (Args.one (Arg.leaf (LArg.int .i64))))
def n91:(Int×Int×Int×Int×Int×Int×Int×Int×Int×Bool)->V cxT.ty:=λt=>(.inr (.inl [(.inr [(lv (.int .i64 t.1)),(lv (.int .i64 t.2.1)),(lv (.int .i64 t.2.2.1)),(lv (.int .i64 t.2.2.2.1)),(lv (.int .i64 t.2.2.2.2.1)),(lv (.int .i64 t.2.2.2.2.2.1)),(lv (.int .i64 t.2.2.2.2.2.2.1)),(lv (.int .i64 t.2.2.2.2.2.2.2.1)),(lv (.int .i64 t.2.2.2.2.2.2.2.2.1))]),(.inl (lv (.bool t.2.2.2.2.2.2.2.2.2)))]))
def aVg:(Int×Int×Int×Int×Int×Int×Int×Int×Int×Bool):=((0:Int),(0:Int),(0:Int),(0:Int),(0:Int),(0:Int),(0:Int),(0:Int),(0:Int),false)
abbrev c91 (m:Y91):=eP (cx:=cxT) a91 n91 aVg m
theorem bAe:∀ t,bM (n91 t)=true\/bC (n91 t)=true:=λ_=>.inl rfl
abbrev Y92:=(E9×E9)->Option Bool
def a92:Args cxT.ty (E9×E9):=(Args.cons (Arg.agg (SArg.cons (LArg.int .i64) (SArg.cons (LArg.int .i64) (SArg.cons (LArg.int .i64) (SArg.cons (LArg.int .i64) (SArg.cons (LArg.int .i64) (SArg.cons (LArg.int .i64) (SArg.cons (LArg.int .i64) (SArg.cons (LArg.int .i64) (SArg.one (LArg.int .i64))))))))))) (Args.one (Arg.agg (SArg.cons (LArg.int .i64) (SArg.cons (LArg.int .i64) (SArg.cons (LArg.int .i64) (SArg.cons (LArg.int .i64) (SArg.cons (LArg.int .i64) (SArg.cons (LArg.int .i64) (SArg.cons (LArg.int .i64) (SArg.cons (LArg.int .i64) (SArg.one (LArg.int .i64)))))))))))))
def n92:Bool->V cxT.ty:=λt=>(.inl (.inl (lv (.bool t))))
def aVf:Bool:=false
abbrev c92 (m:Y92):=eP (cx:=cxT) a92 n92 aVf m
theorem bAd:∀ t,bM (n92 t)=true\/bC (n92 t)=true:=λ_=>.inl rfl
abbrev Y94:=((List E9)×Int)->Option Int
def a94:Args cxT.ty ((List E9)×Int):=(Args.cons (Arg.leaf (LArg.row 113)) (Args.one (Arg.leaf (LArg.int .i64))))
def n94:Int->V cxT.ty:=λt=>(.inl (.inl (lv (.int .i64 t))))
def aVe:Int:=(0:Int)
abbrev c94 (m:Y94):=eP (cx:=cxT) a94 n94 aVe m
theorem bAc:∀ t,bM (n94 t)=true\/bC (n94 t)=true:=λ_=>.inl rfl
abbrev Y95:=((List Int)×Int)->Option Int
def a95:Args cxT.ty ((List Int)×Int):=(Args.cons (Arg.leaf (LArg.row 2)) (Args.one (Arg.leaf (LArg.int .i64))))
def n95:Int->V cxT.ty:=λt=>(.inl (.inl (lv (.int .i64 t))))
def aVd:Int:=(0:Int)
abbrev c95 (m:Y95):=eP (cx:=cxT) a95 n95 aVd m
theorem bAb:∀ t,bM (n95 t)=true\/bC (n95 t)=true:=λ_=>.inl rfl
abbrev Y96:=(N10×Int)->Option Bool
def a96:Args cxT.ty (N10×Int):=(Args.cons (Arg.leaf (LArg.ptr 73)) (Args.one (Arg.leaf (LArg.int .i64))))
def n96:Bool->V cxT.ty:=λt=>(.inl (.inl (lv (.bool t))))
def aVc:Bool:=false
abbrev c96 (m:Y96):=eP (cx:=cxT) a96 n96 aVc m
theorem bAa:∀ t,bM (n96 t)=true\/bC (n96 t)=true:=λ_=>.inl rfl
abbrev Y97:=(List E9)->Option Int
def a97:Args cxT.ty (List E9):=(Args.one (Arg.leaf (LArg.row 102)))
def n97:Int->V cxT.ty:=λt=>(.inl (.inl (lv (.int .i64 t))))
def aVb:Int:=(0:Int)
abbrev c97 (m:Y97):=eP (cx:=cxT) a97 n97 aVb m
theorem aZ9:∀ t,bM (n97 t)=true\/bC (n97 t)=true:=λ_=>.inl rfl
abbrev Y98:=(List E9)->Option E9
def a98:Args cxT.ty (List E9):=(Args.one (Arg.leaf (LArg.row 102)))
def n98:E9->V cxT.ty:=λt=>(.inl (.inr [(lv (.int .i64 t.1)),(lv (.int .i64 t.2.1)),(lv (.int .i64 t.2.2.1)),(lv (.int .i64 t.2.2.2.1)),(lv (.int .i64 t.2.2.2.2.1)),(lv (.int .i64 t.2.2.2.2.2.1)),(lv (.int .i64 t.2.2.2.2.2.2.1)),(lv (.int .i64 t.2.2.2.2.2.2.2.1)),(lv (.int .i64 t.2.2.2.2.2.2.2.2))]))
def aVa:E9:=((0:Int),(0:Int),(0:Int),(0:Int),(0:Int),(0:Int),(0:Int),(0:Int),(0:Int))
abbrev c98 (m:Y98):=eP (cx:=cxT) a98 n98 aVa m
theorem aZ8:∀ t,bM (n98 t)=true\/bC (n98 t)=true:=λ_=>.inl rfl
abbrev Y99:=N10->Option Bool
def a99:Args cxT.ty N10:=(Args.one (Arg.leaf (LArg.ptr 73)))
def n99:Bool->V cxT.ty:=λt=>(.inl (.inl (lv (.bool t))))
def aU9:Bool:=false
abbrev c99 (m:Y99):=eP (cx:=cxT) a99 n99 aU9 m
theorem aZ7:∀ t,bM (n99 t)=true\/bC (n99 t)=true:=λ_=>.inl rfl
abbrev Y100:=M9->Option Bool
def aXE:Args cxT.ty M9:=(Args.one (Arg.agg (SArg.cons (LArg.int .i64) (SArg.cons (LArg.int .i64) (SArg.cons (LArg.int .i64) (SArg.cons (LArg.int .i64) (SArg.cons (LArg.int .i64) (SArg.cons (LArg.int .i64) (SArg.cons (LArg.int .i64) (SArg.cons LArg.bool (SArg.one (LArg.row 102))))))))))))
def aHe:Bool->V cxT.ty:=λt=>(.inl (.inl (lv (.bool t))))
def aNJ:Bool:=false
abbrev aK1 (m:Y100):=eP (cx:=cxT) aXE aHe aNJ m
theorem aTo:∀ t,bM (aHe t)=true\/bC (aHe t)=true:=λ_=>.inl rfl
abbrev Y101:=(Int×Int×Int×Int×Int×Int)->Option Int
def bCR:Args cxT.ty (Int×Int×Int×Int×Int×Int):=(Args.one (Arg.agg (SArg.cons (LArg.int .i64) (SArg.cons (LArg.int .i64) (SArg.cons (LArg.int .i64) (SArg.cons (LArg.int .i64) (SArg.cons (LArg.int .i64) (SArg.one (LArg.int .i64)))))))))
def aZ0:Int->V cxT.ty:=λt=>(.inl (.inl (lv (.int .i64 t))))
def aWk:Int:=(0:Int)
abbrev aPZ (m:Y101):=eP (cx:=cxT) bCR aZ0 aWk m
abbrev Y102:=(List E9)->Option (List E9)
def aXD:Args cxT.ty (List E9):=(Args.one (Arg.leaf (LArg.row 113)))
def zZ:(List E9)->V cxT.ty:=λt=>(.inl (.inl (ls { own:=2,nm:=0,e:=102,o:=true,xs:=t })))
def aNI:(List E9):=[]
abbrev aHv (m:Y102):=eP (cx:=cxT) aXD zZ aNI m
theorem aTn:∀ t,bM (zZ t)=true\/bC (zZ t)=true:=λ_=>.inl rfl
abbrev Y103:=(List Int)->Option (List Int)
def aXC:Args cxT.ty (List Int):=(Args.one (Arg.leaf (LArg.row 2)))
def zY:(List Int)->V cxT.ty:=λt=>(.inl (.inl (ls { own:=2,nm:=0,e:=2,o:=true,xs:=t })))
def aNH:(List Int):=[]
abbrev aK0 (m:Y103):=eP (cx:=cxT) aXC zY aNH m
theorem aTm:∀ t,bM (zY t)=true\/bC (zY t)=true:=λ_=>.inl rfl
abbrev Y104:=E9->Option E9
def aXB:Args cxT.ty E9:=(Args.one (Arg.agg (SArg.cons (LArg.int .i64) (SArg.cons (LArg.int .i64) (SArg.cons (LArg.int .i64) (SArg.cons (LArg.int .i64) (SArg.cons (LArg.int .i64) (SArg.cons (LArg.int .i64) (SArg.cons (LArg.int .i64) (SArg.cons (LArg.int .i64) (SArg.one (LArg.int .i64))))))))))))
def aHd:E9->V cxT.ty:=λt=>(.inl (.inr [(lv (.int .i64 t.1)),(lv (.int .i64 t.2.1)),(lv (.int .i64 t.2.2.1)),(lv (.int .i64 t.2.2.2.1)),(lv (.int .i64 t.2.2.2.2.1)),(lv (.int .i64 t.2.2.2.2.2.1)),(lv (.int .i64 t.2.2.2.2.2.2.1)),(lv (.int .i64 t.2.2.2.2.2.2.2.1)),(lv (.int .i64 t.2.2.2.2.2.2.2.2))]))
def aNG:E9:=((0:Int),(0:Int),(0:Int),(0:Int),(0:Int),(0:Int),(0:Int),(0:Int),(0:Int))
abbrev aHu (m:Y104):=eP (cx:=cxT) aXB aHd aNG m
theorem aTl:∀ t,bM (aHd t)=true\/bC (aHd t)=true:=λ_=>.inl rfl
abbrev Y105:=(Int×Int×Int)->Option Bool
def aXA:Args cxT.ty (Int×Int×Int):=(Args.cons (Arg.leaf (LArg.int .i64)) (Args.cons (Arg.leaf (LArg.int .i64)) (Args.one (Arg.leaf (LArg.int .i64)))))
def aHc:Bool->V cxT.ty:=λt=>(.inl (.inl (lv (.bool t))))
def aNF:Bool:=false
abbrev vX (m:Y105):=eP (cx:=cxT) aXA aHc aNF m
theorem aTk:∀ t,bM (aHc t)=true\/bC (aHc t)=true:=λ_=>.inl rfl
abbrev Y106:=N10->Option Int
def aXz:Args cxT.ty N10:=(Args.one (Arg.agg (SArg.cons (LArg.int .i64) (SArg.cons (LArg.int .i64) (SArg.cons (LArg.int .i64) (SArg.cons (LArg.int .i64) (SArg.cons (LArg.row 102) (SArg.cons (LArg.int .i64) (SArg.cons (LArg.int .i64) (SArg.cons (LArg.row 2) (SArg.cons (LArg.row 2) (SArg.one (LArg.row 2)))))))))))))
def aHb:Int->V cxT.ty:=λt=>(.inl (.inl (lv (.int .i64 t))))
def aNE:Int:=(0:Int)
abbrev aHt (m:Y106):=eP (cx:=cxT) aXz aHb aNE m
theorem aTj:∀ t,bM (aHb t)=true\/bC (aHb t)=true:=λ_=>.inl rfl
abbrev Y107:=(N10×M9)->Option Int
def aXy:Args cxT.ty (N10×M9):=(Args.cons (Arg.agg (SArg.cons (LArg.int .i64) (SArg.cons (LArg.int .i64) (SArg.cons (LArg.int .i64) (SArg.cons (LArg.int .i64) (SArg.cons (LArg.row 102) (SArg.cons (LArg.int .i64) (SArg.cons (LArg.int .i64) (SArg.cons (LArg.row 2) (SArg.cons (LArg.row 2) (SArg.one (LArg.row 2)))))))))))) (Args.one (Arg.agg (SArg.cons (LArg.int .i64) (SArg.cons (LArg.int .i64) (SArg.cons (LArg.int .i64) (SArg.cons (LArg.int .i64) (SArg.cons (LArg.int .i64) (SArg.cons (LArg.int .i64) (SArg.cons (LArg.int .i64) (SArg.cons LArg.bool (SArg.one (LArg.row 102)))))))))))))
def aHa:Int->V cxT.ty:=λt=>(.inl (.inl (lv (.int .i64 t))))
def aND:Int:=(0:Int)
abbrev aKZ (m:Y107):=eP (cx:=cxT) aXy aHa aND m
theorem aTi:∀ t,bM (aHa t)=true\/bC (aHa t)=true:=λ_=>.inl rfl
abbrev Y108:=E9->Option Int
def aXx:Args cxT.ty E9:=(Args.one (Arg.agg (SArg.cons (LArg.int .i64) (SArg.cons (LArg.int .i64) (SArg.cons (LArg.int .i64) (SArg.cons (LArg.int .i64) (SArg.cons (LArg.int .i64) (SArg.cons (LArg.int .i64) (SArg.cons (LArg.int .i64) (SArg.cons (LArg.int .i64) (SArg.one (LArg.int .i64))))))))))))
def aG9:Int->V cxT.ty:=λt=>(.inl (.inl (lv (.int .i64 t))))
def aNC:Int:=(0:Int)
abbrev aHs (m:Y108):=eP (cx:=cxT) aXx aG9 aNC m
theorem aTh:∀ t,bM (aG9 t)=true\/bC (aG9 t)=true:=λ_=>.inl rfl
abbrev Y109:=((List Int)×(List Int))->Option Bool
def aXw:Args cxT.ty ((List Int)×(List Int)):=(Args.cons (Arg.leaf (LArg.row 2)) (Args.one (Arg.leaf (LArg.row 2))))
def zX:Bool->V cxT.ty:=λt=>(.inl (.inl (lv (.bool t))))
def aNB:Bool:=false
abbrev aKY (m:Y109):=eP (cx:=cxT) aXw zX aNB m
theorem aTg:∀ t,bM (zX t)=true\/bC (zX t)=true:=λ_=>.inl rfl
abbrev Y110:=((List E9)×(List E9))->Option Int
def aXv:Args cxT.ty ((List E9)×(List E9)):=(Args.cons (Arg.leaf (LArg.row 102)) (Args.one (Arg.leaf (LArg.row 102))))
def zW:Int->V cxT.ty:=λt=>(.inl (.inl (lv (.int .i64 t))))
def aNA:Int:=(0:Int)
abbrev aKX (m:Y110):=eP (cx:=cxT) aXv zW aNA m
theorem aTf:∀ t,bM (zW t)=true\/bC (zW t)=true:=λ_=>.inl rfl
abbrev Y111:=(Int×Int)->Option Int
def aXu:Args cxT.ty (Int×Int):=(Args.cons (Arg.leaf (LArg.int .i64)) (Args.one (Arg.leaf (LArg.int .i64))))
def aG8:Int->V cxT.ty:=λt=>(.inl (.inl (lv (.int .i64 t))))
def aNz:Int:=(0:Int)
abbrev aKW (m:Y111):=eP (cx:=cxT) aXu aG8 aNz m
theorem aTe:∀ t,bM (aG8 t)=true\/bC (aG8 t)=true:=λ_=>.inl rfl
abbrev Y112:=(List E9)->Option Int
def aXt:Args cxT.ty (List E9):=(Args.one (Arg.leaf (LArg.row 102)))
def aG7:Int->V cxT.ty:=λt=>(.inl (.inl (lv (.int .i64 t))))
def aNy:Int:=(0:Int)
abbrev aBN (m:Y112):=eP (cx:=cxT) aXt aG7 aNy m
theorem aTd:∀ t,bM (aG7 t)=true\/bC (aG7 t)=true:=λ_=>.inl rfl
abbrev Y113:=((Int×Int×Int×Int×Int×Int)×(Int×Int×Int×Int×Int×Int))->Option Bool
def aXs:Args cxT.ty ((Int×Int×Int×Int×Int×Int)×(Int×Int×Int×Int×Int×Int)):=(Args.cons (Arg.agg (SArg.cons (LArg.int .i64) (SArg.cons (LArg.int .i64) (SArg.cons (LArg.int .i64) (SArg.cons (LArg.int .i64) (SArg.cons (LArg.int .i64) (SArg.one (LArg.int .i64)))))))) (Args.one (Arg.agg (SArg.cons (LArg.int .i64) (SArg.cons (LArg.int .i64) (SArg.cons (LArg.int .i64) (SArg.cons (LArg.int .i64) (SArg.cons (LArg.int .i64) (SArg.one (LArg.int .i64))))))))))
def aG6:Bool->V cxT.ty:=λt=>(.inl (.inl (lv (.bool t))))
def aNx:Bool:=false
abbrev aKV (m:Y113):=eP (cx:=cxT) aXs aG6 aNx m
theorem aTc:∀ t,bM (aG6 t)=true\/bC (aG6 t)=true:=λ_=>.inl rfl
abbrev Y114:=(List Int)->Option Bool
def aXr:Args cxT.ty (List Int):=(Args.one (Arg.leaf (LArg.row 2)))
def zV:Bool->V cxT.ty:=λt=>(.inl (.inl (lv (.bool t))))
def aNw:Bool:=false
abbrev aKU (m:Y114):=eP (cx:=cxT) aXr zV aNw m
theorem aTb:∀ t,bM (zV t)=true\/bC (zV t)=true:=λ_=>.inl rfl
abbrev Y115:=Int->Option (Bool×Bool×Bool×Bool)
def aXq:Args cxT.ty Int:=(Args.one (Arg.leaf (LArg.int .i64)))
def aG5:(Bool×Bool×Bool×Bool)->V cxT.ty:=λt=>(.inr (.inl [(.inl (lv (.bool t.1))),(.inl (lv (.bool t.2.1))),(.inl (lv (.bool t.2.2.1))),(.inl (lv (.bool t.2.2.2)))]))
def aNv:(Bool×Bool×Bool×Bool):=(false,false,false,false)
abbrev aWQ (m:Y115):=eP (cx:=cxT) aXq aG5 aNv m
theorem aTa:∀ t,bM (aG5 t)=true\/bC (aG5 t)=true:=λ_=>.inl rfl
abbrev Y116:=Int->Option Bool
def aXp:Args cxT.ty Int:=(Args.one (Arg.leaf (LArg.int .i64)))
def aG4:Bool->V cxT.ty:=λt=>(.inl (.inl (lv (.bool t))))
def aNu:Bool:=false
abbrev aWP (m:Y116):=eP (cx:=cxT) aXp aG4 aNu m
theorem aS9:∀ t,bM (aG4 t)=true\/bC (aG4 t)=true:=λ_=>.inl rfl
abbrev Y117:=Int->Option Bool
def aXo:Args cxT.ty Int:=(Args.one (Arg.leaf (LArg.int .i64)))
def aG3:Bool->V cxT.ty:=λt=>(.inl (.inl (lv (.bool t))))
def aNt:Bool:=false
abbrev aWO (m:Y117):=eP (cx:=cxT) aXo aG3 aNt m
theorem aS8:∀ t,bM (aG3 t)=true\/bC (aG3 t)=true:=λ_=>.inl rfl
abbrev Y118:=Int->Option Bool
def aXn:Args cxT.ty Int:=(Args.one (Arg.leaf (LArg.int .i64)))
def aG2:Bool->V cxT.ty:=λt=>(.inl (.inl (lv (.bool t))))
def aNs:Bool:=false
abbrev aWN (m:Y118):=eP (cx:=cxT) aXn aG2 aNs m
theorem aS7:∀ t,bM (aG2 t)=true\/bC (aG2 t)=true:=λ_=>.inl rfl
abbrev Y119:=(Int×Int×Int×Int×Int×Int)->Option Bool
def aXm:Args cxT.ty (Int×Int×Int×Int×Int×Int):=(Args.one (Arg.agg (SArg.cons (LArg.int .i64) (SArg.cons (LArg.int .i64) (SArg.cons (LArg.int .i64) (SArg.cons (LArg.int .i64) (SArg.cons (LArg.int .i64) (SArg.one (LArg.int .i64)))))))))
def aG1:Bool->V cxT.ty:=λt=>(.inl (.inl (lv (.bool t))))
def aNr:Bool:=false
abbrev aWM (m:Y119):=eP (cx:=cxT) aXm aG1 aNr m
theorem aS6:∀ t,bM (aG1 t)=true\/bC (aG1 t)=true:=λ_=>.inl rfl
abbrev Y120:=Int->Option Bool
def aXl:Args cxT.ty Int:=(Args.one (Arg.leaf (LArg.int .i64)))
def aG0:Bool->V cxT.ty:=λt=>(.inl (.inl (lv (.bool t))))
def aNq:Bool:=false
abbrev aWL (m:Y120):=eP (cx:=cxT) aXl aG0 aNq m
theorem aS5:∀ t,bM (aG0 t)=true\/bC (aG0 t)=true:=λ_=>.inl rfl
abbrev Y121:=(Int×Int×Int×Int×Int×Int)->Option (Int×Int×Int×Int×Int×Int)
def aXk:Args cxT.ty (Int×Int×Int×Int×Int×Int):=(Args.one (Arg.agg (SArg.cons (LArg.int .i64) (SArg.cons (LArg.int .i64) (SArg.cons (LArg.int .i64) (SArg.cons (LArg.int .i64) (SArg.cons (LArg.int .i64) (SArg.one (LArg.int .i64)))))))))
def aGZ:(Int×Int×Int×Int×Int×Int)->V cxT.ty:=λt=>(.inl (.inr [(lv (.int .i64 t.1)),(lv (.int .i64 t.2.1)),(lv (.int .i64 t.2.2.1)),(lv (.int .i64 t.2.2.2.1)),(lv (.int .i64 t.2.2.2.2.1)),(lv (.int .i64 t.2.2.2.2.2))]))
def aNp:(Int×Int×Int×Int×Int×Int):=((0:Int),(0:Int),(0:Int),(0:Int),(0:Int),(0:Int))
abbrev aKT (m:Y121):=eP (cx:=cxT) aXk aGZ aNp m
theorem aS4:∀ t,bM (aGZ t)=true\/bC (aGZ t)=true:=λ_=>.inl rfl
abbrev Y122:=(Int×Int)->Option Bool
def aXj:Args cxT.ty (Int×Int):=(Args.cons (Arg.leaf (LArg.int .i64)) (Args.one (Arg.leaf (LArg.int .i64))))
def aGY:Bool->V cxT.ty:=λt=>(.inl (.inl (lv (.bool t))))
def aNo:Bool:=false
abbrev aBM (m:Y122):=eP (cx:=cxT) aXj aGY aNo m
theorem aS3:∀ t,bM (aGY t)=true\/bC (aGY t)=true:=λ_=>.inl rfl
abbrev Y123:=Int->Option Bool
def aXi:Args cxT.ty Int:=(Args.one (Arg.leaf (LArg.int .i64)))
def aGX:Bool->V cxT.ty:=λt=>(.inl (.inl (lv (.bool t))))
def aNn:Bool:=false
abbrev aKS (m:Y123):=eP (cx:=cxT) aXi aGX aNn m
theorem aS2:∀ t,bM (aGX t)=true\/bC (aGX t)=true:=λ_=>.inl rfl
abbrev Y124:=(Int×Int)->Option Bool
def aXh:Args cxT.ty (Int×Int):=(Args.cons (Arg.leaf (LArg.int .i64)) (Args.one (Arg.leaf (LArg.int .i64))))
def aGW:Bool->V cxT.ty:=λt=>(.inl (.inl (lv (.bool t))))
def aNm:Bool:=false
abbrev aKR (m:Y124):=eP (cx:=cxT) aXh aGW aNm m
theorem aS1:∀ t,bM (aGW t)=true\/bC (aGW t)=true:=λ_=>.inl rfl
abbrev Y125:=Int->Option Bool
def aXg:Args cxT.ty Int:=(Args.one (Arg.leaf (LArg.int .i64)))
def aGV:Bool->V cxT.ty:=λt=>(.inl (.inl (lv (.bool t))))
def aNl:Bool:=false
abbrev aKQ (m:Y125):=eP (cx:=cxT) aXg aGV aNl m
theorem aS0:∀ t,bM (aGV t)=true\/bC (aGV t)=true:=λ_=>.inl rfl
abbrev Y126:=(List E9)->Option Int
def aXf:Args cxT.ty (List E9):=(Args.one (Arg.leaf (LArg.row 102)))
def zU:Int->V cxT.ty:=λt=>(.inl (.inl (lv (.int .i64 t))))
def aNk:Int:=(0:Int)
abbrev aHr (m:Y126):=eP (cx:=cxT) aXf zU aNk m
theorem aSZ:∀ t,bM (zU t)=true\/bC (zU t)=true:=λ_=>.inl rfl
abbrev Y127:=(List E9)->Option E9
def aXe:Args cxT.ty (List E9):=(Args.one (Arg.leaf (LArg.row 102)))
def aGU:E9->V cxT.ty:=λt=>(.inl (.inr [(lv (.int .i64 t.1)),(lv (.int .i64 t.2.1)),(lv (.int .i64 t.2.2.1)),(lv (.int .i64 t.2.2.2.1)),(lv (.int .i64 t.2.2.2.2.1)),(lv (.int .i64 t.2.2.2.2.2.1)),(lv (.int .i64 t.2.2.2.2.2.2.1)),(lv (.int .i64 t.2.2.2.2.2.2.2.1)),(lv (.int .i64 t.2.2.2.2.2.2.2.2))]))
def aNj:E9:=((0:Int),(0:Int),(0:Int),(0:Int),(0:Int),(0:Int),(0:Int),(0:Int),(0:Int))
abbrev aHq (m:Y127):=eP (cx:=cxT) aXe aGU aNj m
theorem aSY:∀ t,bM (aGU t)=true\/bC (aGU t)=true:=λ_=>.inl rfl
abbrev Y128:=N10->Option Bool
def aXd:Args cxT.ty N10:=(Args.one (Arg.leaf (LArg.ptr 73)))
def zT:Bool->V cxT.ty:=λt=>(.inl (.inl (lv (.bool t))))
def aNi:Bool:=false
abbrev aKP (m:Y128):=eP (cx:=cxT) aXd zT aNi m
theorem aSX:∀ t,bM (zT t)=true\/bC (zT t)=true:=λ_=>.inl rfl
abbrev Y129:=N10->Option Bool
def aXc:Args cxT.ty N10:=(Args.one (Arg.leaf (LArg.ptr 73)))
def aGT:Bool->V cxT.ty:=λt=>(.inl (.inl (lv (.bool t))))
def aNh:Bool:=false
abbrev aKO (m:Y129):=eP (cx:=cxT) aXc aGT aNh m
theorem aSW:∀ t,bM (aGT t)=true\/bC (aGT t)=true:=λ_=>.inl rfl
abbrev Y130:=((List Int)×Int×Int)->Option Bool
def aXb:Args cxT.ty ((List Int)×Int×Int):=(Args.cons (Arg.leaf (LArg.row 2)) (Args.cons (Arg.leaf (LArg.int .i64)) (Args.one (Arg.leaf (LArg.int .i64)))))
def zS:Bool->V cxT.ty:=λt=>(.inl (.inl (lv (.bool t))))
def aNg:Bool:=false
abbrev aKN (m:Y130):=eP (cx:=cxT) aXb zS aNg m
theorem aSV:∀ t,bM (zS t)=true\/bC (zS t)=true:=λ_=>.inl rfl
abbrev Y131:=M9->Option Bool
def aXa:Args cxT.ty M9:=(Args.one (Arg.agg (SArg.cons (LArg.int .i64) (SArg.cons (LArg.int .i64) (SArg.cons (LArg.int .i64) (SArg.cons (LArg.int .i64) (SArg.cons (LArg.int .i64) (SArg.cons (LArg.int .i64) (SArg.cons (LArg.int .i64) (SArg.cons LArg.bool (SArg.one (LArg.row 102))))))))))))
def aGS:Bool->V cxT.ty:=λt=>(.inl (.inl (lv (.bool t))))
def aNf:Bool:=false
abbrev aKM (m:Y131):=eP (cx:=cxT) aXa aGS aNf m
theorem aSU:∀ t,bM (aGS t)=true\/bC (aGS t)=true:=λ_=>.inl rfl
abbrev Y132:=M9->Option Bool
def aW9:Args cxT.ty M9:=(Args.one (Arg.agg (SArg.cons (LArg.int .i64) (SArg.cons (LArg.int .i64) (SArg.cons (LArg.int .i64) (SArg.cons (LArg.int .i64) (SArg.cons (LArg.int .i64) (SArg.cons (LArg.int .i64) (SArg.cons (LArg.int .i64) (SArg.cons LArg.bool (SArg.one (LArg.row 102))))))))))))
def aGR:Bool->V cxT.ty:=λt=>(.inl (.inl (lv (.bool t))))
def aNe:Bool:=false
abbrev aKL (m:Y132):=eP (cx:=cxT) aW9 aGR aNe m
theorem aST:∀ t,bM (aGR t)=true\/bC (aGR t)=true:=λ_=>.inl rfl
abbrev Y133:=M9->Option Bool
def aW8:Args cxT.ty M9:=(Args.one (Arg.agg (SArg.cons (LArg.int .i64) (SArg.cons (LArg.int .i64) (SArg.cons (LArg.int .i64) (SArg.cons (LArg.int .i64) (SArg.cons (LArg.int .i64) (SArg.cons (LArg.int .i64) (SArg.cons (LArg.int .i64) (SArg.cons LArg.bool (SArg.one (LArg.row 102))))))))))))
def aGQ:Bool->V cxT.ty:=λt=>(.inl (.inl (lv (.bool t))))
def aNd:Bool:=false
abbrev aKK (m:Y133):=eP (cx:=cxT) aW8 aGQ aNd m
theorem aSS:∀ t,bM (aGQ t)=true\/bC (aGQ t)=true:=λ_=>.inl rfl
abbrev Y134:=Int->Option Bool
def aW7:Args cxT.ty Int:=(Args.one (Arg.leaf (LArg.int .i64)))
def aGP:Bool->V cxT.ty:=λt=>(.inl (.inl (lv (.bool t))))
def aNc:Bool:=false
abbrev aKJ (m:Y134):=eP (cx:=cxT) aW7 aGP aNc m
theorem aSR:∀ t,bM (aGP t)=true\/bC (aGP t)=true:=λ_=>.inl rfl
abbrev Y135:=Int->Option Bool
def aW6:Args cxT.ty Int:=(Args.one (Arg.leaf (LArg.int .i64)))
def aGO:Bool->V cxT.ty:=λt=>(.inl (.inl (lv (.bool t))))
def aNb:Bool:=false
abbrev aKI (m:Y135):=eP (cx:=cxT) aW6 aGO aNb m
theorem aSQ:∀ t,bM (aGO t)=true\/bC (aGO t)=true:=λ_=>.inl rfl
abbrev Y136:=(Int×Int×Int×Int×Int×Int)->Option Int
def bCQ:Args cxT.ty (Int×Int×Int×Int×Int×Int):=(Args.one (Arg.agg (SArg.cons (LArg.int .i64) (SArg.cons (LArg.int .i64) (SArg.cons (LArg.int .i64) (SArg.cons (LArg.int .i64) (SArg.cons (LArg.int .i64) (SArg.one (LArg.int .i64)))))))))
def aZZ:Int->V cxT.ty:=λt=>(.inl (.inl (lv (.int .i64 t))))
def aWg:Int:=(0:Int)
abbrev aPY (m:Y136):=eP (cx:=cxT) bCQ aZZ aWg m
abbrev Y137:=Int->Option Bool
def aW5:Args cxT.ty Int:=(Args.one (Arg.leaf (LArg.int .i64)))
def aGN:Bool->V cxT.ty:=λt=>(.inl (.inl (lv (.bool t))))
def aNa:Bool:=false
abbrev aKH (m:Y137):=eP (cx:=cxT) aW5 aGN aNa m
theorem aSP:∀ t,bM (aGN t)=true\/bC (aGN t)=true:=λ_=>.inl rfl
abbrev Y138:=Int->Option Bool
def aW4:Args cxT.ty Int:=(Args.one (Arg.leaf (LArg.int .i64)))
def aGM:Bool->V cxT.ty:=λt=>(.inl (.inl (lv (.bool t))))
def aM9:Bool:=false
abbrev aWK (m:Y138):=eP (cx:=cxT) aW4 aGM aM9 m
theorem aSO:∀ t,bM (aGM t)=true\/bC (aGM t)=true:=λ_=>.inl rfl
abbrev Y140:=Int->Option Bool
def aW3:Args cxT.ty Int:=(Args.one (Arg.leaf (LArg.int .i64)))
def aGL:Bool->V cxT.ty:=λt=>(.inl (.inl (lv (.bool t))))
def aM8:Bool:=false
abbrev aWJ (m:Y140):=eP (cx:=cxT) aW3 aGL aM8 m
theorem aSN:∀ t,bM (aGL t)=true\/bC (aGL t)=true:=λ_=>.inl rfl
abbrev Y141:=Int->Option Bool
def aW2:Args cxT.ty Int:=(Args.one (Arg.leaf (LArg.int .i64)))
def aGK:Bool->V cxT.ty:=λt=>(.inl (.inl (lv (.bool t))))
def aM7:Bool:=false
abbrev aWI (m:Y141):=eP (cx:=cxT) aW2 aGK aM7 m
theorem aSM:∀ t,bM (aGK t)=true\/bC (aGK t)=true:=λ_=>.inl rfl
abbrev Y142:=Int->Option Bool
def aW1:Args cxT.ty Int:=(Args.one (Arg.leaf (LArg.int .i64)))
def aGJ:Bool->V cxT.ty:=λt=>(.inl (.inl (lv (.bool t))))
def aM6:Bool:=false
abbrev aWH (m:Y142):=eP (cx:=cxT) aW1 aGJ aM6 m
theorem aSL:∀ t,bM (aGJ t)=true\/bC (aGJ t)=true:=λ_=>.inl rfl
abbrev Y145:=Int->Option Bool
def aW0:Args cxT.ty Int:=(Args.one (Arg.leaf (LArg.int .i64)))
def aGI:Bool->V cxT.ty:=λt=>(.inl (.inl (lv (.bool t))))
def aM5:Bool:=false
abbrev aWG (m:Y145):=eP (cx:=cxT) aW0 aGI aM5 m
theorem aSK:∀ t,bM (aGI t)=true\/bC (aGI t)=true:=λ_=>.inl rfl
abbrev Y148:=Int->Option Bool
def aWZ:Args cxT.ty Int:=(Args.one (Arg.leaf (LArg.int .i64)))
def aGH:Bool->V cxT.ty:=λt=>(.inl (.inl (lv (.bool t))))
def aM4:Bool:=false
abbrev aWF (m:Y148):=eP (cx:=cxT) aWZ aGH aM4 m
theorem aSJ:∀ t,bM (aGH t)=true\/bC (aGH t)=true:=λ_=>.inl rfl
abbrev Y149:=Int->Option Bool
def aWY:Args cxT.ty Int:=(Args.one (Arg.leaf (LArg.int .i64)))
def aGG:Bool->V cxT.ty:=λt=>(.inl (.inl (lv (.bool t))))
def aM3:Bool:=false
abbrev aWE (m:Y149):=eP (cx:=cxT) aWY aGG aM3 m
theorem aSI:∀ t,bM (aGG t)=true\/bC (aGG t)=true:=λ_=>.inl rfl
abbrev Y154:=Int->Option Bool
def aWX:Args cxT.ty Int:=(Args.one (Arg.leaf (LArg.int .i64)))
def aGF:Bool->V cxT.ty:=λt=>(.inl (.inl (lv (.bool t))))
def aM2:Bool:=false
abbrev aWD (m:Y154):=eP (cx:=cxT) aWX aGF aM2 m
theorem aSH:∀ t,bM (aGF t)=true\/bC (aGF t)=true:=λ_=>.inl rfl
end Go.Proofs.Tryz
