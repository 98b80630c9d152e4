/- A part of the proof of FnExactLeaderOf: LmBase, LmCon. -/
import Derived.Test.YtnmbggfkmkcmkaaGreatVmJ
import Derived.Test.YtnmbggfkmkcmkaaGreatProg
set_option linter.unusedSimpArgs false
set_option linter.unusedVariables false
namespace Go.Proofs.Tryz
open Go Go.VM Go.RowKit
abbrev E9:Type:=Int×Int×Int×Int×Int×Int×Int×Int×Int
abbrev N10:Type:=Int×Int×Int×Int×(List E9)×Int×Int×(List Int)×(List Int)×(List Int)
abbrev M9:Type:=Int×Int×Int×Int×Int×Int×Int×Bool×(List E9)
abbrev S10:Type:=Int×E9
abbrev W2:Type:=Int×Int
abbrev C4:Type:=(List N10)×(List M9)×(List W2)×(List S10)
abbrev R5:Type:=Int×C4
def lS (e:Nat):Type:=if e=2 then Int else if e=3 then Int else if e=5 then Int else if e=113 then E9 else if e=102 then E9 else if e=91 then M9 else if e=96 then M9 else if e=88 then N10 else if e=73 then N10 else if e=109 then Int×Int else if e=64 then Int×Int else if e=115 then S10 else if e=104 then S10 else if e=27 then C4 else if e=35 then C4 else Unit
def aY1 (e:Nat):lS e:=
 if h2:e=2 then h2.symm▸(((0:Int):Int):lS 2)else if h3:e=3 then h3.symm▸(((0:Int):Int):lS 3)else if h5:e=5 then h5.symm▸(((0:Int):Int):lS 5)else if h113:e=113 then h113.symm▸(((0,0,0,0,0,0,0,0,0):E9):lS 113)else if h102:e=102 then h102.symm▸(((0,0,0,0,0,0,0,0,0):E9):lS 102)else if h91:e=91 then h91.symm▸(((0,0,0,0,0,0,0,false,[]):M9):lS 91)else if h96:e=96 then h96.symm▸(((0,0,0,0,0,0,0,false,[]):M9):lS 96)else if h88:e=88 then h88.symm▸(((0,0,0,0,[],0,0,[],[],[]):N10):lS 88)else if h73:e=73 then h73.symm▸(((0,0,0,0,[],0,0,[],[],[]):N10):lS 73)else if h109:e=109 then h109.symm▸(((0,0):Int×Int):lS 109)else if h64:e=64 then h64.symm▸(((0,0):Int×Int):lS 64)else if h115:e=115 then h115.symm▸(((0,0,0,0,0,0,0,0,0,0):S10):lS 115)else if h104:e=104 then h104.symm▸(((0,0,0,0,0,0,0,0,0,0):S10):lS 104)else if h27:e=27 then h27.symm▸((([],[],[],[]):C4):lS 27)else if h35:e=35 then h35.symm▸((([],[],[],[]):C4):lS 35)else(by unfold lS;simp only[*,if_false];exact())
def cd2:Cd lS (lS 2):=dG .i64
def cd3:Cd lS (lS 3):=dG .i64
def cd5:Cd lS (lS 5):=dG .u8
def aVi:Cd lS (lS 113):=cD (dG .i64) (cD (dG .i64) (cD (dG .i64) (cD (dG .i64) (cD (dG .i64) (cD (dG .i64) (cD (dG .i64) (cD (dG .i64) (dG .i64))))))))
def aVl:Cd lS (lS 102):=cD (dG .i64) (cD (dG .i64) (cD (dG .i64) (cD (dG .i64) (cD (dG .i64) (cD (dG .i64) (cD (dG .i64) (cD (dG .i64) (dG .i64))))))))
def bBB:Cd lS (lS 91):=cD (dG .i64) (cD (dG .i64) (cD (dG .i64) (cD (dG .i64) (cD (dG .i64) (cD (dG .i64) (cD (dG .i64) (cD aJg (kJ 113))))))))
def bBA:Cd lS (lS 96):=cD (dG .i64) (cD (dG .i64) (cD (dG .i64) (cD (dG .i64) (cD (dG .i64) (cD (dG .i64) (cD (dG .i64) (cD aJg (kJ 102))))))))
def bBC:Cd lS (lS 88):=cD (dG .i64) (cD (dG .i64) (cD (dG .i64) (cD (dG .i64) (cD (kJ 113) (cD (dG .i64) (cD (dG .i64) (cD (kJ 2) (cD (kJ 2) (kJ 2)))))))))
def bBD:Cd lS (lS 73):=cD (dG .i64) (cD (dG .i64) (cD (dG .i64) (cD (dG .i64) (cD (kJ 102) (cD (dG .i64) (cD (dG .i64) (cD (kJ 2) (cD (kJ 2) (kJ 2)))))))))
def aVj:Cd lS (lS 109):=cD (dG .i64) (dG .i64)
def bBE:Cd lS (lS 64):=cD (dG .i64) (dG .i64)
def aVh:Cd lS (lS 115):=cD (dG .i64) (cD (dG .i64) (cD (dG .i64) (cD (dG .i64) (cD (dG .i64) (cD (dG .i64) (cD (dG .i64) (cD (dG .i64) (cD (dG .i64) (dG .i64)))))))))
def aVk:Cd lS (lS 104):=cD (dG .i64) (cD (dG .i64) (cD (dG .i64) (cD (dG .i64) (cD (dG .i64) (cD (dG .i64) (cD (dG .i64) (cD (dG .i64) (cD (dG .i64) (dG .i64)))))))))
def bBG:Cd lS (lS 27):=cD (kJ 88) (cD (kJ 91) (cD (kJ 109) (kJ 115)))
def bBF:Cd lS (lS 35):=cD (kJ 73) (cD (kJ 96) (cD (kJ 64) (kJ 104)))
def cdT (e:Nat):Cd lS (lS e):=
 if h:e=2 then h.symm▸cd2 else if h:e=3 then h.symm▸cd3 else if h:e=5 then h.symm▸cd5 else if h:e=113 then h.symm▸aVi else if h:e=102 then h.symm▸aVl else if h:e=91 then h.symm▸bBB else if h:e=96 then h.symm▸bBA else if h:e=88 then h.symm▸bBC else if h:e=73 then h.symm▸bBD else if h:e=109 then h.symm▸aVj else if h:e=64 then h.symm▸bBE else if h:e=115 then h.symm▸aVh else if h:e=104 then h.symm▸aVk else if h:e=27 then h.symm▸bBG else if h:e=35 then h.symm▸bBF else aPp (aY1 e)
def cxT:Cx:=Cx.of cdT
theorem bC:cxT.Ok:=Cx.of_ok cdT
set_option maxRecDepth 100000 in
theorem aCk {e:Nat}(h:(cdT e).dom=true):e=2\/e=3\/e=5\/e=113\/e=102\/e=109\/e=64\/e=115\/e=104:=by
 by_cases h0:e=2
 ·exact .inl h0
 by_cases h1:e=3
 ·exact .inr (.inl h1)
 by_cases h2:e=5
 ·exact .inr (.inr (.inl h2))
 by_cases h3:e=113
 ·exact .inr (.inr (.inr (.inl h3)))
 by_cases h4:e=102
 ·exact .inr (.inr (.inr (.inr (.inl h4))))
 by_cases h5:e=91
 ·subst h5;exact absurd h (by intro hh;cases (show false=true from hh))
 by_cases h6:e=96
 ·subst h6;exact absurd h (by intro hh;cases (show false=true from hh))
 by_cases h7:e=88
 ·subst h7;exact absurd h (by intro hh;cases (show false=true from hh))
 by_cases h8:e=73
 ·subst h8;exact absurd h (by intro hh;cases (show false=true from hh))
 by_cases h9:e=109
 ·exact .inr (.inr (.inr (.inr (.inr (.inl h9)))))
 by_cases h10:e=64
 ·exact .inr (.inr (.inr (.inr (.inr (.inr (.inl h10))))))
 by_cases h11:e=115
 ·exact .inr (.inr (.inr (.inr (.inr (.inr (.inr (.inl h11)))))))
 by_cases h12:e=104
 ·exact .inr (.inr (.inr (.inr (.inr (.inr (.inr (.inr (h12))))))))
 by_cases h13:e=27
 ·subst h13;exact absurd h (by intro hh;cases (show false=true from hh))
 by_cases h14:e=35
 ·subst h14;exact absurd h (by intro hh;cases (show false=true from hh))
 ·unfold cdT at h;rw[dif_neg h0,dif_neg h1,dif_neg h2,dif_neg h3,dif_neg h4,dif_neg h5,dif_neg h6,dif_neg h7,dif_neg h8,dif_neg h9,dif_neg h10,dif_neg h11,dif_neg h12,dif_neg h13,dif_neg h14]at h;exact Bool.noConfusion h
set_option maxRecDepth 100000 in
theorem aX:cxT.POk prog:=by
  refine⟨λe he=>?_,λe he hu o x=>?_⟩
  · rcases aCk he with rfl | rfl | rfl | rfl | rfl | rfl | rfl | rfl | rfl <;>
    exact⟨_,_,rfl,rfl,rfl,by decide,rfl,by decide,rfl⟩
  · rcases aCk he with rfl | rfl | rfl | rfl | rfl | rfl | rfl | rfl | rfl
    · rw[show prog.underlying 2=_ from rfl]at hu;cases hu
    · rw[show prog.underlying 3=_ from rfl]at hu;cases hu
    · exact⟨x,rfl⟩
    · rw[show prog.underlying 113=_ from rfl]at hu;cases hu
    · rw[show prog.underlying 102=_ from rfl]at hu;cases hu
    · rw[show prog.underlying 109=_ from rfl]at hu;cases hu
    · rw[show prog.underlying 64=_ from rfl]at hu;cases hu
    · rw[show prog.underlying 115=_ from rfl]at hu;cases hu
    · rw[show prog.underlying 104=_ from rfl]at hu;cases hu
end Go.Proofs.Tryz
namespace Go.Proofs.Tryz
open Go Go.VM Go.RowKit
abbrev Y3:=C4->Option Bool
def a3:Args cxT.ty C4:=(Args.one (Arg.agg (SArg.cons (LArg.row 88) (SArg.cons (LArg.row 91) (SArg.cons (LArg.row 109) (SArg.one (LArg.row 115)))))))
def n3:Bool->V cxT.ty:=λt=>(.inl (.inl (lv (.bool t))))
def dd3:Bool:=false
abbrev c3 (m:Y3):=eY (cx:=cxT) a3 n3 dd3 m
theorem hs3:∀ t,bP (n3 t)=true\/bG (n3 t)=true:=λ_=>.inl rfl
abbrev Y4:=C4->Option Bool
def a4:Args cxT.ty C4:=(Args.one (Arg.agg (SArg.cons (LArg.row 88) (SArg.cons (LArg.row 91) (SArg.cons (LArg.row 109) (SArg.one (LArg.row 115)))))))
def n4:Bool->V cxT.ty:=λt=>(.inl (.inl (lv (.bool t))))
def dd4:Bool:=false
abbrev c4 (m:Y4):=eY (cx:=cxT) a4 n4 dd4 m
abbrev Y5:=C4->Option Bool
def a5:Args cxT.ty C4:=(Args.one (Arg.agg (SArg.cons (LArg.row 88) (SArg.cons (LArg.row 91) (SArg.cons (LArg.row 109) (SArg.one (LArg.row 115)))))))
def n5:Bool->V cxT.ty:=λt=>(.inl (.inl (lv (.bool t))))
def dd5:Bool:=false
abbrev c5 (m:Y5):=eY (cx:=cxT) a5 n5 dd5 m
def a6:Args cxT.ty C4:=(Args.one (Arg.agg (SArg.cons (LArg.row 88) (SArg.cons (LArg.row 91) (SArg.cons (LArg.row 109) (SArg.one (LArg.row 115)))))))
def n6:Bool->V cxT.ty:=λt=>(.inl (.inl (lv (.bool t))))
def a7:Args cxT.ty C4:=(Args.one (Arg.agg (SArg.cons (LArg.row 88) (SArg.cons (LArg.row 91) (SArg.cons (LArg.row 109) (SArg.one (LArg.row 115)))))))
def n7:Bool->V cxT.ty:=λt=>(.inl (.inl (lv (.bool t))))
abbrev Y8:=C4->Option Bool
def a8:Args cxT.ty C4:=(Args.one (Arg.agg (SArg.cons (LArg.row 88) (SArg.cons (LArg.row 91) (SArg.cons (LArg.row 109) (SArg.one (LArg.row 115)))))))
def n8:Bool->V cxT.ty:=λt=>(.inl (.inl (lv (.bool t))))
def dd8:Bool:=false
abbrev c8 (m:Y8):=eY (cx:=cxT) a8 n8 dd8 m
theorem hs8:∀ t,bP (n8 t)=true\/bG (n8 t)=true:=λ_=>.inl rfl
abbrev Y9:=C4->Option Bool
def a9:Args cxT.ty C4:=(Args.one (Arg.agg (SArg.cons (LArg.row 88) (SArg.cons (LArg.row 91) (SArg.cons (LArg.row 109) (SArg.one (LArg.row 115)))))))
def n9:Bool->V cxT.ty:=λt=>(.inl (.inl (lv (.bool t))))
def dd9:Bool:=false
abbrev c9 (m:Y9):=eY (cx:=cxT) a9 n9 dd9 m
theorem hs9:∀ t,bP (n9 t)=true\/bG (n9 t)=true:=λ_=>.inl rfl
abbrev Y10:=(C4×Int)->Option Int
def a10:Args cxT.ty (C4×Int):=(Args.cons (Arg.agg (SArg.cons (LArg.row 88) (SArg.cons (LArg.row 91) (SArg.cons (LArg.row 109) (SArg.one (LArg.row 115)))))) (Args.one (Arg.leaf (LArg.int .i64))))
def n10:Int->V cxT.ty:=λt=>(.inl (.inl (lv (.int .i64 t))))
def aVe:Int:=(0:Int)
abbrev c10 (m:Y10):=eY (cx:=cxT) a10 n10 aVe m
theorem aZ5:∀ t,bP (n10 t)=true\/bG (n10 t)=true:=λ_=>.inl rfl
abbrev Y11:=C4->Option Bool
def a11:Args cxT.ty C4:=(Args.one (Arg.agg (SArg.cons (LArg.row 73) (SArg.cons (LArg.row 96) (SArg.cons (LArg.row 64) (SArg.one (LArg.row 104)))))))
def n11:Bool->V cxT.ty:=λt=>(.inl (.inl (lv (.bool t))))
def bBz:Bool:=false
abbrev c11 (m:Y11):=eY (cx:=cxT) a11 n11 bBz m
abbrev Y12:=C4->Option C4
def a12:Args cxT.ty C4:=(Args.one (Arg.agg (SArg.cons (LArg.row 88) (SArg.cons (LArg.row 91) (SArg.cons (LArg.row 109) (SArg.one (LArg.row 115)))))))
def n12:C4->V cxT.ty:=λt=>(.inl (.inr [(ls { own:=2,nm:=0,e:=73,o:=true,xs:=t.1 }),(ls { own:=2,nm:=0,e:=96,o:=true,xs:=t.2.1 }),(ls { own:=2,nm:=0,e:=64,o:=true,xs:=t.2.2.1 }),(ls { own:=2,nm:=0,e:=104,o:=true,xs:=t.2.2.2 })]))
def aVc:C4:=([],[],[],[])
abbrev c12 (m:Y12):=eY (cx:=cxT) a12 n12 aVc m
theorem aZ4:∀ t,bP (n12 t)=true\/bG (n12 t)=true:=λ_=>.inl rfl
abbrev Y13:=C4->Option Bool
def a13:Args cxT.ty C4:=(Args.one (Arg.agg (SArg.cons (LArg.row 73) (SArg.cons (LArg.row 96) (SArg.cons (LArg.row 64) (SArg.one (LArg.row 104)))))))
def n13:Bool->V cxT.ty:=λt=>(.inl (.inl (lv (.bool t))))
def bBy:Bool:=false
abbrev c13 (m:Y13):=eY (cx:=cxT) a13 n13 bBy m
abbrev Y14:=(C4×C4)->Option Bool
def a14:Args cxT.ty (C4×C4):=(Args.cons (Arg.agg (SArg.cons (LArg.row 73) (SArg.cons (LArg.row 96) (SArg.cons (LArg.row 64) (SArg.one (LArg.row 104)))))) (Args.one (Arg.agg (SArg.cons (LArg.row 73) (SArg.cons (LArg.row 96) (SArg.cons (LArg.row 64) (SArg.one (LArg.row 104))))))))
def n14:Bool->V cxT.ty:=λt=>(.inl (.inl (lv (.bool t))))
def aVa:Bool:=false
abbrev c14 (m:Y14):=eY (cx:=cxT) a14 n14 aVa m
theorem aZ3:∀ t,bP (n14 t)=true\/bG (n14 t)=true:=λ_=>.inl rfl
abbrev Y15:=C4->Option Bool
def a15:Args cxT.ty C4:=(Args.one (Arg.agg (SArg.cons (LArg.row 73) (SArg.cons (LArg.row 96) (SArg.cons (LArg.row 64) (SArg.one (LArg.row 104)))))))
def n15:Bool->V cxT.ty:=λt=>(.inl (.inl (lv (.bool t))))
def bBx:Bool:=false
abbrev c15 (m:Y15):=eY (cx:=cxT) a15 n15 bBx m
abbrev Y16:=C4->Option Bool
def a16:Args cxT.ty C4:=(Args.one (Arg.agg (SArg.cons (LArg.row 73) (SArg.cons (LArg.row 96) (SArg.cons (LArg.row 64) (SArg.one (LArg.row 104)))))))
def n16:Bool->V cxT.ty:=λt=>(.inl (.inl (lv (.bool t))))
def bBw:Bool:=false
abbrev c16 (m:Y16):=eY (cx:=cxT) a16 n16 bBw m
abbrev Y17:=C4->Option Bool
def a17:Args cxT.ty C4:=(Args.one (Arg.agg (SArg.cons (LArg.row 73) (SArg.cons (LArg.row 96) (SArg.cons (LArg.row 64) (SArg.one (LArg.row 104)))))))
def n17:Bool->V cxT.ty:=λt=>(.inl (.inl (lv (.bool t))))
def bBv:Bool:=false
abbrev c17 (m:Y17):=eY (cx:=cxT) a17 n17 bBv m
abbrev Y18:=C4->Option Bool
def a18:Args cxT.ty C4:=(Args.one (Arg.agg (SArg.cons (LArg.row 73) (SArg.cons (LArg.row 96) (SArg.cons (LArg.row 64) (SArg.one (LArg.row 104)))))))
def n18:Bool->V cxT.ty:=λt=>(.inl (.inl (lv (.bool t))))
def bBu:Bool:=false
abbrev c18 (m:Y18):=eY (cx:=cxT) a18 n18 bBu m
abbrev Y19:=C4->Option Bool
def a19:Args cxT.ty C4:=(Args.one (Arg.agg (SArg.cons (LArg.row 73) (SArg.cons (LArg.row 96) (SArg.cons (LArg.row 64) (SArg.one (LArg.row 104)))))))
def n19:Bool->V cxT.ty:=λt=>(.inl (.inl (lv (.bool t))))
def bBt:Bool:=false
abbrev c19 (m:Y19):=eY (cx:=cxT) a19 n19 bBt m
abbrev Y20:=C4->Option Bool
def a20:Args cxT.ty C4:=(Args.one (Arg.agg (SArg.cons (LArg.row 73) (SArg.cons (LArg.row 96) (SArg.cons (LArg.row 64) (SArg.one (LArg.row 104)))))))
def n20:Bool->V cxT.ty:=λt=>(.inl (.inl (lv (.bool t))))
def bBs:Bool:=false
abbrev c20 (m:Y20):=eY (cx:=cxT) a20 n20 bBs m
abbrev Y21:=C4->Option Bool
def a21:Args cxT.ty C4:=(Args.one (Arg.agg (SArg.cons (LArg.row 73) (SArg.cons (LArg.row 96) (SArg.cons (LArg.row 64) (SArg.one (LArg.row 104)))))))
def n21:Bool->V cxT.ty:=λt=>(.inl (.inl (lv (.bool t))))
def bBr:Bool:=false
abbrev c21 (m:Y21):=eY (cx:=cxT) a21 n21 bBr m
abbrev Y22:=C4->Option Bool
def a22:Args cxT.ty C4:=(Args.one (Arg.agg (SArg.cons (LArg.row 73) (SArg.cons (LArg.row 96) (SArg.cons (LArg.row 64) (SArg.one (LArg.row 104)))))))
def n22:Bool->V cxT.ty:=λt=>(.inl (.inl (lv (.bool t))))
def bBq:Bool:=false
abbrev c22 (m:Y22):=eY (cx:=cxT) a22 n22 bBq m
abbrev Y23:=C4->Option (Int×(List E9))
def a23:Args cxT.ty C4:=(Args.one (Arg.agg (SArg.cons (LArg.row 73) (SArg.cons (LArg.row 96) (SArg.cons (LArg.row 64) (SArg.one (LArg.row 104)))))))
def n23:(Int×(List E9))->V cxT.ty:=λt=>(.inl (.inr [(lv (.int .i64 t.1)),(ls { own:=2,nm:=0,e:=102,o:=true,xs:=t.2 })]))
def aU9:(Int×(List E9)):=((0:Int),[])
abbrev c23 (m:Y23):=eY (cx:=cxT) a23 n23 aU9 m
theorem aZ2:∀ t,bP (n23 t)=true\/bG (n23 t)=true:=λ_=>.inl rfl
abbrev Y24:=C4->Option (Int×(List E9))
def a24:Args cxT.ty C4:=(Args.one (Arg.agg (SArg.cons (LArg.row 73) (SArg.cons (LArg.row 96) (SArg.cons (LArg.row 64) (SArg.one (LArg.row 104)))))))
def n24:(Int×(List E9))->V cxT.ty:=λt=>(.inl (.inr [(lv (.int .i64 t.1)),(ls { own:=2,nm:=0,e:=102,o:=true,xs:=t.2 })]))
def aU8:(Int×(List E9)):=((0:Int),[])
abbrev c24 (m:Y24):=eY (cx:=cxT) a24 n24 aU8 m
theorem aZ1:∀ t,bP (n24 t)=true\/bG (n24 t)=true:=λ_=>.inl rfl
abbrev Y25:=((Int×(List E9))×(Int×(List E9)))->Option Bool
def a25:Args cxT.ty ((Int×(List E9))×(Int×(List E9))):=(Args.cons (Arg.agg (SArg.cons (LArg.int .i64) (SArg.one (LArg.row 102)))) (Args.one (Arg.agg (SArg.cons (LArg.int .i64) (SArg.one (LArg.row 102))))))
def n25:Bool->V cxT.ty:=λt=>(.inl (.inl (lv (.bool t))))
def aU7:Bool:=false
abbrev c25 (m:Y25):=eY (cx:=cxT) a25 n25 aU7 m
theorem aZ0:∀ t,bP (n25 t)=true\/bG (n25 t)=true:=λ_=>.inl rfl
abbrev Y26:=(C4×Int)->Option R5
def a26:Args cxT.ty (C4×Int):=(Args.cons (Arg.agg (SArg.cons (LArg.own 73) (SArg.cons (LArg.own 96) (SArg.cons (LArg.own 64) (SArg.one (LArg.own 104)))))) (Args.one (Arg.leaf (LArg.int .i64))))
def n26:R5->List (A cxT.ty):=λt=>[(.inl (lv (.int .i64 t.1))),(.inr [(ls { own:=2,nm:=0,e:=73,o:=true,xs:=t.2.1 }),(ls { own:=2,nm:=0,e:=96,o:=true,xs:=t.2.2.1 }),(ls { own:=2,nm:=0,e:=64,o:=true,xs:=t.2.2.2.1 }),(ls { own:=2,nm:=0,e:=104,o:=true,xs:=t.2.2.2.2 })])]
def aU6:R5:=((0:Int),[],[],[],[])
abbrev c26 (m:Y26):WFn cxT:={ nres:=1,n:=1,F:=fnW (cx:=cxT) a26 n26 aU6 m,p:=4 }
theorem aZZ:∀ t,bP (.inr (.inl (n26 t)):V cxT.ty)=true:=λ_=>rfl
abbrev Y27:=((Int×(List E9))×Int)->Option (Int×Int×(List E9))
def a27:Args cxT.ty ((Int×(List E9))×Int):=(Args.cons (Arg.agg (SArg.cons (LArg.int .i64) (SArg.one (LArg.own 102)))) (Args.one (Arg.leaf (LArg.int .i64))))
def n27:(Int×Int×(List E9))->List (A cxT.ty):=λt=>[(.inl (lv (.int .i64 t.1))),(.inr [(lv (.int .i64 t.2.1)),(ls { own:=2,nm:=0,e:=102,o:=true,xs:=t.2.2 })])]
def aU5:(Int×Int×(List E9)):=((0:Int),(0:Int),[])
abbrev c27 (m:Y27):WFn cxT:={ nres:=1,n:=1,F:=fnW (cx:=cxT) a27 n27 aU5 m }
theorem aZY:∀ t,bP (.inr (.inl (n27 t)):V cxT.ty)=true:=λ_=>rfl
abbrev Y28:=((Int×(List E9))×Int)->Option Int
def a28:Args cxT.ty ((Int×(List E9))×Int):=(Args.cons (Arg.agg (SArg.cons (LArg.int .i64) (SArg.one (LArg.row 102)))) (Args.one (Arg.leaf (LArg.int .i64))))
def n28:Int->V cxT.ty:=λt=>(.inl (.inl (lv (.int .i64 t))))
def aU4:Int:=(0:Int)
abbrev c28 (m:Y28):=eY (cx:=cxT) a28 n28 aU4 m
theorem aZX:∀ t,bP (n28 t)=true\/bG (n28 t)=true:=λ_=>.inl rfl
abbrev Y29:=C4->Option (Int×Int)
def a29:Args cxT.ty C4:=(Args.one (Arg.agg (SArg.cons (LArg.row 73) (SArg.cons (LArg.row 96) (SArg.cons (LArg.row 64) (SArg.one (LArg.row 104)))))))
def n29:(Int×Int)->V cxT.ty:=λt=>(.inl (.inr [(lv (.int .i64 t.1)),(lv (.int .i64 t.2))]))
def aU3:(Int×Int):=((0:Int),(0:Int))
abbrev c29 (m:Y29):=eY (cx:=cxT) a29 n29 aU3 m
theorem aZW:∀ t,bP (n29 t)=true\/bG (n29 t)=true:=λ_=>.inl rfl
abbrev Y30:=C4->Option (Int×Int)
def a30:Args cxT.ty C4:=(Args.one (Arg.agg (SArg.cons (LArg.row 73) (SArg.cons (LArg.row 96) (SArg.cons (LArg.row 64) (SArg.one (LArg.row 104)))))))
def n30:(Int×Int)->V cxT.ty:=λt=>(.inl (.inr [(lv (.int .i64 t.1)),(lv (.int .i64 t.2))]))
def bBp:(Int×Int):=((0:Int),(0:Int))
abbrev c30 (m:Y30):=eY (cx:=cxT) a30 n30 bBp m
abbrev Y31:=((Int×Int)×(Int×Int))->Option Bool
def a31:Args cxT.ty ((Int×Int)×(Int×Int)):=(Args.cons (Arg.agg (SArg.cons (LArg.int .i64) (SArg.one (LArg.int .i64)))) (Args.one (Arg.agg (SArg.cons (LArg.int .i64) (SArg.one (LArg.int .i64))))))
def n31:Bool->V cxT.ty:=λt=>(.inl (.inl (lv (.bool t))))
def aU2:Bool:=false
abbrev c31 (m:Y31):=eY (cx:=cxT) a31 n31 aU2 m
theorem aZV:∀ t,bP (n31 t)=true\/bG (n31 t)=true:=λ_=>.inl rfl
abbrev Y32:=((List N10)×Int)->Option Int
def a32:Args cxT.ty ((List N10)×Int):=(Args.cons (Arg.leaf (LArg.row 88)) (Args.one (Arg.leaf (LArg.int .i64))))
def n32:Int->V cxT.ty:=λt=>(.inl (.inl (lv (.int .i64 t))))
def aU1:Int:=(0:Int)
abbrev c32 (m:Y32):=eY (cx:=cxT) a32 n32 aU1 m
theorem aZU:∀ t,bP (n32 t)=true\/bG (n32 t)=true:=λ_=>.inl rfl
abbrev Y33:=((List M9)×Int)->Option Int
def a33:Args cxT.ty ((List M9)×Int):=(Args.cons (Arg.leaf (LArg.row 91)) (Args.one (Arg.leaf (LArg.int .i64))))
def n33:Int->V cxT.ty:=λt=>(.inl (.inl (lv (.int .i64 t))))
def aU0:Int:=(0:Int)
abbrev c33 (m:Y33):=eY (cx:=cxT) a33 n33 aU0 m
theorem aZT:∀ t,bP (n33 t)=true\/bG (n33 t)=true:=λ_=>.inl rfl
abbrev Y34:=((List W2)×Int)->Option Int
def a34:Args cxT.ty ((List W2)×Int):=(Args.cons (Arg.leaf (LArg.row 109)) (Args.one (Arg.leaf (LArg.int .i64))))
def n34:Int->V cxT.ty:=λt=>(.inl (.inl (lv (.int .i64 t))))
def aUZ:Int:=(0:Int)
abbrev c34 (m:Y34):=eY (cx:=cxT) a34 n34 aUZ m
theorem aZS:∀ t,bP (n34 t)=true\/bG (n34 t)=true:=λ_=>.inl rfl
abbrev Y35:=((List S10)×Int)->Option Int
def a35:Args cxT.ty ((List S10)×Int):=(Args.cons (Arg.leaf (LArg.row 115)) (Args.one (Arg.leaf (LArg.int .i64))))
def n35:Int->V cxT.ty:=λt=>(.inl (.inl (lv (.int .i64 t))))
def aUY:Int:=(0:Int)
abbrev c35 (m:Y35):=eY (cx:=cxT) a35 n35 aUY m
theorem aZR:∀ t,bP (n35 t)=true\/bG (n35 t)=true:=λ_=>.inl rfl
abbrev Y36:=C4->Option Int
def a36:Args cxT.ty C4:=(Args.one (Arg.leaf (LArg.ptr 35)))
def wX:Int->V cxT.ty:=λt=>(.inl (.inl (lv (.int .i64 t))))
def aUX:Int:=(0:Int)
abbrev c36 (m:Y36):=eY (cx:=cxT) a36 wX aUX m
theorem aZQ:∀ t,bP (wX t)=true\/bG (wX t)=true:=λ_=>.inl rfl
abbrev Y38:=(List N10)->Option (List N10)
def a38:Args cxT.ty (List N10):=(Args.one (Arg.leaf (LArg.row 88)))
def n38:(List N10)->V cxT.ty:=λt=>(.inl (.inl (ls { own:=2,nm:=0,e:=73,o:=true,xs:=t })))
def aUW:(List N10):=[]
abbrev c38 (m:Y38):=eY (cx:=cxT) a38 n38 aUW m
theorem aZP:∀ t,bP (n38 t)=true\/bG (n38 t)=true:=λ_=>.inl rfl
abbrev Y39:=(List M9)->Option (List M9)
def a39:Args cxT.ty (List M9):=(Args.one (Arg.leaf (LArg.row 91)))
def n39:(List M9)->V cxT.ty:=λt=>(.inl (.inl (ls { own:=2,nm:=0,e:=96,o:=true,xs:=t })))
def aUV:(List M9):=[]
abbrev c39 (m:Y39):=eY (cx:=cxT) a39 n39 aUV m
theorem aZO:∀ t,bP (n39 t)=true\/bG (n39 t)=true:=λ_=>.inl rfl
abbrev Y40:=(List W2)->Option (List W2)
def a40:Args cxT.ty (List W2):=(Args.one (Arg.leaf (LArg.row 109)))
def n40:(List W2)->V cxT.ty:=λt=>(.inl (.inl (ls { own:=2,nm:=0,e:=64,o:=true,xs:=t })))
def aUU:(List W2):=[]
abbrev c40 (m:Y40):=eY (cx:=cxT) a40 n40 aUU m
theorem aZN:∀ t,bP (n40 t)=true\/bG (n40 t)=true:=λ_=>.inl rfl
abbrev Y41:=(List S10)->Option (List S10)
def a41:Args cxT.ty (List S10):=(Args.one (Arg.leaf (LArg.row 115)))
def n41:(List S10)->V cxT.ty:=λt=>(.inl (.inl (ls { own:=2,nm:=0,e:=104,o:=true,xs:=t })))
def aUT:(List S10):=[]
abbrev c41 (m:Y41):=eY (cx:=cxT) a41 n41 aUT m
theorem aZM:∀ t,bP (n41 t)=true\/bG (n41 t)=true:=λ_=>.inl rfl
abbrev Y42:=C4->Option Int
def a42:Args cxT.ty C4:=(Args.one (Arg.agg (SArg.cons (LArg.row 73) (SArg.cons (LArg.row 96) (SArg.cons (LArg.row 64) (SArg.one (LArg.row 104)))))))
def n42:Int->V cxT.ty:=λt=>(.inl (.inl (lv (.int .i64 t))))
def aPm:Int:=(0:Int)
abbrev c42 (m:Y42):=eY (cx:=cxT) a42 n42 aPm m
theorem aZL:∀ t,bP (n42 t)=true\/bG (n42 t)=true:=λ_=>.inl rfl
abbrev Y43:=((List W2)×Unit)->Option Bool
def a43:Args cxT.ty ((List W2)×Unit):=(Args.cons (Arg.leaf (LArg.row 64)) (Args.one (Arg.leaf (LArg.fn 44))))
def n43:Bool->V cxT.ty:=λt=>(.inl (.inl (lv (.bool t))))
def bBo:Bool:=false
abbrev c43 (m:Y43):=eY (cx:=cxT) a43 n43 bBo m
abbrev Y45:=((List N10)×(List N10))->Option Bool
def a45:Args cxT.ty ((List N10)×(List N10)):=(Args.cons (Arg.leaf (LArg.row 73)) (Args.one (Arg.leaf (LArg.row 73))))
def n45:Bool->V cxT.ty:=λt=>(.inl (.inl (lv (.bool t))))
def aUS:Bool:=false
abbrev c45 (m:Y45):=eY (cx:=cxT) a45 n45 aUS m
theorem aZK:∀ t,bP (n45 t)=true\/bG (n45 t)=true:=λ_=>.inl rfl
abbrev Y46:=((List M9)×(List M9))->Option Bool
def a46:Args cxT.ty ((List M9)×(List M9)):=(Args.cons (Arg.leaf (LArg.row 96)) (Args.one (Arg.leaf (LArg.row 96))))
def n46:Bool->V cxT.ty:=λt=>(.inl (.inl (lv (.bool t))))
def aUR:Bool:=false
abbrev c46 (m:Y46):=eY (cx:=cxT) a46 n46 aUR m
theorem aZJ:∀ t,bP (n46 t)=true\/bG (n46 t)=true:=λ_=>.inl rfl
abbrev Y47:=((List W2)×(List W2))->Option Bool
def a47:Args cxT.ty ((List W2)×(List W2)):=(Args.cons (Arg.leaf (LArg.row 64)) (Args.one (Arg.leaf (LArg.row 64))))
def n47:Bool->V cxT.ty:=λt=>(.inl (.inl (lv (.bool t))))
def aUQ:Bool:=false
abbrev c47 (m:Y47):=eY (cx:=cxT) a47 n47 aUQ m
theorem aZI:∀ t,bP (n47 t)=true\/bG (n47 t)=true:=λ_=>.inl rfl
abbrev Y48:=((List S10)×(List S10))->Option Bool
def a48:Args cxT.ty ((List S10)×(List S10)):=(Args.cons (Arg.leaf (LArg.row 104)) (Args.one (Arg.leaf (LArg.row 104))))
def n48:Bool->V cxT.ty:=λt=>(.inl (.inl (lv (.bool t))))
def aUP:Bool:=false
abbrev c48 (m:Y48):=eY (cx:=cxT) a48 n48 aUP m
theorem aZH:∀ t,bP (n48 t)=true\/bG (n48 t)=true:=λ_=>.inl rfl
abbrev Y53:=(List S10)->Option (List E9)
def a53:Args cxT.ty (List S10):=(Args.one (Arg.leaf (LArg.row 104)))
def n53:(List E9)->V cxT.ty:=λt=>(.inl (.inl (ls { own:=2,nm:=0,e:=102,o:=true,xs:=t })))
def aUO:(List E9):=[]
abbrev c53 (m:Y53):=eY (cx:=cxT) a53 n53 aUO m
theorem aZG:∀ t,bP (n53 t)=true\/bG (n53 t)=true:=λ_=>.inl rfl
abbrev Y57:=C4->Option (List E9)
def a57:Args cxT.ty C4:=(Args.one (Arg.leaf (LArg.ptr 35)))
def n57:(List E9)->V cxT.ty:=λt=>(.inl (.inl (ls { own:=2,nm:=0,e:=102,o:=true,xs:=t })))
def aUN:(List E9):=[]
abbrev c57 (m:Y57):=eY (cx:=cxT) a57 n57 aUN m
theorem aZF:∀ t,bP (n57 t)=true\/bG (n57 t)=true:=λ_=>.inl rfl
abbrev Y58:=((List E9)×(List E9))->Option Bool
def a58:Args cxT.ty ((List E9)×(List E9)):=(Args.cons (Arg.leaf (LArg.row 102)) (Args.one (Arg.leaf (LArg.row 102))))
def n58:Bool->V cxT.ty:=λt=>(.inl (.inl (lv (.bool t))))
def aUM:Bool:=false
abbrev c58 (m:Y58):=eY (cx:=cxT) a58 n58 aUM m
theorem aZE:∀ t,bP (n58 t)=true\/bG (n58 t)=true:=λ_=>.inl rfl
abbrev Y59:=((List N10)×Int)->Option (Int×(List N10))
def a59:Args cxT.ty ((List N10)×Int):=(Args.cons (Arg.leaf (LArg.own 73)) (Args.one (Arg.leaf (LArg.int .i64))))
def n59:(Int×(List N10))->List (A cxT.ty):=λt=>[(.inl (lv (.int .i64 t.1))),(.inl (ls { own:=2,nm:=0,e:=73,o:=true,xs:=t.2 }))]
def aUL:(Int×(List N10)):=((0:Int),[])
abbrev c59 (m:Y59):WFn cxT:={ nres:=1,n:=1,F:=fnW (cx:=cxT) a59 n59 aUL m,p:=4 }
theorem aZD:∀ t,bP (.inr (.inl (n59 t)):V cxT.ty)=true:=λ_=>rfl
abbrev Y60:=((List M9)×Int)->Option (Int×(List M9))
def a60:Args cxT.ty ((List M9)×Int):=(Args.cons (Arg.leaf (LArg.own 96)) (Args.one (Arg.leaf (LArg.int .i64))))
def n60:(Int×(List M9))->List (A cxT.ty):=λt=>[(.inl (lv (.int .i64 t.1))),(.inl (ls { own:=2,nm:=0,e:=96,o:=true,xs:=t.2 }))]
def aUK:(Int×(List M9)):=((0:Int),[])
abbrev c60 (m:Y60):WFn cxT:={ nres:=1,n:=1,F:=fnW (cx:=cxT) a60 n60 aUK m,p:=4 }
theorem aZC:∀ t,bP (.inr (.inl (n60 t)):V cxT.ty)=true:=λ_=>rfl
abbrev Y61:=((List W2)×Int)->Option (Int×(List W2))
def a61:Args cxT.ty ((List W2)×Int):=(Args.cons (Arg.leaf (LArg.own 64)) (Args.one (Arg.leaf (LArg.int .i64))))
def n61:(Int×(List W2))->List (A cxT.ty):=λt=>[(.inl (lv (.int .i64 t.1))),(.inl (ls { own:=2,nm:=0,e:=64,o:=true,xs:=t.2 }))]
def aUJ:(Int×(List W2)):=((0:Int),[])
abbrev c61 (m:Y61):WFn cxT:={ nres:=1,n:=1,F:=fnW (cx:=cxT) a61 n61 aUJ m }
theorem aZB:∀ t,bP (.inr (.inl (n61 t)):V cxT.ty)=true:=λ_=>rfl
abbrev Y62:=((List S10)×Int)->Option (Int×(List S10))
def a62:Args cxT.ty ((List S10)×Int):=(Args.cons (Arg.leaf (LArg.own 104)) (Args.one (Arg.leaf (LArg.int .i64))))
def n62:(Int×(List S10))->List (A cxT.ty):=λt=>[(.inl (lv (.int .i64 t.1))),(.inl (ls { own:=2,nm:=0,e:=104,o:=true,xs:=t.2 }))]
def aUI:(Int×(List S10)):=((0:Int),[])
abbrev c62 (m:Y62):WFn cxT:={ nres:=1,n:=1,F:=fnW (cx:=cxT) a62 n62 aUI m }
theorem aZA:∀ t,bP (.inr (.inl (n62 t)):V cxT.ty)=true:=λ_=>rfl
abbrev Y63:=((List E9)×Int)->Option (Int×(List E9))
def a63:Args cxT.ty ((List E9)×Int):=(Args.cons (Arg.leaf (LArg.own 102)) (Args.one (Arg.leaf (LArg.int .i64))))
def n63:(Int×(List E9))->List (A cxT.ty):=λt=>[(.inl (lv (.int .i64 t.1))),(.inl (ls { own:=2,nm:=0,e:=102,o:=true,xs:=t.2 }))]
def aUH:(Int×(List E9)):=((0:Int),[])
abbrev c63 (m:Y63):WFn cxT:={ nres:=1,n:=1,F:=fnW (cx:=cxT) a63 n63 aUH m }
theorem aZz:∀ t,bP (.inr (.inl (n63 t)):V cxT.ty)=true:=λ_=>rfl
abbrev Y64:=((List E9)×Int)->Option Int
def a64:Args cxT.ty ((List E9)×Int):=(Args.cons (Arg.leaf (LArg.row 102)) (Args.one (Arg.leaf (LArg.int .i64))))
def n64:Int->V cxT.ty:=λt=>(.inl (.inl (lv (.int .i64 t))))
def aUG:Int:=(0:Int)
abbrev c64 (m:Y64):=eY (cx:=cxT) a64 n64 aUG m
theorem aZy:∀ t,bP (n64 t)=true\/bG (n64 t)=true:=λ_=>.inl rfl
abbrev Y65:=(N10×Int)->Option Int
def a65:Args cxT.ty (N10×Int):=(Args.cons (Arg.agg (SArg.cons (LArg.int .i64) (SArg.cons (LArg.int .i64) (SArg.cons (LArg.int .i64) (SArg.cons (LArg.int .i64) (SArg.cons (LArg.row 113) (SArg.cons (LArg.int .i64) (SArg.cons (LArg.int .i64) (SArg.cons (LArg.row 2) (SArg.cons (LArg.row 2) (SArg.one (LArg.row 2)))))))))))) (Args.one (Arg.leaf (LArg.int .i64))))
def n65:Int->V cxT.ty:=λt=>(.inl (.inl (lv (.int .i64 t))))
def aUF:Int:=(0:Int)
abbrev c65 (m:Y65):=eY (cx:=cxT) a65 n65 aUF m
theorem aZx:∀ t,bP (n65 t)=true\/bG (n65 t)=true:=λ_=>.inl rfl
abbrev Y66:=(M9×Int)->Option Int
def a66:Args cxT.ty (M9×Int):=(Args.cons (Arg.agg (SArg.cons (LArg.int .i64) (SArg.cons (LArg.int .i64) (SArg.cons (LArg.int .i64) (SArg.cons (LArg.int .i64) (SArg.cons (LArg.int .i64) (SArg.cons (LArg.int .i64) (SArg.cons (LArg.int .i64) (SArg.cons LArg.bool (SArg.one (LArg.row 113))))))))))) (Args.one (Arg.leaf (LArg.int .i64))))
def n66:Int->V cxT.ty:=λt=>(.inl (.inl (lv (.int .i64 t))))
def aUE:Int:=(0:Int)
abbrev c66 (m:Y66):=eY (cx:=cxT) a66 n66 aUE m
theorem aZw:∀ t,bP (n66 t)=true\/bG (n66 t)=true:=λ_=>.inl rfl
abbrev Y67:=N10->Option Int
def a67:Args cxT.ty N10:=(Args.one (Arg.leaf (LArg.ptr 73)))
def n67:Int->V cxT.ty:=λt=>(.inl (.inl (lv (.int .i64 t))))
def aUD:Int:=(0:Int)
abbrev c67 (m:Y67):=eY (cx:=cxT) a67 n67 aUD m
theorem aZv:∀ t,bP (n67 t)=true\/bG (n67 t)=true:=λ_=>.inl rfl
abbrev Y68:=(C4×Int)->Option Bool
def a68:Args cxT.ty (C4×Int):=(Args.cons (Arg.leaf (LArg.ptr 35)) (Args.one (Arg.leaf (LArg.int .i64))))
def n68:Bool->V cxT.ty:=λt=>(.inl (.inl (lv (.bool t))))
def aUC:Bool:=false
abbrev c68 (m:Y68):=eY (cx:=cxT) a68 n68 aUC m
theorem aZu:∀ t,bP (n68 t)=true\/bG (n68 t)=true:=λ_=>.inl rfl
abbrev Y69:=(N10×M9)->Option Int
def a69:Args cxT.ty (N10×M9):=(Args.cons (Arg.leaf (LArg.ptr 73)) (Args.one (Arg.agg (SArg.cons (LArg.int .i64) (SArg.cons (LArg.int .i64) (SArg.cons (LArg.int .i64) (SArg.cons (LArg.int .i64) (SArg.cons (LArg.int .i64) (SArg.cons (LArg.int .i64) (SArg.cons (LArg.int .i64) (SArg.cons LArg.bool (SArg.one (LArg.row 102)))))))))))))
def n69:Int->V cxT.ty:=λt=>(.inl (.inl (lv (.int .i64 t))))
def aUB:Int:=(0:Int)
abbrev c69 (m:Y69):=eY (cx:=cxT) a69 n69 aUB m
theorem aZt:∀ t,bP (n69 t)=true\/bG (n69 t)=true:=λ_=>.inl rfl
abbrev Y70:=(Int×Int×Int)->Option Bool
def a70:Args cxT.ty (Int×Int×Int):=(Args.cons (Arg.leaf (LArg.int .i64)) (Args.cons (Arg.leaf (LArg.int .i64)) (Args.one (Arg.leaf (LArg.int .i64)))))
def n70:Bool->V cxT.ty:=λt=>(.inl (.inl (lv (.bool t))))
def aUA:Bool:=false
abbrev xL (m:Y70):=eY (cx:=cxT) a70 n70 aUA m
theorem aZs:∀ t,bP (n70 t)=true\/bG (n70 t)=true:=λ_=>.inl rfl
abbrev Y71:=E9->Option Int
def a71:Args cxT.ty E9:=(Args.one (Arg.agg (SArg.cons (LArg.int .i64) (SArg.cons (LArg.int .i64) (SArg.cons (LArg.int .i64) (SArg.cons (LArg.int .i64) (SArg.cons (LArg.int .i64) (SArg.cons (LArg.int .i64) (SArg.cons (LArg.int .i64) (SArg.cons (LArg.int .i64) (SArg.one (LArg.int .i64))))))))))))
def n71:Int->V cxT.ty:=λt=>(.inl (.inl (lv (.int .i64 t))))
def aUz:Int:=(0:Int)
abbrev c71 (m:Y71):=eY (cx:=cxT) a71 n71 aUz m
theorem aZr:∀ t,bP (n71 t)=true\/bG (n71 t)=true:=λ_=>.inl rfl
abbrev Y72:=N10->Option N10
def a72:Args cxT.ty N10:=(Args.one (Arg.agg (SArg.cons (LArg.int .i64) (SArg.cons (LArg.int .i64) (SArg.cons (LArg.int .i64) (SArg.cons (LArg.int .i64) (SArg.cons (LArg.row 113) (SArg.cons (LArg.int .i64) (SArg.cons (LArg.int .i64) (SArg.cons (LArg.row 2) (SArg.cons (LArg.row 2) (SArg.one (LArg.row 2)))))))))))))
def n72:N10->V cxT.ty:=λt=>(.inl (.inr [(lv (.int .i64 t.1)),(lv (.int .i64 t.2.1)),(lv (.int .i64 t.2.2.1)),(lv (.int .i64 t.2.2.2.1)),(ls { own:=2,nm:=0,e:=102,o:=true,xs:=t.2.2.2.2.1 }),(lv (.int .i64 t.2.2.2.2.2.1)),(lv (.int .i64 t.2.2.2.2.2.2.1)),(ls { own:=2,nm:=0,e:=2,o:=true,xs:=t.2.2.2.2.2.2.2.1 }),(ls { own:=2,nm:=0,e:=2,o:=true,xs:=t.2.2.2.2.2.2.2.2.1 }),(ls { own:=2,nm:=0,e:=2,o:=true,xs:=t.2.2.2.2.2.2.2.2.2 })]))
def aUy:N10:=((0:Int),(0:Int),(0:Int),(0:Int),[],(0:Int),(0:Int),[],[],[])
abbrev c72 (m:Y72):=eY (cx:=cxT) a72 n72 aUy m
theorem aZq:∀ t,bP (n72 t)=true\/bG (n72 t)=true:=λ_=>.inl rfl
abbrev Y73:=M9->Option M9
def a73:Args cxT.ty M9:=(Args.one (Arg.agg (SArg.cons (LArg.int .i64) (SArg.cons (LArg.int .i64) (SArg.cons (LArg.int .i64) (SArg.cons (LArg.int .i64) (SArg.cons (LArg.int .i64) (SArg.cons (LArg.int .i64) (SArg.cons (LArg.int .i64) (SArg.cons LArg.bool (SArg.one (LArg.row 113))))))))))))
def n73:M9->V cxT.ty:=λt=>(.inl (.inr [(lv (.int .i64 t.1)),(lv (.int .i64 t.2.1)),(lv (.int .i64 t.2.2.1)),(lv (.int .i64 t.2.2.2.1)),(lv (.int .i64 t.2.2.2.2.1)),(lv (.int .i64 t.2.2.2.2.2.1)),(lv (.int .i64 t.2.2.2.2.2.2.1)),(lv (.bool t.2.2.2.2.2.2.2.1)),(ls { own:=2,nm:=0,e:=102,o:=true,xs:=t.2.2.2.2.2.2.2.2 })]))
def aUx:M9:=((0:Int),(0:Int),(0:Int),(0:Int),(0:Int),(0:Int),(0:Int),false,[])
abbrev c73 (m:Y73):=eY (cx:=cxT) a73 n73 aUx m
theorem aZp:∀ t,bP (n73 t)=true\/bG (n73 t)=true:=λ_=>.inl rfl
abbrev Y74:=(Int×Int)->Option (Int×Int)
def a74:Args cxT.ty (Int×Int):=(Args.one (Arg.agg (SArg.cons (LArg.int .i64) (SArg.one (LArg.int .i64)))))
def n74:(Int×Int)->V cxT.ty:=λt=>(.inl (.inr [(lv (.int .i64 t.1)),(lv (.int .i64 t.2))]))
def aUw:(Int×Int):=((0:Int),(0:Int))
abbrev c74 (m:Y74):=eY (cx:=cxT) a74 n74 aUw m
theorem aZo:∀ t,bP (n74 t)=true\/bG (n74 t)=true:=λ_=>.inl rfl
abbrev Y75:=S10->Option S10
def a75:Args cxT.ty S10:=(Args.one (Arg.agg (SArg.cons (LArg.int .i64) (SArg.cons (LArg.int .i64) (SArg.cons (LArg.int .i64) (SArg.cons (LArg.int .i64) (SArg.cons (LArg.int .i64) (SArg.cons (LArg.int .i64) (SArg.cons (LArg.int .i64) (SArg.cons (LArg.int .i64) (SArg.cons (LArg.int .i64) (SArg.one (LArg.int .i64)))))))))))))
def n75:S10->V cxT.ty:=λt=>(.inl (.inr [(lv (.int .i64 t.1)),(lv (.int .i64 t.2.1)),(lv (.int .i64 t.2.2.1)),(lv (.int .i64 t.2.2.2.1)),(lv (.int .i64 t.2.2.2.2.1)),(lv (.int .i64 t.2.2.2.2.2.1)),(lv (.int .i64 t.2.2.2.2.2.2.1)),(lv (.int .i64 t.2.2.2.2.2.2.2.1)),(lv (.int .i64 t.2.2.2.2.2.2.2.2.1)),(lv (.int .i64 t.2.2.2.2.2.2.2.2.2))]))
def aUv:S10:=((0:Int),(0:Int),(0:Int),(0:Int),(0:Int),(0:Int),(0:Int),(0:Int),(0:Int),(0:Int))
abbrev c75 (m:Y75):=eY (cx:=cxT) a75 n75 aUv m
theorem aZn:∀ t,bP (n75 t)=true\/bG (n75 t)=true:=λ_=>.inl rfl
abbrev Y76:=Int->Option Bool
def a76:Args cxT.ty Int:=(Args.one (Arg.leaf (LArg.int .i64)))
def n76:Bool->V cxT.ty:=λt=>(.inl (.inl (lv (.bool t))))
def aUu:Bool:=false
abbrev c76 (m:Y76):=eY (cx:=cxT) a76 n76 aUu m
theorem aZm:∀ t,bP (n76 t)=true\/bG (n76 t)=true:=λ_=>.inl rfl
abbrev Y77:=(List N10)->Option Int
def a77:Args cxT.ty (List N10):=(Args.one (Arg.leaf (LArg.row 73)))
def n77:Int->V cxT.ty:=λt=>(.inl (.inl (lv (.int .i64 t))))
def aUt:Int:=(0:Int)
abbrev c77 (m:Y77):=eY (cx:=cxT) a77 n77 aUt m
theorem aZl:∀ t,bP (n77 t)=true\/bG (n77 t)=true:=λ_=>.inl rfl
abbrev Y78:=((List N10)×(List M9))->Option Int
def a78:Args cxT.ty ((List N10)×(List M9)):=(Args.cons (Arg.leaf (LArg.row 73)) (Args.one (Arg.leaf (LArg.row 96))))
def n78:Int->V cxT.ty:=λt=>(.inl (.inl (lv (.int .i64 t))))
def aUs:Int:=(0:Int)
abbrev c78 (m:Y78):=eY (cx:=cxT) a78 n78 aUs m
theorem aZk:∀ t,bP (n78 t)=true\/bG (n78 t)=true:=λ_=>.inl rfl
abbrev Y79:=Int->Option Bool
def a79:Args cxT.ty Int:=(Args.one (Arg.leaf (LArg.int .i64)))
def n79:Bool->V cxT.ty:=λt=>(.inl (.inl (lv (.bool t))))
def aUr:Bool:=false
abbrev c79 (m:Y79):=eY (cx:=cxT) a79 n79 aUr m
theorem aZj:∀ t,bP (n79 t)=true\/bG (n79 t)=true:=λ_=>.inl rfl
abbrev Y80:=(Int×Int)->Option Bool
def a80:Args cxT.ty (Int×Int):=(Args.cons (Arg.leaf (LArg.int .i64)) (Args.one (Arg.leaf (LArg.int .i64))))
def n80:Bool->V cxT.ty:=λt=>(.inl (.inl (lv (.bool t))))
def aUq:Bool:=false
abbrev c80 (m:Y80):=eY (cx:=cxT) a80 n80 aUq m
theorem aZi:∀ t,bP (n80 t)=true\/bG (n80 t)=true:=λ_=>.inl rfl
abbrev Y81:=(List S10)->Option Int
def a81:Args cxT.ty (List S10):=(Args.one (Arg.leaf (LArg.row 104)))
def n81:Int->V cxT.ty:=λt=>(.inl (.inl (lv (.int .i64 t))))
def aUp:Int:=(0:Int)
abbrev c81 (m:Y81):=eY (cx:=cxT) a81 n81 aUp m
theorem aZh:∀ t,bP (n81 t)=true\/bG (n81 t)=true:=λ_=>.inl rfl
abbrev Y82:=(N10×N10)->Option Bool
def a82:Args cxT.ty (N10×N10):=(Args.cons (Arg.agg (SArg.cons (LArg.int .i64) (SArg.cons (LArg.int .i64) (SArg.cons (LArg.int .i64) (SArg.cons (LArg.int .i64) (SArg.cons (LArg.row 102) (SArg.cons (LArg.int .i64) (SArg.cons (LArg.int .i64) (SArg.cons (LArg.row 2) (SArg.cons (LArg.row 2) (SArg.one (LArg.row 2)))))))))))) (Args.one (Arg.agg (SArg.cons (LArg.int .i64) (SArg.cons (LArg.int .i64) (SArg.cons (LArg.int .i64) (SArg.cons (LArg.int .i64) (SArg.cons (LArg.row 102) (SArg.cons (LArg.int .i64) (SArg.cons (LArg.int .i64) (SArg.cons (LArg.row 2) (SArg.cons (LArg.row 2) (SArg.one (LArg.row 2))))))))))))))
def n82:Bool->V cxT.ty:=λt=>(.inl (.inl (lv (.bool t))))
def aUo:Bool:=false
abbrev c82 (m:Y82):=eY (cx:=cxT) a82 n82 aUo m
theorem aZg:∀ t,bP (n82 t)=true\/bG (n82 t)=true:=λ_=>.inl rfl
abbrev Y83:=(M9×M9)->Option Bool
def a83:Args cxT.ty (M9×M9):=(Args.cons (Arg.agg (SArg.cons (LArg.int .i64) (SArg.cons (LArg.int .i64) (SArg.cons (LArg.int .i64) (SArg.cons (LArg.int .i64) (SArg.cons (LArg.int .i64) (SArg.cons (LArg.int .i64) (SArg.cons (LArg.int .i64) (SArg.cons LArg.bool (SArg.one (LArg.row 102))))))))))) (Args.one (Arg.agg (SArg.cons (LArg.int .i64) (SArg.cons (LArg.int .i64) (SArg.cons (LArg.int .i64) (SArg.cons (LArg.int .i64) (SArg.cons (LArg.int .i64) (SArg.cons (LArg.int .i64) (SArg.cons (LArg.int .i64) (SArg.cons LArg.bool (SArg.one (LArg.row 102)))))))))))))
def n83:Bool->V cxT.ty:=λt=>(.inl (.inl (lv (.bool t))))
def aUn:Bool:=false
abbrev c83 (m:Y83):=eY (cx:=cxT) a83 n83 aUn m
theorem aZf:∀ t,bP (n83 t)=true\/bG (n83 t)=true:=λ_=>.inl rfl
abbrev Y84:=((Int×Int)×(Int×Int))->Option Bool
def a84:Args cxT.ty ((Int×Int)×(Int×Int)):=(Args.cons (Arg.agg (SArg.cons (LArg.int .i64) (SArg.one (LArg.int .i64)))) (Args.one (Arg.agg (SArg.cons (LArg.int .i64) (SArg.one (LArg.int .i64))))))
def n84:Bool->V cxT.ty:=λt=>(.inl (.inl (lv (.bool t))))
def aUm:Bool:=false
abbrev c84 (m:Y84):=eY (cx:=cxT) a84 n84 aUm m
theorem aZe:∀ t,bP (n84 t)=true\/bG (n84 t)=true:=λ_=>.inl rfl
abbrev Y85:=(S10×S10)->Option Bool
def a85:Args cxT.ty (S10×S10):=(Args.cons (Arg.agg (SArg.cons (LArg.int .i64) (SArg.cons (LArg.int .i64) (SArg.cons (LArg.int .i64) (SArg.cons (LArg.int .i64) (SArg.cons (LArg.int .i64) (SArg.cons (LArg.int .i64) (SArg.cons (LArg.int .i64) (SArg.cons (LArg.int .i64) (SArg.cons (LArg.int .i64) (SArg.one (LArg.int .i64)))))))))))) (Args.one (Arg.agg (SArg.cons (LArg.int .i64) (SArg.cons (LArg.int .i64) (SArg.cons (LArg.int .i64) (SArg.cons (LArg.int .i64) (SArg.cons (LArg.int .i64) (SArg.cons (LArg.int .i64) (SArg.cons (LArg.int .i64) (SArg.cons (LArg.int .i64) (SArg.cons (LArg.int .i64) (SArg.one (LArg.int .i64))))))))))))))
def n85:Bool->V cxT.ty:=λt=>(.inl (.inl (lv (.bool t))))
def aUl:Bool:=false
abbrev c85 (m:Y85):=eY (cx:=cxT) a85 n85 aUl m
theorem aZd:∀ t,bP (n85 t)=true\/bG (n85 t)=true:=λ_=>.inl rfl
abbrev Y87:=N10->Option Int
def a87:Args cxT.ty N10:=(Args.one (Arg.leaf (LArg.ptr 73)))
def n87:Int->V cxT.ty:=λt=>(.inl (.inl (lv (.int .i64 t))))
def aUk:Int:=(0:Int)
abbrev c87 (m:Y87):=eY (cx:=cxT) a87 n87 aUk m
theorem aZc:∀ t,bP (n87 t)=true\/bG (n87 t)=true:=λ_=>.inl rfl
abbrev Y91:=((List E9)×Int)->Option (Int×Int×Int×Int×Int×Int×Int×Int×Int×Bool)
def a91:Args cxT.ty ((List E9)×Int):=(Args.cons (Arg.leaf (LArg.row 102)) (Args.one (Arg.leaf (LArg.int .i64))))
def n91:(Int×Int×Int×Int×Int×Int×Int×Int×Int×Bool)->V cxT.ty:=λt=>(.inr (.inl [(.inr [(lv (.int .i64 t.1)),(lv (.int .i64 t.2.1)),(lv (.int .i64 t.2.2.1)),(lv (.int .i64 t.2.2.2.1)),(lv (.int .i64 t.2.2.2.2.1)),(lv (.int .i64 t.2.2.2.2.2.1)),(lv (.int .i64 t.2.2.2.2.2.2.1)),(lv (.int .i64 t.2.2.2.2.2.2.2.1)),(lv (.int .i64 t.2.2.2.2.2.2.2.2.1))]),(.inl (lv (.bool t.2.2.2.2.2.2.2.2.2)))]))
def aUj:(Int×Int×Int×Int×Int×Int×Int×Int×Int×Bool):=((0:Int),(0:Int),(0:Int),(0:Int),(0:Int),(0:Int),(0:Int),(0:Int),(0:Int),false)
abbrev c91 (m:Y91):=eY (cx:=cxT) a91 n91 aUj m
theorem aZb:∀ t,bP (n91 t)=true\/bG (n91 t)=true:=λ_=>.inl rfl
abbrev Y92:=(E9×E9)->Option Bool
def a92:Args cxT.ty (E9×E9):=(Args.cons (Arg.agg (SArg.cons (LArg.int .i64) (SArg.cons (LArg.int .i64) (SArg.cons (LArg.int .i64) (SArg.cons (LArg.int .i64) (SArg.cons (LArg.int .i64) (SArg.cons (LArg.int .i64) (SArg.cons (LArg.int .i64) (SArg.cons (LArg.int .i64) (SArg.one (LArg.int .i64))))))))))) (Args.one (Arg.agg (SArg.cons (LArg.int .i64) (SArg.cons (LArg.int .i64) (SArg.cons (LArg.int .i64) (SArg.cons (LArg.int .i64) (SArg.cons (LArg.int .i64) (SArg.cons (LArg.int .i64) (SArg.cons (LArg.int .i64) (SArg.cons (LArg.int .i64) (SArg.one (LArg.int .i64)))))))))))))
def n92:Bool->V cxT.ty:=λt=>(.inl (.inl (lv (.bool t))))
def aUi:Bool:=false
abbrev c92 (m:Y92):=eY (cx:=cxT) a92 n92 aUi m
theorem aZa:∀ t,bP (n92 t)=true\/bG (n92 t)=true:=λ_=>.inl rfl
abbrev Y93:=((List Int)×Int)->Option (Int×(List Int))
def a93:Args cxT.ty ((List Int)×Int):=(Args.cons (Arg.leaf (LArg.own 2)) (Args.one (Arg.leaf (LArg.int .i64))))
def n93:(Int×(List Int))->List (A cxT.ty):=λt=>[(.inl (lv (.int .i64 t.1))),(.inl (ls { own:=2,nm:=0,e:=2,o:=true,xs:=t.2 }))]
def aUh:(Int×(List Int)):=((0:Int),[])
abbrev c93 (m:Y93):WFn cxT:={ nres:=1,n:=1,F:=fnW (cx:=cxT) a93 n93 aUh m }
theorem aY9:∀ t,bP (.inr (.inl (n93 t)):V cxT.ty)=true:=λ_=>rfl
abbrev Y94:=((List E9)×Int)->Option Int
def a94:Args cxT.ty ((List E9)×Int):=(Args.cons (Arg.leaf (LArg.row 113)) (Args.one (Arg.leaf (LArg.int .i64))))
def n94:Int->V cxT.ty:=λt=>(.inl (.inl (lv (.int .i64 t))))
def aUg:Int:=(0:Int)
abbrev c94 (m:Y94):=eY (cx:=cxT) a94 n94 aUg m
theorem aY8:∀ t,bP (n94 t)=true\/bG (n94 t)=true:=λ_=>.inl rfl
abbrev Y95:=((List Int)×Int)->Option Int
def a95:Args cxT.ty ((List Int)×Int):=(Args.cons (Arg.leaf (LArg.row 2)) (Args.one (Arg.leaf (LArg.int .i64))))
def n95:Int->V cxT.ty:=λt=>(.inl (.inl (lv (.int .i64 t))))
def aUf:Int:=(0:Int)
abbrev c95 (m:Y95):=eY (cx:=cxT) a95 n95 aUf m
theorem aY7:∀ t,bP (n95 t)=true\/bG (n95 t)=true:=λ_=>.inl rfl
abbrev Y96:=(N10×Int)->Option Bool
def a96:Args cxT.ty (N10×Int):=(Args.cons (Arg.leaf (LArg.ptr 73)) (Args.one (Arg.leaf (LArg.int .i64))))
def n96:Bool->V cxT.ty:=λt=>(.inl (.inl (lv (.bool t))))
def aUe:Bool:=false
abbrev c96 (m:Y96):=eY (cx:=cxT) a96 n96 aUe m
theorem aY6:∀ t,bP (n96 t)=true\/bG (n96 t)=true:=λ_=>.inl rfl
abbrev Y97:=(List E9)->Option Int
def a97:Args cxT.ty (List E9):=(Args.one (Arg.leaf (LArg.row 102)))
def n97:Int->V cxT.ty:=λt=>(.inl (.inl (lv (.int .i64 t))))
def aUd:Int:=(0:Int)
abbrev c97 (m:Y97):=eY (cx:=cxT) a97 n97 aUd m
theorem aY5:∀ t,bP (n97 t)=true\/bG (n97 t)=true:=λ_=>.inl rfl
abbrev Y98:=(List E9)->Option E9
def a98:Args cxT.ty (List E9):=(Args.one (Arg.leaf (LArg.row 102)))
def n98:E9->V cxT.ty:=λt=>(.inl (.inr [(lv (.int .i64 t.1)),(lv (.int .i64 t.2.1)),(lv (.int .i64 t.2.2.1)),(lv (.int .i64 t.2.2.2.1)),(lv (.int .i64 t.2.2.2.2.1)),(lv (.int .i64 t.2.2.2.2.2.1)),(lv (.int .i64 t.2.2.2.2.2.2.1)),(lv (.int .i64 t.2.2.2.2.2.2.2.1)),(lv (.int .i64 t.2.2.2.2.2.2.2.2))]))
def aUc:E9:=((0:Int),(0:Int),(0:Int),(0:Int),(0:Int),(0:Int),(0:Int),(0:Int),(0:Int))
abbrev c98 (m:Y98):=eY (cx:=cxT) a98 n98 aUc m
theorem aY4:∀ t,bP (n98 t)=true\/bG (n98 t)=true:=λ_=>.inl rfl
abbrev Y99:=N10->Option Bool
def a99:Args cxT.ty N10:=(Args.one (Arg.leaf (LArg.ptr 73)))
def n99:Bool->V cxT.ty:=λt=>(.inl (.inl (lv (.bool t))))
def aUb:Bool:=false
abbrev c99 (m:Y99):=eY (cx:=cxT) a99 n99 aUb m
theorem aY3:∀ t,bP (n99 t)=true\/bG (n99 t)=true:=λ_=>.inl rfl
abbrev Y100:=M9->Option Bool
def aWx:Args cxT.ty M9:=(Args.one (Arg.agg (SArg.cons (LArg.int .i64) (SArg.cons (LArg.int .i64) (SArg.cons (LArg.int .i64) (SArg.cons (LArg.int .i64) (SArg.cons (LArg.int .i64) (SArg.cons (LArg.int .i64) (SArg.cons (LArg.int .i64) (SArg.cons LArg.bool (SArg.one (LArg.row 102))))))))))))
def aGW:Bool->V cxT.ty:=λt=>(.inl (.inl (lv (.bool t))))
def aNk:Bool:=false
abbrev aKU (m:Y100):=eY (cx:=cxT) aWx aGW aNk m
theorem aSz:∀ t,bP (aGW t)=true\/bG (aGW t)=true:=λ_=>.inl rfl
abbrev Y101:=(Int×Int×Int×Int×Int×Int)->Option Int
def bBL:Args cxT.ty (Int×Int×Int×Int×Int×Int):=(Args.one (Arg.agg (SArg.cons (LArg.int .i64) (SArg.cons (LArg.int .i64) (SArg.cons (LArg.int .i64) (SArg.cons (LArg.int .i64) (SArg.cons (LArg.int .i64) (SArg.one (LArg.int .i64)))))))))
def aYV:Int->V cxT.ty:=λt=>(.inl (.inl (lv (.int .i64 t))))
def aVd:Int:=(0:Int)
abbrev aPs (m:Y101):=eY (cx:=cxT) bBL aYV aVd m
abbrev Y102:=(List E9)->Option (List E9)
def aWw:Args cxT.ty (List E9):=(Args.one (Arg.leaf (LArg.row 113)))
def zX:(List E9)->V cxT.ty:=λt=>(.inl (.inl (ls { own:=2,nm:=0,e:=102,o:=true,xs:=t })))
def aNj:(List E9):=[]
abbrev aHf (m:Y102):=eY (cx:=cxT) aWw zX aNj m
theorem aSy:∀ t,bP (zX t)=true\/bG (zX t)=true:=λ_=>.inl rfl
abbrev Y103:=(List Int)->Option (List Int)
def aWv:Args cxT.ty (List Int):=(Args.one (Arg.leaf (LArg.row 2)))
def zW:(List Int)->V cxT.ty:=λt=>(.inl (.inl (ls { own:=2,nm:=0,e:=2,o:=true,xs:=t })))
def aNi:(List Int):=[]
abbrev aKT (m:Y103):=eY (cx:=cxT) aWv zW aNi m
theorem aSx:∀ t,bP (zW t)=true\/bG (zW t)=true:=λ_=>.inl rfl
abbrev Y104:=E9->Option E9
def aWu:Args cxT.ty E9:=(Args.one (Arg.agg (SArg.cons (LArg.int .i64) (SArg.cons (LArg.int .i64) (SArg.cons (LArg.int .i64) (SArg.cons (LArg.int .i64) (SArg.cons (LArg.int .i64) (SArg.cons (LArg.int .i64) (SArg.cons (LArg.int .i64) (SArg.cons (LArg.int .i64) (SArg.one (LArg.int .i64))))))))))))
def aGV:E9->V cxT.ty:=λt=>(.inl (.inr [(lv (.int .i64 t.1)),(lv (.int .i64 t.2.1)),(lv (.int .i64 t.2.2.1)),(lv (.int .i64 t.2.2.2.1)),(lv (.int .i64 t.2.2.2.2.1)),(lv (.int .i64 t.2.2.2.2.2.1)),(lv (.int .i64 t.2.2.2.2.2.2.1)),(lv (.int .i64 t.2.2.2.2.2.2.2.1)),(lv (.int .i64 t.2.2.2.2.2.2.2.2))]))
def aNh:E9:=((0:Int),(0:Int),(0:Int),(0:Int),(0:Int),(0:Int),(0:Int),(0:Int),(0:Int))
abbrev aHe (m:Y104):=eY (cx:=cxT) aWu aGV aNh m
theorem aSw:∀ t,bP (aGV t)=true\/bG (aGV t)=true:=λ_=>.inl rfl
abbrev Y105:=(Int×Int×Int)->Option Bool
def aWt:Args cxT.ty (Int×Int×Int):=(Args.cons (Arg.leaf (LArg.int .i64)) (Args.cons (Arg.leaf (LArg.int .i64)) (Args.one (Arg.leaf (LArg.int .i64)))))
def aGU:Bool->V cxT.ty:=λt=>(.inl (.inl (lv (.bool t))))
def aNg:Bool:=false
abbrev vF (m:Y105):=eY (cx:=cxT) aWt aGU aNg m
theorem aSv:∀ t,bP (aGU t)=true\/bG (aGU t)=true:=λ_=>.inl rfl
abbrev Y106:=N10->Option Int
def aWs:Args cxT.ty N10:=(Args.one (Arg.agg (SArg.cons (LArg.int .i64) (SArg.cons (LArg.int .i64) (SArg.cons (LArg.int .i64) (SArg.cons (LArg.int .i64) (SArg.cons (LArg.row 102) (SArg.cons (LArg.int .i64) (SArg.cons (LArg.int .i64) (SArg.cons (LArg.row 2) (SArg.cons (LArg.row 2) (SArg.one (LArg.row 2)))))))))))))
def aGT:Int->V cxT.ty:=λt=>(.inl (.inl (lv (.int .i64 t))))
def aNf:Int:=(0:Int)
abbrev aHd (m:Y106):=eY (cx:=cxT) aWs aGT aNf m
theorem aSu:∀ t,bP (aGT t)=true\/bG (aGT t)=true:=λ_=>.inl rfl
abbrev Y107:=(N10×M9)->Option Int
def aWr:Args cxT.ty (N10×M9):=(Args.cons (Arg.agg (SArg.cons (LArg.int .i64) (SArg.cons (LArg.int .i64) (SArg.cons (LArg.int .i64) (SArg.cons (LArg.int .i64) (SArg.cons (LArg.row 102) (SArg.cons (LArg.int .i64) (SArg.cons (LArg.int .i64) (SArg.cons (LArg.row 2) (SArg.cons (LArg.row 2) (SArg.one (LArg.row 2)))))))))))) (Args.one (Arg.agg (SArg.cons (LArg.int .i64) (SArg.cons (LArg.int .i64) (SArg.cons (LArg.int .i64) (SArg.cons (LArg.int .i64) (SArg.cons (LArg.int .i64) (SArg.cons (LArg.int .i64) (SArg.cons (LArg.int .i64) (SArg.cons LArg.bool (SArg.one (LArg.row 102)))))))))))))
def aGS:Int->V cxT.ty:=λt=>(.inl (.inl (lv (.int .i64 t))))
def aNe:Int:=(0:Int)
abbrev aKS (m:Y107):=eY (cx:=cxT) aWr aGS aNe m
theorem aSt:∀ t,bP (aGS t)=true\/bG (aGS t)=true:=λ_=>.inl rfl
abbrev Y108:=E9->Option Int
def aWq:Args cxT.ty E9:=(Args.one (Arg.agg (SArg.cons (LArg.int .i64) (SArg.cons (LArg.int .i64) (SArg.cons (LArg.int .i64) (SArg.cons (LArg.int .i64) (SArg.cons (LArg.int .i64) (SArg.cons (LArg.int .i64) (SArg.cons (LArg.int .i64) (SArg.cons (LArg.int .i64) (SArg.one (LArg.int .i64))))))))))))
def aGR:Int->V cxT.ty:=λt=>(.inl (.inl (lv (.int .i64 t))))
def aNd:Int:=(0:Int)
abbrev aHc (m:Y108):=eY (cx:=cxT) aWq aGR aNd m
theorem aSs:∀ t,bP (aGR t)=true\/bG (aGR t)=true:=λ_=>.inl rfl
abbrev Y109:=((List Int)×(List Int))->Option Bool
def aWp:Args cxT.ty ((List Int)×(List Int)):=(Args.cons (Arg.leaf (LArg.row 2)) (Args.one (Arg.leaf (LArg.row 2))))
def zV:Bool->V cxT.ty:=λt=>(.inl (.inl (lv (.bool t))))
def aNc:Bool:=false
abbrev aKR (m:Y109):=eY (cx:=cxT) aWp zV aNc m
theorem aSr:∀ t,bP (zV t)=true\/bG (zV t)=true:=λ_=>.inl rfl
abbrev Y112:=(List E9)->Option Int
def aWo:Args cxT.ty (List E9):=(Args.one (Arg.leaf (LArg.row 102)))
def aGQ:Int->V cxT.ty:=λt=>(.inl (.inl (lv (.int .i64 t))))
def aNb:Int:=(0:Int)
abbrev aD8 (m:Y112):=eY (cx:=cxT) aWo aGQ aNb m
theorem aSq:∀ t,bP (aGQ t)=true\/bG (aGQ t)=true:=λ_=>.inl rfl
abbrev Y113:=((Int×Int×Int×Int×Int×Int)×(Int×Int×Int×Int×Int×Int))->Option Bool
def aWn:Args cxT.ty ((Int×Int×Int×Int×Int×Int)×(Int×Int×Int×Int×Int×Int)):=(Args.cons (Arg.agg (SArg.cons (LArg.int .i64) (SArg.cons (LArg.int .i64) (SArg.cons (LArg.int .i64) (SArg.cons (LArg.int .i64) (SArg.cons (LArg.int .i64) (SArg.one (LArg.int .i64)))))))) (Args.one (Arg.agg (SArg.cons (LArg.int .i64) (SArg.cons (LArg.int .i64) (SArg.cons (LArg.int .i64) (SArg.cons (LArg.int .i64) (SArg.cons (LArg.int .i64) (SArg.one (LArg.int .i64))))))))))
def aGP:Bool->V cxT.ty:=λt=>(.inl (.inl (lv (.bool t))))
def aNa:Bool:=false
abbrev aKQ (m:Y113):=eY (cx:=cxT) aWn aGP aNa m
theorem aSp:∀ t,bP (aGP t)=true\/bG (aGP t)=true:=λ_=>.inl rfl
abbrev Y114:=(List Int)->Option Bool
def aWm:Args cxT.ty (List Int):=(Args.one (Arg.leaf (LArg.row 2)))
def zU:Bool->V cxT.ty:=λt=>(.inl (.inl (lv (.bool t))))
def aM9:Bool:=false
abbrev aKP (m:Y114):=eY (cx:=cxT) aWm zU aM9 m
theorem aSo:∀ t,bP (zU t)=true\/bG (zU t)=true:=λ_=>.inl rfl
abbrev Y115:=Int->Option (Bool×Bool×Bool×Bool)
def aWl:Args cxT.ty Int:=(Args.one (Arg.leaf (LArg.int .i64)))
def aGO:(Bool×Bool×Bool×Bool)->V cxT.ty:=λt=>(.inr (.inl [(.inl (lv (.bool t.1))),(.inl (lv (.bool t.2.1))),(.inl (lv (.bool t.2.2.1))),(.inl (lv (.bool t.2.2.2)))]))
def aM8:(Bool×Bool×Bool×Bool):=(false,false,false,false)
abbrev aVL (m:Y115):=eY (cx:=cxT) aWl aGO aM8 m
theorem aSn:∀ t,bP (aGO t)=true\/bG (aGO t)=true:=λ_=>.inl rfl
abbrev Y116:=Int->Option Bool
def aWk:Args cxT.ty Int:=(Args.one (Arg.leaf (LArg.int .i64)))
def aGN:Bool->V cxT.ty:=λt=>(.inl (.inl (lv (.bool t))))
def aM7:Bool:=false
abbrev aVK (m:Y116):=eY (cx:=cxT) aWk aGN aM7 m
theorem aSm:∀ t,bP (aGN t)=true\/bG (aGN t)=true:=λ_=>.inl rfl
abbrev Y117:=Int->Option Bool
def aWj:Args cxT.ty Int:=(Args.one (Arg.leaf (LArg.int .i64)))
def aGM:Bool->V cxT.ty:=λt=>(.inl (.inl (lv (.bool t))))
def aM6:Bool:=false
abbrev aVJ (m:Y117):=eY (cx:=cxT) aWj aGM aM6 m
theorem aSl:∀ t,bP (aGM t)=true\/bG (aGM t)=true:=λ_=>.inl rfl
abbrev Y118:=Int->Option Bool
def aWi:Args cxT.ty Int:=(Args.one (Arg.leaf (LArg.int .i64)))
def aGL:Bool->V cxT.ty:=λt=>(.inl (.inl (lv (.bool t))))
def aM5:Bool:=false
abbrev aVI (m:Y118):=eY (cx:=cxT) aWi aGL aM5 m
theorem aSk:∀ t,bP (aGL t)=true\/bG (aGL t)=true:=λ_=>.inl rfl
abbrev Y119:=(Int×Int×Int×Int×Int×Int)->Option Bool
def aWh:Args cxT.ty (Int×Int×Int×Int×Int×Int):=(Args.one (Arg.agg (SArg.cons (LArg.int .i64) (SArg.cons (LArg.int .i64) (SArg.cons (LArg.int .i64) (SArg.cons (LArg.int .i64) (SArg.cons (LArg.int .i64) (SArg.one (LArg.int .i64)))))))))
def aGK:Bool->V cxT.ty:=λt=>(.inl (.inl (lv (.bool t))))
def aM4:Bool:=false
abbrev aVH (m:Y119):=eY (cx:=cxT) aWh aGK aM4 m
theorem aSj:∀ t,bP (aGK t)=true\/bG (aGK t)=true:=λ_=>.inl rfl
abbrev Y120:=Int->Option Bool
def aWg:Args cxT.ty Int:=(Args.one (Arg.leaf (LArg.int .i64)))
def aGJ:Bool->V cxT.ty:=λt=>(.inl (.inl (lv (.bool t))))
def aM3:Bool:=false
abbrev aVG (m:Y120):=eY (cx:=cxT) aWg aGJ aM3 m
theorem aSi:∀ t,bP (aGJ t)=true\/bG (aGJ t)=true:=λ_=>.inl rfl
abbrev Y121:=(Int×Int×Int×Int×Int×Int)->Option (Int×Int×Int×Int×Int×Int)
def aWf:Args cxT.ty (Int×Int×Int×Int×Int×Int):=(Args.one (Arg.agg (SArg.cons (LArg.int .i64) (SArg.cons (LArg.int .i64) (SArg.cons (LArg.int .i64) (SArg.cons (LArg.int .i64) (SArg.cons (LArg.int .i64) (SArg.one (LArg.int .i64)))))))))
def aGI:(Int×Int×Int×Int×Int×Int)->V cxT.ty:=λt=>(.inl (.inr [(lv (.int .i64 t.1)),(lv (.int .i64 t.2.1)),(lv (.int .i64 t.2.2.1)),(lv (.int .i64 t.2.2.2.1)),(lv (.int .i64 t.2.2.2.2.1)),(lv (.int .i64 t.2.2.2.2.2))]))
def aM2:(Int×Int×Int×Int×Int×Int):=((0:Int),(0:Int),(0:Int),(0:Int),(0:Int),(0:Int))
abbrev aKO (m:Y121):=eY (cx:=cxT) aWf aGI aM2 m
theorem aSh:∀ t,bP (aGI t)=true\/bG (aGI t)=true:=λ_=>.inl rfl
abbrev Y122:=(Int×Int)->Option Bool
def aWe:Args cxT.ty (Int×Int):=(Args.cons (Arg.leaf (LArg.int .i64)) (Args.one (Arg.leaf (LArg.int .i64))))
def aGH:Bool->V cxT.ty:=λt=>(.inl (.inl (lv (.bool t))))
def aM1:Bool:=false
abbrev aBM (m:Y122):=eY (cx:=cxT) aWe aGH aM1 m
theorem aSg:∀ t,bP (aGH t)=true\/bG (aGH t)=true:=λ_=>.inl rfl
abbrev Y123:=Int->Option Bool
def aWd:Args cxT.ty Int:=(Args.one (Arg.leaf (LArg.int .i64)))
def aGG:Bool->V cxT.ty:=λt=>(.inl (.inl (lv (.bool t))))
def aM0:Bool:=false
abbrev aKN (m:Y123):=eY (cx:=cxT) aWd aGG aM0 m
theorem aSf:∀ t,bP (aGG t)=true\/bG (aGG t)=true:=λ_=>.inl rfl
abbrev Y124:=(Int×Int)->Option Bool
def aWc:Args cxT.ty (Int×Int):=(Args.cons (Arg.leaf (LArg.int .i64)) (Args.one (Arg.leaf (LArg.int .i64))))
def aGF:Bool->V cxT.ty:=λt=>(.inl (.inl (lv (.bool t))))
def aMZ:Bool:=false
abbrev aKM (m:Y124):=eY (cx:=cxT) aWc aGF aMZ m
theorem aSe:∀ t,bP (aGF t)=true\/bG (aGF t)=true:=λ_=>.inl rfl
abbrev Y125:=Int->Option Bool
def aWb:Args cxT.ty Int:=(Args.one (Arg.leaf (LArg.int .i64)))
def aGE:Bool->V cxT.ty:=λt=>(.inl (.inl (lv (.bool t))))
def aMY:Bool:=false
abbrev aKL (m:Y125):=eY (cx:=cxT) aWb aGE aMY m
theorem aSd:∀ t,bP (aGE t)=true\/bG (aGE t)=true:=λ_=>.inl rfl
abbrev Y126:=(List E9)->Option Int
def aWa:Args cxT.ty (List E9):=(Args.one (Arg.leaf (LArg.row 102)))
def zT:Int->V cxT.ty:=λt=>(.inl (.inl (lv (.int .i64 t))))
def aMX:Int:=(0:Int)
abbrev aHb (m:Y126):=eY (cx:=cxT) aWa zT aMX m
theorem aSc:∀ t,bP (zT t)=true\/bG (zT t)=true:=λ_=>.inl rfl
abbrev Y127:=(List E9)->Option E9
def aV9:Args cxT.ty (List E9):=(Args.one (Arg.leaf (LArg.row 102)))
def aGD:E9->V cxT.ty:=λt=>(.inl (.inr [(lv (.int .i64 t.1)),(lv (.int .i64 t.2.1)),(lv (.int .i64 t.2.2.1)),(lv (.int .i64 t.2.2.2.1)),(lv (.int .i64 t.2.2.2.2.1)),(lv (.int .i64 t.2.2.2.2.2.1)),(lv (.int .i64 t.2.2.2.2.2.2.1)),(lv (.int .i64 t.2.2.2.2.2.2.2.1)),(lv (.int .i64 t.2.2.2.2.2.2.2.2))]))
def aMW:E9:=((0:Int),(0:Int),(0:Int),(0:Int),(0:Int),(0:Int),(0:Int),(0:Int),(0:Int))
abbrev aHa (m:Y127):=eY (cx:=cxT) aV9 aGD aMW m
theorem aSb:∀ t,bP (aGD t)=true\/bG (aGD t)=true:=λ_=>.inl rfl
abbrev Y128:=N10->Option Bool
def aV8:Args cxT.ty N10:=(Args.one (Arg.leaf (LArg.ptr 73)))
def zS:Bool->V cxT.ty:=λt=>(.inl (.inl (lv (.bool t))))
def aMV:Bool:=false
abbrev aKK (m:Y128):=eY (cx:=cxT) aV8 zS aMV m
theorem aSa:∀ t,bP (zS t)=true\/bG (zS t)=true:=λ_=>.inl rfl
abbrev Y129:=N10->Option Bool
def aV7:Args cxT.ty N10:=(Args.one (Arg.leaf (LArg.ptr 73)))
def aGC:Bool->V cxT.ty:=λt=>(.inl (.inl (lv (.bool t))))
def aMU:Bool:=false
abbrev aKJ (m:Y129):=eY (cx:=cxT) aV7 aGC aMU m
theorem aR9:∀ t,bP (aGC t)=true\/bG (aGC t)=true:=λ_=>.inl rfl
abbrev Y130:=((List Int)×Int×Int)->Option Bool
def aV6:Args cxT.ty ((List Int)×Int×Int):=(Args.cons (Arg.leaf (LArg.row 2)) (Args.cons (Arg.leaf (LArg.int .i64)) (Args.one (Arg.leaf (LArg.int .i64)))))
def zR:Bool->V cxT.ty:=λt=>(.inl (.inl (lv (.bool t))))
def aMT:Bool:=false
abbrev aKI (m:Y130):=eY (cx:=cxT) aV6 zR aMT m
theorem aR8:∀ t,bP (zR t)=true\/bG (zR t)=true:=λ_=>.inl rfl
abbrev Y131:=M9->Option Bool
def aV5:Args cxT.ty M9:=(Args.one (Arg.agg (SArg.cons (LArg.int .i64) (SArg.cons (LArg.int .i64) (SArg.cons (LArg.int .i64) (SArg.cons (LArg.int .i64) (SArg.cons (LArg.int .i64) (SArg.cons (LArg.int .i64) (SArg.cons (LArg.int .i64) (SArg.cons LArg.bool (SArg.one (LArg.row 102))))))))))))
def aGB:Bool->V cxT.ty:=λt=>(.inl (.inl (lv (.bool t))))
def aMS:Bool:=false
abbrev aKH (m:Y131):=eY (cx:=cxT) aV5 aGB aMS m
theorem aR7:∀ t,bP (aGB t)=true\/bG (aGB t)=true:=λ_=>.inl rfl
abbrev Y132:=M9->Option Bool
def aV4:Args cxT.ty M9:=(Args.one (Arg.agg (SArg.cons (LArg.int .i64) (SArg.cons (LArg.int .i64) (SArg.cons (LArg.int .i64) (SArg.cons (LArg.int .i64) (SArg.cons (LArg.int .i64) (SArg.cons (LArg.int .i64) (SArg.cons (LArg.int .i64) (SArg.cons LArg.bool (SArg.one (LArg.row 102))))))))))))
def aGA:Bool->V cxT.ty:=λt=>(.inl (.inl (lv (.bool t))))
def aMR:Bool:=false
abbrev aKG (m:Y132):=eY (cx:=cxT) aV4 aGA aMR m
theorem aR6:∀ t,bP (aGA t)=true\/bG (aGA t)=true:=λ_=>.inl rfl
abbrev Y133:=M9->Option Bool
def aV3:Args cxT.ty M9:=(Args.one (Arg.agg (SArg.cons (LArg.int .i64) (SArg.cons (LArg.int .i64) (SArg.cons (LArg.int .i64) (SArg.cons (LArg.int .i64) (SArg.cons (LArg.int .i64) (SArg.cons (LArg.int .i64) (SArg.cons (LArg.int .i64) (SArg.cons LArg.bool (SArg.one (LArg.row 102))))))))))))
def aGz:Bool->V cxT.ty:=λt=>(.inl (.inl (lv (.bool t))))
def aMQ:Bool:=false
abbrev aKF (m:Y133):=eY (cx:=cxT) aV3 aGz aMQ m
theorem aR5:∀ t,bP (aGz t)=true\/bG (aGz t)=true:=λ_=>.inl rfl
abbrev Y134:=Int->Option Bool
def aV2:Args cxT.ty Int:=(Args.one (Arg.leaf (LArg.int .i64)))
def aGy:Bool->V cxT.ty:=λt=>(.inl (.inl (lv (.bool t))))
def aMP:Bool:=false
abbrev aKE (m:Y134):=eY (cx:=cxT) aV2 aGy aMP m
theorem aR4:∀ t,bP (aGy t)=true\/bG (aGy t)=true:=λ_=>.inl rfl
abbrev Y135:=Int->Option Bool
def aV1:Args cxT.ty Int:=(Args.one (Arg.leaf (LArg.int .i64)))
def aGx:Bool->V cxT.ty:=λt=>(.inl (.inl (lv (.bool t))))
def aMO:Bool:=false
abbrev aKD (m:Y135):=eY (cx:=cxT) aV1 aGx aMO m
theorem aR3:∀ t,bP (aGx t)=true\/bG (aGx t)=true:=λ_=>.inl rfl
abbrev Y136:=(Int×Int×Int×Int×Int×Int)->Option Int
def bBK:Args cxT.ty (Int×Int×Int×Int×Int×Int):=(Args.one (Arg.agg (SArg.cons (LArg.int .i64) (SArg.cons (LArg.int .i64) (SArg.cons (LArg.int .i64) (SArg.cons (LArg.int .i64) (SArg.cons (LArg.int .i64) (SArg.one (LArg.int .i64)))))))))
def aYT:Int->V cxT.ty:=λt=>(.inl (.inl (lv (.int .i64 t))))
def aVb:Int:=(0:Int)
abbrev aPr (m:Y136):=eY (cx:=cxT) bBK aYT aVb m
abbrev Y137:=Int->Option Bool
def aV0:Args cxT.ty Int:=(Args.one (Arg.leaf (LArg.int .i64)))
def aGw:Bool->V cxT.ty:=λt=>(.inl (.inl (lv (.bool t))))
def aMN:Bool:=false
abbrev aKC (m:Y137):=eY (cx:=cxT) aV0 aGw aMN m
theorem aR2:∀ t,bP (aGw t)=true\/bG (aGw t)=true:=λ_=>.inl rfl
abbrev Y138:=Int->Option Bool
def aVZ:Args cxT.ty Int:=(Args.one (Arg.leaf (LArg.int .i64)))
def aGv:Bool->V cxT.ty:=λt=>(.inl (.inl (lv (.bool t))))
def aMM:Bool:=false
abbrev aVF (m:Y138):=eY (cx:=cxT) aVZ aGv aMM m
theorem aR1:∀ t,bP (aGv t)=true\/bG (aGv t)=true:=λ_=>.inl rfl
abbrev Y140:=Int->Option Bool
def aVY:Args cxT.ty Int:=(Args.one (Arg.leaf (LArg.int .i64)))
def aGu:Bool->V cxT.ty:=λt=>(.inl (.inl (lv (.bool t))))
def aML:Bool:=false
abbrev aVE (m:Y140):=eY (cx:=cxT) aVY aGu aML m
theorem aR0:∀ t,bP (aGu t)=true\/bG (aGu t)=true:=λ_=>.inl rfl
abbrev Y141:=Int->Option Bool
def aVX:Args cxT.ty Int:=(Args.one (Arg.leaf (LArg.int .i64)))
def aGt:Bool->V cxT.ty:=λt=>(.inl (.inl (lv (.bool t))))
def aMK:Bool:=false
abbrev aVD (m:Y141):=eY (cx:=cxT) aVX aGt aMK m
theorem aRZ:∀ t,bP (aGt t)=true\/bG (aGt t)=true:=λ_=>.inl rfl
abbrev Y142:=Int->Option Bool
def aVW:Args cxT.ty Int:=(Args.one (Arg.leaf (LArg.int .i64)))
def aGs:Bool->V cxT.ty:=λt=>(.inl (.inl (lv (.bool t))))
def aMJ:Bool:=false
abbrev aVC (m:Y142):=eY (cx:=cxT) aVW aGs aMJ m
theorem aRY:∀ t,bP (aGs t)=true\/bG (aGs t)=true:=λ_=>.inl rfl
abbrev Y145:=Int->Option Bool
def aVV:Args cxT.ty Int:=(Args.one (Arg.leaf (LArg.int .i64)))
def aGr:Bool->V cxT.ty:=λt=>(.inl (.inl (lv (.bool t))))
def aMI:Bool:=false
abbrev aVB (m:Y145):=eY (cx:=cxT) aVV aGr aMI m
theorem aRX:∀ t,bP (aGr t)=true\/bG (aGr t)=true:=λ_=>.inl rfl
abbrev Y148:=Int->Option Bool
def aVU:Args cxT.ty Int:=(Args.one (Arg.leaf (LArg.int .i64)))
def aGq:Bool->V cxT.ty:=λt=>(.inl (.inl (lv (.bool t))))
def aMH:Bool:=false
abbrev aVA (m:Y148):=eY (cx:=cxT) aVU aGq aMH m
theorem aRW:∀ t,bP (aGq t)=true\/bG (aGq t)=true:=λ_=>.inl rfl
abbrev Y149:=Int->Option Bool
def aVT:Args cxT.ty Int:=(Args.one (Arg.leaf (LArg.int .i64)))
def aGp:Bool->V cxT.ty:=λt=>(.inl (.inl (lv (.bool t))))
def aMG:Bool:=false
abbrev aVz (m:Y149):=eY (cx:=cxT) aVT aGp aMG m
theorem aRV:∀ t,bP (aGp t)=true\/bG (aGp t)=true:=λ_=>.inl rfl
abbrev Y154:=Int->Option Bool
def aVS:Args cxT.ty Int:=(Args.one (Arg.leaf (LArg.int .i64)))
def aGo:Bool->V cxT.ty:=λt=>(.inl (.inl (lv (.bool t))))
def aMF:Bool:=false
abbrev aVy (m:Y154):=eY (cx:=cxT) aVS aGo aMF m
theorem aRU:∀ t,bP (aGo t)=true\/bG (aGo t)=true:=λ_=>.inl rfl
end Go.Proofs.Tryz
