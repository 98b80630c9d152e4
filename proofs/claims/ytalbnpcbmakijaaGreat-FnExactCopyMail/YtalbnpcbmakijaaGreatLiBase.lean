/- A part of the proof of FnExactCopyMail: LiBase, LiCon, LiConB. -/
import Derived.Test.YtalbnpcbmakijaaGreatVmJ
import Derived.Test.YtalbnpcbmakijaaGreatProg
set_option linter.unusedSimpArgs false
set_option linter.unusedVariables false
namespace Go.Proofs.Tryz
open Go Go.VM Go.RowKit
abbrev E9:Type:=Int×Int×Int×Int×Int×Int×Int×Int×Int
abbrev N10:Type:=Int×Int×Int×Int×(List E9)×Int×Int×(List Int)×(List Int)×(List Int)
abbrev M9:Type:=Int×Int×Int×Int×Int×Int×Int×Bool×(List E9)
abbrev S10:Type:=Int×E9
abbrev W2:Type:=Int×Int
abbrev C4:Type:=(List N10)×(List M9)×(List W2)×(List S10)
abbrev R5:Type:=Int×C4
def lH (e:Nat):Type:=if e=2 then Int else if e=3 then Int else if e=5 then Int else if e=126 then E9 else if e=102 then E9 else if e=111 then M9 else if e=78 then M9 else if e=108 then N10 else if e=96 then N10 else if e=123 then Int×Int else if e=66 then Int×Int else if e=128 then S10 else if e=118 then S10 else if e=27 then C4 else if e=35 then C4 else if e=31 then List (M9)else if e=187 then List (E9)else Unit
def bCH (e:Nat):lH e:=
 if h2:e=2 then h2.symm▸(((0:Int):Int):lH 2)else if h3:e=3 then h3.symm▸(((0:Int):Int):lH 3)else if h5:e=5 then h5.symm▸(((0:Int):Int):lH 5)else if h126:e=126 then h126.symm▸(((0,0,0,0,0,0,0,0,0):E9):lH 126)else if h102:e=102 then h102.symm▸(((0,0,0,0,0,0,0,0,0):E9):lH 102)else if h111:e=111 then h111.symm▸(((0,0,0,0,0,0,0,false,[]):M9):lH 111)else if h78:e=78 then h78.symm▸(((0,0,0,0,0,0,0,false,[]):M9):lH 78)else if h108:e=108 then h108.symm▸(((0,0,0,0,[],0,0,[],[],[]):N10):lH 108)else if h96:e=96 then h96.symm▸(((0,0,0,0,[],0,0,[],[],[]):N10):lH 96)else if h123:e=123 then h123.symm▸(((0,0):Int×Int):lH 123)else if h66:e=66 then h66.symm▸(((0,0):Int×Int):lH 66)else if h128:e=128 then h128.symm▸(((0,0,0,0,0,0,0,0,0,0):S10):lH 128)else if h118:e=118 then h118.symm▸(((0,0,0,0,0,0,0,0,0,0):S10):lH 118)else if h27:e=27 then h27.symm▸((([],[],[],[]):C4):lH 27)else if h35:e=35 then h35.symm▸((([],[],[],[]):C4):lH 35)else if h31:e=31 then h31.symm▸(([]:List (M9)):lH 31)else if h187:e=187 then h187.symm▸(([]:List (E9)):lH 187)else(by unfold lH;simp only[*,if_false];exact())
def cd2:Cd lH (lH 2):=dJ .i64
def cd3:Cd lH (lH 3):=dJ .i64
def cd5:Cd lH (lH 5):=dJ .u8
def aYv:Cd lH (lH 126):=cJ (dJ .i64) (cJ (dJ .i64) (cJ (dJ .i64) (cJ (dJ .i64) (cJ (dJ .i64) (cJ (dJ .i64) (cJ (dJ .i64) (cJ (dJ .i64) (dJ .i64))))))))
def aYA:Cd lH (lH 102):=cJ (dJ .i64) (cJ (dJ .i64) (cJ (dJ .i64) (cJ (dJ .i64) (cJ (dJ .i64) (cJ (dJ .i64) (cJ (dJ .i64) (cJ (dJ .i64) (dJ .i64))))))))
def aYy:Cd lH (lH 111):=cJ (dJ .i64) (cJ (dJ .i64) (cJ (dJ .i64) (cJ (dJ .i64) (cJ (dJ .i64) (cJ (dJ .i64) (cJ (dJ .i64) (cJ aK5 (kK 126))))))))
def bFm:Cd lH (lH 78):=cJ (dJ .i64) (cJ (dJ .i64) (cJ (dJ .i64) (cJ (dJ .i64) (cJ (dJ .i64) (cJ (dJ .i64) (cJ (dJ .i64) (cJ aK5 (kK 102))))))))
def aYz:Cd lH (lH 108):=cJ (dJ .i64) (cJ (dJ .i64) (cJ (dJ .i64) (cJ (dJ .i64) (cJ (kK 126) (cJ (dJ .i64) (cJ (dJ .i64) (cJ (kK 2) (cJ (kK 2) (kK 2)))))))))
def bFl:Cd lH (lH 96):=cJ (dJ .i64) (cJ (dJ .i64) (cJ (dJ .i64) (cJ (dJ .i64) (cJ (kK 102) (cJ (dJ .i64) (cJ (dJ .i64) (cJ (kK 2) (cJ (kK 2) (kK 2)))))))))
def aYw:Cd lH (lH 123):=cJ (dJ .i64) (dJ .i64)
def bFn:Cd lH (lH 66):=cJ (dJ .i64) (dJ .i64)
def aYu:Cd lH (lH 128):=cJ (dJ .i64) (cJ (dJ .i64) (cJ (dJ .i64) (cJ (dJ .i64) (cJ (dJ .i64) (cJ (dJ .i64) (cJ (dJ .i64) (cJ (dJ .i64) (cJ (dJ .i64) (dJ .i64)))))))))
def aYx:Cd lH (lH 118):=cJ (dJ .i64) (cJ (dJ .i64) (cJ (dJ .i64) (cJ (dJ .i64) (cJ (dJ .i64) (cJ (dJ .i64) (cJ (dJ .i64) (cJ (dJ .i64) (cJ (dJ .i64) (dJ .i64)))))))))
def bFq:Cd lH (lH 27):=cJ (kK 108) (cJ (kK 111) (cJ (kK 123) (kK 128)))
def bFo:Cd lH (lH 35):=cJ (kK 96) (cJ (kK 78) (cJ (kK 66) (kK 118)))
def bFp:Cd lH (lH 31):=kK 78
def aYt:Cd lH (lH 187):=kK 102
def cdT (e:Nat):Cd lH (lH e):=
 if h:e=2 then h.symm▸cd2 else if h:e=3 then h.symm▸cd3 else if h:e=5 then h.symm▸cd5 else if h:e=126 then h.symm▸aYv else if h:e=102 then h.symm▸aYA else if h:e=111 then h.symm▸aYy else if h:e=78 then h.symm▸bFm else if h:e=108 then h.symm▸aYz else if h:e=96 then h.symm▸bFl else if h:e=123 then h.symm▸aYw else if h:e=66 then h.symm▸bFn else if h:e=128 then h.symm▸aYu else if h:e=118 then h.symm▸aYx else if h:e=27 then h.symm▸bFq else if h:e=35 then h.symm▸bFo else if h:e=31 then h.symm▸bFp else if h:e=187 then h.symm▸aYt else aSo (bCH e)
def cxT:Cx:=Cx.of cdT
theorem bA:cxT.Ok:=Cx.of_ok cdT
set_option maxRecDepth 100000 in
theorem aDc {e:Nat}(h:(cdT e).dom=true):e=2\/e=3\/e=5\/e=126\/e=102\/e=123\/e=66\/e=128\/e=118:=by
 by_cases h0:e=2
 ·exact .inl h0
 by_cases h1:e=3
 ·exact .inr (.inl h1)
 by_cases h2:e=5
 ·exact .inr (.inr (.inl h2))
 by_cases h3:e=126
 ·exact .inr (.inr (.inr (.inl h3)))
 by_cases h4:e=102
 ·exact .inr (.inr (.inr (.inr (.inl h4))))
 by_cases h5:e=111
 ·subst h5;exact absurd h (by intro hh;cases (show false=true from hh))
 by_cases h6:e=78
 ·subst h6;exact absurd h (by intro hh;cases (show false=true from hh))
 by_cases h7:e=108
 ·subst h7;exact absurd h (by intro hh;cases (show false=true from hh))
 by_cases h8:e=96
 ·subst h8;exact absurd h (by intro hh;cases (show false=true from hh))
 by_cases h9:e=123
 ·exact .inr (.inr (.inr (.inr (.inr (.inl h9)))))
 by_cases h10:e=66
 ·exact .inr (.inr (.inr (.inr (.inr (.inr (.inl h10))))))
 by_cases h11:e=128
 ·exact .inr (.inr (.inr (.inr (.inr (.inr (.inr (.inl h11)))))))
 by_cases h12:e=118
 ·exact .inr (.inr (.inr (.inr (.inr (.inr (.inr (.inr (h12))))))))
 by_cases h13:e=27
 ·subst h13;exact absurd h (by intro hh;cases (show false=true from hh))
 by_cases h14:e=35
 ·subst h14;exact absurd h (by intro hh;cases (show false=true from hh))
 by_cases h15:e=31
 ·subst h15;exact absurd h (by intro hh;cases (show false=true from hh))
 by_cases h16:e=187
 ·subst h16;exact absurd h (by intro hh;cases (show false=true from hh))
 ·unfold cdT at h;rw[dif_neg h0,dif_neg h1,dif_neg h2,dif_neg h3,dif_neg h4,dif_neg h5,dif_neg h6,dif_neg h7,dif_neg h8,dif_neg h9,dif_neg h10,dif_neg h11,dif_neg h12,dif_neg h13,dif_neg h14,dif_neg h15,dif_neg h16]at h;exact Bool.noConfusion h
set_option maxRecDepth 100000 in
theorem aW:cxT.POk prog:=by
  refine⟨λe he=>?_,λe he hu o x=>?_⟩
  · rcases aDc he with rfl | rfl | rfl | rfl | rfl | rfl | rfl | rfl | rfl <;>
    exact⟨_,_,rfl,rfl,rfl,by decide,rfl,by decide,rfl⟩
  · rcases aDc he with rfl | rfl | rfl | rfl | rfl | rfl | rfl | rfl | rfl
    · rw[show prog.underlying 2=_ from rfl]at hu;cases hu
    · rw[show prog.underlying 3=_ from rfl]at hu;cases hu
    · exact⟨x,rfl⟩
    · rw[show prog.underlying 126=_ from rfl]at hu;cases hu
    · rw[show prog.underlying 102=_ from rfl]at hu;cases hu
    · rw[show prog.underlying 123=_ from rfl]at hu;cases hu
    · rw[show prog.underlying 66=_ from rfl]at hu;cases hu
    · rw[show prog.underlying 128=_ from rfl]at hu;cases hu
    · rw[show prog.underlying 118=_ from rfl]at hu;cases hu
end Go.Proofs.Tryz
namespace Go.Proofs.Tryz
open Go Go.VM Go.RowKit
abbrev Y3:=C4->Option Bool
def a3:Args cxT.ty C4:=(Args.one (Arg.agg (SArg.cons (LArg.row 108) (SArg.cons (LArg.row 111) (SArg.cons (LArg.row 123) (SArg.one (LArg.row 128)))))))
def n3:Bool->V cxT.ty:=λt=>(.inl (.inl (lv (.bool t))))
def dd3:Bool:=false
abbrev c3 (m:Y3):=fE (cx:=cxT) a3 n3 dd3 m
theorem hs3:∀ t,bN (n3 t)=true\/bH (n3 t)=true:=λ_=>.inl rfl
abbrev Y4:=(C4×Int)->Option Bool
def a4:Args cxT.ty (C4×Int):=(Args.cons (Arg.agg (SArg.cons (LArg.row 108) (SArg.cons (LArg.row 111) (SArg.cons (LArg.row 123) (SArg.one (LArg.row 128)))))) (Args.one (Arg.leaf (LArg.int .i64))))
def n4:Bool->V cxT.ty:=λt=>(.inl (.inl (lv (.bool t))))
def dd4:Bool:=false
abbrev c4 (m:Y4):=fE (cx:=cxT) a4 n4 dd4 m
abbrev Y5:=(C4×Int)->Option Bool
def a5:Args cxT.ty (C4×Int):=(Args.cons (Arg.agg (SArg.cons (LArg.row 108) (SArg.cons (LArg.row 111) (SArg.cons (LArg.row 123) (SArg.one (LArg.row 128)))))) (Args.one (Arg.leaf (LArg.int .i64))))
def n5:Bool->V cxT.ty:=λt=>(.inl (.inl (lv (.bool t))))
def dd5:Bool:=false
abbrev c5 (m:Y5):=fE (cx:=cxT) a5 n5 dd5 m
theorem hs5:∀ t,bN (n5 t)=true\/bH (n5 t)=true:=λ_=>.inl rfl
def a6:Args cxT.ty (C4×Int):=(Args.cons (Arg.agg (SArg.cons (LArg.row 108) (SArg.cons (LArg.row 111) (SArg.cons (LArg.row 123) (SArg.one (LArg.row 128)))))) (Args.one (Arg.leaf (LArg.int .i64))))
def n6:Bool->V cxT.ty:=λt=>(.inl (.inl (lv (.bool t))))
abbrev Y7:=(C4×Int)->Option Bool
def a7:Args cxT.ty (C4×Int):=(Args.cons (Arg.agg (SArg.cons (LArg.row 108) (SArg.cons (LArg.row 111) (SArg.cons (LArg.row 123) (SArg.one (LArg.row 128)))))) (Args.one (Arg.leaf (LArg.int .i64))))
def n7:Bool->V cxT.ty:=λt=>(.inl (.inl (lv (.bool t))))
def dd7:Bool:=false
abbrev c7 (m:Y7):=fE (cx:=cxT) a7 n7 dd7 m
def n8:Bool->V cxT.ty:=λt=>(.inl (.inl (lv (.bool t))))
def n9:Bool->V cxT.ty:=λt=>(.inl (.inl (lv (.bool t))))
abbrev Y11:=(C4×Int)->Option Int
def a11:Args cxT.ty (C4×Int):=(Args.cons (Arg.agg (SArg.cons (LArg.row 108) (SArg.cons (LArg.row 111) (SArg.cons (LArg.row 123) (SArg.one (LArg.row 128)))))) (Args.one (Arg.leaf (LArg.int .i64))))
def n11:Int->V cxT.ty:=λt=>(.inl (.inl (lv (.int .i64 t))))
def aYr:Int:=(0:Int)
abbrev c11 (m:Y11):=fE (cx:=cxT) a11 n11 aYr m
theorem bDE:∀ t,bN (n11 t)=true\/bH (n11 t)=true:=λ_=>.inl rfl
abbrev Y12:=C4->Option Int
def a12:Args cxT.ty C4:=(Args.one (Arg.agg (SArg.cons (LArg.row 96) (SArg.cons (LArg.row 78) (SArg.cons (LArg.row 66) (SArg.one (LArg.row 118)))))))
def n12:Int->V cxT.ty:=λt=>(.inl (.inl (lv (.int .i64 t))))
def bFk:Int:=(0:Int)
abbrev c12 (m:Y12):=fE (cx:=cxT) a12 n12 bFk m
abbrev Y13:=C4->Option C4
def a13:Args cxT.ty C4:=(Args.one (Arg.agg (SArg.cons (LArg.row 108) (SArg.cons (LArg.row 111) (SArg.cons (LArg.row 123) (SArg.one (LArg.row 128)))))))
def n13:C4->V cxT.ty:=λt=>(.inl (.inr [(ls { own:=2,nm:=0,e:=96,o:=true,xs:=t.1 }),(ls { own:=2,nm:=0,e:=78,o:=true,xs:=t.2.1 }),(ls { own:=2,nm:=0,e:=66,o:=true,xs:=t.2.2.1 }),(ls { own:=2,nm:=0,e:=118,o:=true,xs:=t.2.2.2 })]))
def aYq:C4:=([],[],[],[])
abbrev c13 (m:Y13):=fE (cx:=cxT) a13 n13 aYq m
theorem bDD:∀ t,bN (n13 t)=true\/bH (n13 t)=true:=λ_=>.inl rfl
abbrev Y14:=C4->Option Int
def a14:Args cxT.ty C4:=(Args.one (Arg.agg (SArg.cons (LArg.row 96) (SArg.cons (LArg.row 78) (SArg.cons (LArg.row 66) (SArg.one (LArg.row 118)))))))
def n14:Int->V cxT.ty:=λt=>(.inl (.inl (lv (.int .i64 t))))
def aYo:Int:=(0:Int)
abbrev c14 (m:Y14):=fE (cx:=cxT) a14 n14 aYo m
theorem bDC:∀ t,bN (n14 t)=true\/bH (n14 t)=true:=λ_=>.inl rfl
abbrev Y15:=(C4×C4)->Option Bool
def a15:Args cxT.ty (C4×C4):=(Args.cons (Arg.agg (SArg.cons (LArg.row 96) (SArg.cons (LArg.row 78) (SArg.cons (LArg.row 66) (SArg.one (LArg.row 118)))))) (Args.one (Arg.agg (SArg.cons (LArg.row 96) (SArg.cons (LArg.row 78) (SArg.cons (LArg.row 66) (SArg.one (LArg.row 118))))))))
def n15:Bool->V cxT.ty:=λt=>(.inl (.inl (lv (.bool t))))
def aYn:Bool:=false
abbrev c15 (m:Y15):=fE (cx:=cxT) a15 n15 aYn m
theorem bDB:∀ t,bN (n15 t)=true\/bH (n15 t)=true:=λ_=>.inl rfl
abbrev Y18:=(R5×R5)->Option Bool
def a18:Args cxT.ty (R5×R5):=(Args.cons (Arg.agg (SArg.cons (LArg.int .i64) (SArg.cons (LArg.row 96) (SArg.cons (LArg.row 78) (SArg.cons (LArg.row 66) (SArg.one (LArg.row 118))))))) (Args.one (Arg.agg (SArg.cons (LArg.int .i64) (SArg.cons (LArg.row 96) (SArg.cons (LArg.row 78) (SArg.cons (LArg.row 66) (SArg.one (LArg.row 118)))))))))
def n18:Bool->V cxT.ty:=λt=>(.inl (.inl (lv (.bool t))))
def aYl:Bool:=false
abbrev c18 (m:Y18):=fE (cx:=cxT) a18 n18 aYl m
theorem bDA:∀ t,bN (n18 t)=true\/bH (n18 t)=true:=λ_=>.inl rfl
abbrev Y19:=(C4×Int)->Option R5
def a19:Args cxT.ty (C4×Int):=(Args.cons (Arg.agg (SArg.cons (LArg.own 96) (SArg.cons (LArg.own 78) (SArg.cons (LArg.own 66) (SArg.one (LArg.own 118)))))) (Args.one (Arg.leaf (LArg.int .i64))))
def n19:R5->List (A cxT.ty):=λt=>[(.inl (lv (.int .i64 t.1))),(.inr [(ls { own:=2,nm:=0,e:=96,o:=true,xs:=t.2.1 }),(ls { own:=2,nm:=0,e:=78,o:=true,xs:=t.2.2.1 }),(ls { own:=2,nm:=0,e:=66,o:=true,xs:=t.2.2.2.1 }),(ls { own:=2,nm:=0,e:=118,o:=true,xs:=t.2.2.2.2 })])]
def aYk:R5:=((0:Int),[],[],[],[])
abbrev c19 (m:Y19):WFn cxT:={ nres:=1,n:=1,F:=fnW (cx:=cxT) a19 n19 aYk m,p:=4 }
theorem bDz:∀ t,bN (.inr (.inl (n19 t)):V cxT.ty)=true:=λ_=>rfl
abbrev Y20:=(R5×Int)->Option (Int×Int×(List N10)×(List M9)×(List W2)×(List S10))
def a20:Args cxT.ty (R5×Int):=(Args.cons (Arg.agg (SArg.cons (LArg.int .i64) (SArg.cons (LArg.own 96) (SArg.cons (LArg.own 78) (SArg.cons (LArg.own 66) (SArg.one (LArg.own 118))))))) (Args.one (Arg.leaf (LArg.int .i64))))
def n20:(Int×Int×(List N10)×(List M9)×(List W2)×(List S10))->List (A cxT.ty):=λt=>[(.inl (lv (.int .i64 t.1))),(.inr [(lv (.int .i64 t.2.1)),(ls { own:=2,nm:=0,e:=96,o:=true,xs:=t.2.2.1 }),(ls { own:=2,nm:=0,e:=78,o:=true,xs:=t.2.2.2.1 }),(ls { own:=2,nm:=0,e:=66,o:=true,xs:=t.2.2.2.2.1 }),(ls { own:=2,nm:=0,e:=118,o:=true,xs:=t.2.2.2.2.2 })])]
def aYj:(Int×Int×(List N10)×(List M9)×(List W2)×(List S10)):=((0:Int),(0:Int),[],[],[],[])
abbrev c20 (m:Y20):WFn cxT:={ nres:=1,n:=1,F:=fnW (cx:=cxT) a20 n20 aYj m,p:=4 }
theorem bDy:∀ t,bN (.inr (.inl (n20 t)):V cxT.ty)=true:=λ_=>rfl
abbrev Y21:=(R5×Int)->Option Int
def a21:Args cxT.ty (R5×Int):=(Args.cons (Arg.agg (SArg.cons (LArg.int .i64) (SArg.cons (LArg.row 96) (SArg.cons (LArg.row 78) (SArg.cons (LArg.row 66) (SArg.one (LArg.row 118))))))) (Args.one (Arg.leaf (LArg.int .i64))))
def n21:Int->V cxT.ty:=λt=>(.inl (.inl (lv (.int .i64 t))))
def aYi:Int:=(0:Int)
abbrev c21 (m:Y21):=fE (cx:=cxT) a21 n21 aYi m
theorem bDx:∀ t,bN (n21 t)=true\/bH (n21 t)=true:=λ_=>.inl rfl
abbrev Y22:=(C4×Int)->Option R5
def a22:Args cxT.ty (C4×Int):=(Args.cons (Arg.agg (SArg.cons (LArg.row 96) (SArg.cons (LArg.row 78) (SArg.cons (LArg.row 66) (SArg.one (LArg.row 118)))))) (Args.one (Arg.leaf (LArg.int .i64))))
def n22:R5->V cxT.ty:=λt=>(.inl (.inr [(lv (.int .i64 t.1)),(ls { own:=2,nm:=0,e:=96,o:=true,xs:=t.2.1 }),(ls { own:=2,nm:=0,e:=78,o:=true,xs:=t.2.2.1 }),(ls { own:=2,nm:=0,e:=66,o:=true,xs:=t.2.2.2.1 }),(ls { own:=2,nm:=0,e:=118,o:=true,xs:=t.2.2.2.2 })]))
def aYh:R5:=((0:Int),[],[],[],[])
abbrev c22 (m:Y22):=fE (cx:=cxT) a22 n22 aYh m
theorem bDw:∀ t,bN (n22 t)=true\/bH (n22 t)=true:=λ_=>.inl rfl
abbrev Y23:=(C4×Int)->Option R5
def a23:Args cxT.ty (C4×Int):=(Args.cons (Arg.agg (SArg.cons (LArg.row 96) (SArg.cons (LArg.row 78) (SArg.cons (LArg.row 66) (SArg.one (LArg.row 118)))))) (Args.one (Arg.leaf (LArg.int .i64))))
def n23:R5->V cxT.ty:=λt=>(.inl (.inr [(lv (.int .i64 t.1)),(ls { own:=2,nm:=0,e:=96,o:=true,xs:=t.2.1 }),(ls { own:=2,nm:=0,e:=78,o:=true,xs:=t.2.2.1 }),(ls { own:=2,nm:=0,e:=66,o:=true,xs:=t.2.2.2.1 }),(ls { own:=2,nm:=0,e:=118,o:=true,xs:=t.2.2.2.2 })]))
def aYg:R5:=((0:Int),[],[],[],[])
abbrev c23 (m:Y23):=fE (cx:=cxT) a23 n23 aYg m
theorem bDv:∀ t,bN (n23 t)=true\/bH (n23 t)=true:=λ_=>.inl rfl
abbrev Y31:=(Int×Int×Int×Int×Int×Int)->Option (Int×Int×Int×Int×Int×Int)
def a31:Args cxT.ty (Int×Int×Int×Int×Int×Int):=(Args.one (Arg.agg (SArg.cons (LArg.int .i64) (SArg.cons (LArg.int .i64) (SArg.cons (LArg.int .i64) (SArg.cons (LArg.int .i64) (SArg.cons (LArg.int .i64) (SArg.one (LArg.int .i64)))))))))
def n31:(Int×Int×Int×Int×Int×Int)->V cxT.ty:=λt=>(.inl (.inr [(lv (.int .i64 t.1)),(lv (.int .i64 t.2.1)),(lv (.int .i64 t.2.2.1)),(lv (.int .i64 t.2.2.2.1)),(lv (.int .i64 t.2.2.2.2.1)),(lv (.int .i64 t.2.2.2.2.2))]))
def aYf:(Int×Int×Int×Int×Int×Int):=((0:Int),(0:Int),(0:Int),(0:Int),(0:Int),(0:Int))
abbrev c31 (m:Y31):=fE (cx:=cxT) a31 n31 aYf m
theorem bDu:∀ t,bN (n31 t)=true\/bH (n31 t)=true:=λ_=>.inl rfl
abbrev Y35:=((List N10)×Int)->Option Int
def a35:Args cxT.ty ((List N10)×Int):=(Args.cons (Arg.leaf (LArg.row 108)) (Args.one (Arg.leaf (LArg.int .i64))))
def n35:Int->V cxT.ty:=λt=>(.inl (.inl (lv (.int .i64 t))))
def aYe:Int:=(0:Int)
abbrev c35 (m:Y35):=fE (cx:=cxT) a35 n35 aYe m
theorem bDt:∀ t,bN (n35 t)=true\/bH (n35 t)=true:=λ_=>.inl rfl
abbrev Y36:=((List M9)×Int)->Option Int
def a36:Args cxT.ty ((List M9)×Int):=(Args.cons (Arg.leaf (LArg.row 111)) (Args.one (Arg.leaf (LArg.int .i64))))
def n36:Int->V cxT.ty:=λt=>(.inl (.inl (lv (.int .i64 t))))
def aYd:Int:=(0:Int)
abbrev c36 (m:Y36):=fE (cx:=cxT) a36 n36 aYd m
theorem bDs:∀ t,bN (n36 t)=true\/bH (n36 t)=true:=λ_=>.inl rfl
abbrev Y37:=((List W2)×Int)->Option Int
def a37:Args cxT.ty ((List W2)×Int):=(Args.cons (Arg.leaf (LArg.row 123)) (Args.one (Arg.leaf (LArg.int .i64))))
def n37:Int->V cxT.ty:=λt=>(.inl (.inl (lv (.int .i64 t))))
def aYc:Int:=(0:Int)
abbrev c37 (m:Y37):=fE (cx:=cxT) a37 n37 aYc m
theorem bDr:∀ t,bN (n37 t)=true\/bH (n37 t)=true:=λ_=>.inl rfl
abbrev Y38:=((List S10)×Int)->Option Int
def a38:Args cxT.ty ((List S10)×Int):=(Args.cons (Arg.leaf (LArg.row 128)) (Args.one (Arg.leaf (LArg.int .i64))))
def n38:Int->V cxT.ty:=λt=>(.inl (.inl (lv (.int .i64 t))))
def aYb:Int:=(0:Int)
abbrev c38 (m:Y38):=fE (cx:=cxT) a38 n38 aYb m
theorem bDq:∀ t,bN (n38 t)=true\/bH (n38 t)=true:=λ_=>.inl rfl
abbrev Y39:=C4->Option Int
def a39:Args cxT.ty C4:=(Args.one (Arg.leaf (LArg.ptr 35)))
def yT:Int->V cxT.ty:=λt=>(.inl (.inl (lv (.int .i64 t))))
def aYa:Int:=(0:Int)
abbrev c39 (m:Y39):=fE (cx:=cxT) a39 yT aYa m
theorem bDp:∀ t,bN (yT t)=true\/bH (yT t)=true:=λ_=>.inl rfl
abbrev Y40:=(List N10)->Option (List N10)
def a40:Args cxT.ty (List N10):=(Args.one (Arg.leaf (LArg.row 108)))
def n40:(List N10)->V cxT.ty:=λt=>(.inl (.inl (ls { own:=2,nm:=0,e:=96,o:=true,xs:=t })))
def aX9:(List N10):=[]
abbrev c40 (m:Y40):=fE (cx:=cxT) a40 n40 aX9 m
theorem bDo:∀ t,bN (n40 t)=true\/bH (n40 t)=true:=λ_=>.inl rfl
abbrev Y41:=(List M9)->Option (List M9)
def a41:Args cxT.ty (List M9):=(Args.one (Arg.leaf (LArg.row 111)))
def n41:(List M9)->V cxT.ty:=λt=>(.inl (.inl (ls { own:=2,nm:=0,e:=78,o:=true,xs:=t })))
def aX8:(List M9):=[]
abbrev c41 (m:Y41):=fE (cx:=cxT) a41 n41 aX8 m
theorem bDn:∀ t,bN (n41 t)=true\/bH (n41 t)=true:=λ_=>.inl rfl
abbrev Y42:=(List W2)->Option (List W2)
def a42:Args cxT.ty (List W2):=(Args.one (Arg.leaf (LArg.row 123)))
def n42:(List W2)->V cxT.ty:=λt=>(.inl (.inl (ls { own:=2,nm:=0,e:=66,o:=true,xs:=t })))
def aX7:(List W2):=[]
abbrev c42 (m:Y42):=fE (cx:=cxT) a42 n42 aX7 m
theorem bDm:∀ t,bN (n42 t)=true\/bH (n42 t)=true:=λ_=>.inl rfl
abbrev Y43:=(List S10)->Option (List S10)
def a43:Args cxT.ty (List S10):=(Args.one (Arg.leaf (LArg.row 128)))
def n43:(List S10)->V cxT.ty:=λt=>(.inl (.inl (ls { own:=2,nm:=0,e:=118,o:=true,xs:=t })))
def aX6:(List S10):=[]
abbrev c43 (m:Y43):=fE (cx:=cxT) a43 n43 aX6 m
theorem bDl:∀ t,bN (n43 t)=true\/bH (n43 t)=true:=λ_=>.inl rfl
abbrev Y44:=Int->Option Bool
def a44:Args cxT.ty Int:=(Args.one (Arg.leaf (LArg.int .i64)))
def n44:Bool->V cxT.ty:=λt=>(.inl (.inl (lv (.bool t))))
def aX5:Bool:=false
abbrev c44 (m:Y44):=fE (cx:=cxT) a44 n44 aX5 m
theorem bDk:∀ t,bN (n44 t)=true\/bH (n44 t)=true:=λ_=>.inl rfl
abbrev Y45:=(List N10)->Option Int
def a45:Args cxT.ty (List N10):=(Args.one (Arg.leaf (LArg.row 96)))
def n45:Int->V cxT.ty:=λt=>(.inl (.inl (lv (.int .i64 t))))
def aX4:Int:=(0:Int)
abbrev c45 (m:Y45):=fE (cx:=cxT) a45 n45 aX4 m
theorem bDj:∀ t,bN (n45 t)=true\/bH (n45 t)=true:=λ_=>.inl rfl
abbrev Y46:=((List N10)×(List M9))->Option Int
def a46:Args cxT.ty ((List N10)×(List M9)):=(Args.cons (Arg.leaf (LArg.row 96)) (Args.one (Arg.leaf (LArg.row 78))))
def n46:Int->V cxT.ty:=λt=>(.inl (.inl (lv (.int .i64 t))))
def aX3:Int:=(0:Int)
abbrev c46 (m:Y46):=fE (cx:=cxT) a46 n46 aX3 m
theorem bDi:∀ t,bN (n46 t)=true\/bH (n46 t)=true:=λ_=>.inl rfl
abbrev Y47:=Int->Option Bool
def a47:Args cxT.ty Int:=(Args.one (Arg.leaf (LArg.int .i64)))
def n47:Bool->V cxT.ty:=λt=>(.inl (.inl (lv (.bool t))))
def aX2:Bool:=false
abbrev c47 (m:Y47):=fE (cx:=cxT) a47 n47 aX2 m
theorem bDh:∀ t,bN (n47 t)=true\/bH (n47 t)=true:=λ_=>.inl rfl
abbrev Y48:=(Int×Int)->Option Bool
def a48:Args cxT.ty (Int×Int):=(Args.cons (Arg.leaf (LArg.int .i64)) (Args.one (Arg.leaf (LArg.int .i64))))
def n48:Bool->V cxT.ty:=λt=>(.inl (.inl (lv (.bool t))))
def aX1:Bool:=false
abbrev c48 (m:Y48):=fE (cx:=cxT) a48 n48 aX1 m
theorem bDg:∀ t,bN (n48 t)=true\/bH (n48 t)=true:=λ_=>.inl rfl
abbrev Y49:=(List S10)->Option Int
def a49:Args cxT.ty (List S10):=(Args.one (Arg.leaf (LArg.row 118)))
def n49:Int->V cxT.ty:=λt=>(.inl (.inl (lv (.int .i64 t))))
def aX0:Int:=(0:Int)
abbrev c49 (m:Y49):=fE (cx:=cxT) a49 n49 aX0 m
theorem bDf:∀ t,bN (n49 t)=true\/bH (n49 t)=true:=λ_=>.inl rfl
abbrev Y50:=((List N10)×(List N10))->Option Bool
def a50:Args cxT.ty ((List N10)×(List N10)):=(Args.cons (Arg.leaf (LArg.row 96)) (Args.one (Arg.leaf (LArg.row 96))))
def n50:Bool->V cxT.ty:=λt=>(.inl (.inl (lv (.bool t))))
def aXZ:Bool:=false
abbrev c50 (m:Y50):=fE (cx:=cxT) a50 n50 aXZ m
theorem bDe:∀ t,bN (n50 t)=true\/bH (n50 t)=true:=λ_=>.inl rfl
abbrev Y51:=((List M9)×(List M9))->Option Bool
def a51:Args cxT.ty ((List M9)×(List M9)):=(Args.cons (Arg.leaf (LArg.row 78)) (Args.one (Arg.leaf (LArg.row 78))))
def n51:Bool->V cxT.ty:=λt=>(.inl (.inl (lv (.bool t))))
def aXY:Bool:=false
abbrev c51 (m:Y51):=fE (cx:=cxT) a51 n51 aXY m
theorem bDd:∀ t,bN (n51 t)=true\/bH (n51 t)=true:=λ_=>.inl rfl
abbrev Y52:=((List W2)×(List W2))->Option Bool
def a52:Args cxT.ty ((List W2)×(List W2)):=(Args.cons (Arg.leaf (LArg.row 66)) (Args.one (Arg.leaf (LArg.row 66))))
def n52:Bool->V cxT.ty:=λt=>(.inl (.inl (lv (.bool t))))
def aXX:Bool:=false
abbrev c52 (m:Y52):=fE (cx:=cxT) a52 n52 aXX m
theorem bDc:∀ t,bN (n52 t)=true\/bH (n52 t)=true:=λ_=>.inl rfl
abbrev Y53:=((List S10)×(List S10))->Option Bool
def a53:Args cxT.ty ((List S10)×(List S10)):=(Args.cons (Arg.leaf (LArg.row 118)) (Args.one (Arg.leaf (LArg.row 118))))
def n53:Bool->V cxT.ty:=λt=>(.inl (.inl (lv (.bool t))))
def aXW:Bool:=false
abbrev c53 (m:Y53):=fE (cx:=cxT) a53 n53 aXW m
theorem bDb:∀ t,bN (n53 t)=true\/bH (n53 t)=true:=λ_=>.inl rfl
abbrev Y54:=(C4×Int)->Option Int
def a54:Args cxT.ty (C4×Int):=(Args.cons (Arg.leaf (LArg.ptr 35)) (Args.one (Arg.leaf (LArg.int .i64))))
def n54:Int->V cxT.ty:=λt=>(.inl (.inl (lv (.int .i64 t))))
def aXV:Int:=(0:Int)
abbrev c54 (m:Y54):=fE (cx:=cxT) a54 n54 aXV m
theorem bDa:∀ t,bN (n54 t)=true\/bH (n54 t)=true:=λ_=>.inl rfl
abbrev Y55:=Int->Option R5
def a55:Args cxT.ty Int:=(Args.one (Arg.leaf (LArg.int .i64)))
def n55:R5->V cxT.ty:=λt=>(.inl (.inr [(lv (.int .i64 t.1)),(ls { own:=2,nm:=0,e:=96,o:=true,xs:=t.2.1 }),(ls { own:=2,nm:=0,e:=78,o:=true,xs:=t.2.2.1 }),(ls { own:=2,nm:=0,e:=66,o:=true,xs:=t.2.2.2.1 }),(ls { own:=2,nm:=0,e:=118,o:=true,xs:=t.2.2.2.2 })]))
def aXU:R5:=((0:Int),[],[],[],[])
abbrev c55 (m:Y55):=fE (cx:=cxT) a55 n55 aXU m
theorem bC9:∀ t,bN (n55 t)=true\/bH (n55 t)=true:=λ_=>.inl rfl
abbrev Y57:=(C4×Int×Int)->Option Int
def a57:Args cxT.ty (C4×Int×Int):=(Args.cons (Arg.agg (SArg.cons (LArg.row 96) (SArg.cons (LArg.row 78) (SArg.cons (LArg.row 66) (SArg.one (LArg.row 118)))))) (Args.cons (Arg.leaf (LArg.int .i64)) (Args.one (Arg.leaf (LArg.int .i64)))))
def n57:Int->V cxT.ty:=λt=>(.inl (.inl (lv (.int .i64 t))))
def aXT:Int:=(0:Int)
abbrev c57 (m:Y57):=fE (cx:=cxT) a57 n57 aXT m
theorem bC8:∀ t,bN (n57 t)=true\/bH (n57 t)=true:=λ_=>.inl rfl
abbrev Y61:=((List N10)×Int)->Option (Int×(List N10))
def a61:Args cxT.ty ((List N10)×Int):=(Args.cons (Arg.leaf (LArg.own 96)) (Args.one (Arg.leaf (LArg.int .i64))))
def n61:(Int×(List N10))->List (A cxT.ty):=λt=>[(.inl (lv (.int .i64 t.1))),(.inl (ls { own:=2,nm:=0,e:=96,o:=true,xs:=t.2 }))]
def aXS:(Int×(List N10)):=((0:Int),[])
abbrev c61 (m:Y61):WFn cxT:={ nres:=1,n:=1,F:=fnW (cx:=cxT) a61 n61 aXS m,p:=4 }
theorem bC7:∀ t,bN (.inr (.inl (n61 t)):V cxT.ty)=true:=λ_=>rfl
abbrev Y62:=((List M9)×Int)->Option (Int×(List M9))
def a62:Args cxT.ty ((List M9)×Int):=(Args.cons (Arg.leaf (LArg.own 78)) (Args.one (Arg.leaf (LArg.int .i64))))
def n62:(Int×(List M9))->List (A cxT.ty):=λt=>[(.inl (lv (.int .i64 t.1))),(.inl (ls { own:=2,nm:=0,e:=78,o:=true,xs:=t.2 }))]
def aXR:(Int×(List M9)):=((0:Int),[])
abbrev c62 (m:Y62):WFn cxT:={ nres:=1,n:=1,F:=fnW (cx:=cxT) a62 n62 aXR m,p:=4 }
theorem bC6:∀ t,bN (.inr (.inl (n62 t)):V cxT.ty)=true:=λ_=>rfl
abbrev Y63:=((List W2)×Int)->Option (Int×(List W2))
def a63:Args cxT.ty ((List W2)×Int):=(Args.cons (Arg.leaf (LArg.own 66)) (Args.one (Arg.leaf (LArg.int .i64))))
def n63:(Int×(List W2))->List (A cxT.ty):=λt=>[(.inl (lv (.int .i64 t.1))),(.inl (ls { own:=2,nm:=0,e:=66,o:=true,xs:=t.2 }))]
def aXQ:(Int×(List W2)):=((0:Int),[])
abbrev c63 (m:Y63):WFn cxT:={ nres:=1,n:=1,F:=fnW (cx:=cxT) a63 n63 aXQ m }
theorem bC5:∀ t,bN (.inr (.inl (n63 t)):V cxT.ty)=true:=λ_=>rfl
abbrev Y64:=((List S10)×Int)->Option (Int×(List S10))
def a64:Args cxT.ty ((List S10)×Int):=(Args.cons (Arg.leaf (LArg.own 118)) (Args.one (Arg.leaf (LArg.int .i64))))
def n64:(Int×(List S10))->List (A cxT.ty):=λt=>[(.inl (lv (.int .i64 t.1))),(.inl (ls { own:=2,nm:=0,e:=118,o:=true,xs:=t.2 }))]
def aXP:(Int×(List S10)):=((0:Int),[])
abbrev c64 (m:Y64):WFn cxT:={ nres:=1,n:=1,F:=fnW (cx:=cxT) a64 n64 aXP m }
theorem bC4:∀ t,bN (.inr (.inl (n64 t)):V cxT.ty)=true:=λ_=>rfl
abbrev Y65:=(C4×Int)->Option Int
def a65:Args cxT.ty (C4×Int):=(Args.cons (Arg.agg (SArg.cons (LArg.row 96) (SArg.cons (LArg.row 78) (SArg.cons (LArg.row 66) (SArg.one (LArg.row 118)))))) (Args.one (Arg.leaf (LArg.int .i64))))
def n65:Int->V cxT.ty:=λt=>(.inl (.inl (lv (.int .i64 t))))
def aXO:Int:=(0:Int)
abbrev c65 (m:Y65):=fE (cx:=cxT) a65 n65 aXO m
theorem bC3:∀ t,bN (n65 t)=true\/bH (n65 t)=true:=λ_=>.inl rfl
abbrev Y66:=C4->Option C4
def a66:Args cxT.ty C4:=(Args.one (Arg.agg (SArg.cons (LArg.row 96) (SArg.cons (LArg.row 78) (SArg.cons (LArg.row 66) (SArg.one (LArg.row 118)))))))
def n66:C4->V cxT.ty:=λt=>(.inl (.inr [(ls { own:=2,nm:=0,e:=96,o:=true,xs:=t.1 }),(ls { own:=2,nm:=0,e:=78,o:=true,xs:=t.2.1 }),(ls { own:=2,nm:=0,e:=66,o:=true,xs:=t.2.2.1 }),(ls { own:=2,nm:=0,e:=118,o:=true,xs:=t.2.2.2 })]))
def aXN:C4:=([],[],[],[])
abbrev c66 (m:Y66):=fE (cx:=cxT) a66 n66 aXN m
theorem bC2:∀ t,bN (n66 t)=true\/bH (n66 t)=true:=λ_=>.inl rfl
abbrev Y67:=(List M9)->Option (List M9)
def a67:Args cxT.ty (List M9):=(Args.one (Arg.leaf (LArg.row 78)))
def n67:(List M9)->V cxT.ty:=λt=>(.inl (.inl (ls { own:=2,nm:=0,e:=78,o:=true,xs:=t })))
def aXM:(List M9):=[]
abbrev c67 (m:Y67):=fE (cx:=cxT) a67 n67 aXM m
theorem bC1:∀ t,bN (n67 t)=true\/bH (n67 t)=true:=λ_=>.inl rfl
abbrev Y68:=C4->Option C4
def a68:Args cxT.ty C4:=(Args.one (Arg.agg (SArg.cons (LArg.row 96) (SArg.cons (LArg.row 78) (SArg.cons (LArg.row 66) (SArg.one (LArg.row 118)))))))
def n68:C4->V cxT.ty:=λt=>(.inl (.inr [(ls { own:=2,nm:=0,e:=96,o:=true,xs:=t.1 }),(ls { own:=2,nm:=0,e:=78,o:=true,xs:=t.2.1 }),(ls { own:=2,nm:=0,e:=66,o:=true,xs:=t.2.2.1 }),(ls { own:=2,nm:=0,e:=118,o:=true,xs:=t.2.2.2 })]))
def bFj:C4:=([],[],[],[])
abbrev c68 (m:Y68):=fE (cx:=cxT) a68 n68 bFj m
abbrev Y70:=(List M9)->Option (List M9)
def a70:Args cxT.ty (List M9):=(Args.one (Arg.leaf (LArg.row 78)))
def n70:(List M9)->V cxT.ty:=λt=>(.inl (.inl (ls { own:=2,nm:=0,e:=78,o:=true,xs:=t })))
def aXK:(List M9):=[]
abbrev c70 (m:Y70):=fE (cx:=cxT) a70 n70 aXK m
abbrev Y83:=(N10×Int)->Option Int
def a83:Args cxT.ty (N10×Int):=(Args.cons (Arg.agg (SArg.cons (LArg.int .i64) (SArg.cons (LArg.int .i64) (SArg.cons (LArg.int .i64) (SArg.cons (LArg.int .i64) (SArg.cons (LArg.row 126) (SArg.cons (LArg.int .i64) (SArg.cons (LArg.int .i64) (SArg.cons (LArg.row 2) (SArg.cons (LArg.row 2) (SArg.one (LArg.row 2)))))))))))) (Args.one (Arg.leaf (LArg.int .i64))))
def n83:Int->V cxT.ty:=λt=>(.inl (.inl (lv (.int .i64 t))))
def aXJ:Int:=(0:Int)
abbrev c83 (m:Y83):=fE (cx:=cxT) a83 n83 aXJ m
theorem bCZ:∀ t,bN (n83 t)=true\/bH (n83 t)=true:=λ_=>.inl rfl
abbrev Y84:=(M9×Int)->Option Int
def a84:Args cxT.ty (M9×Int):=(Args.cons (Arg.agg (SArg.cons (LArg.int .i64) (SArg.cons (LArg.int .i64) (SArg.cons (LArg.int .i64) (SArg.cons (LArg.int .i64) (SArg.cons (LArg.int .i64) (SArg.cons (LArg.int .i64) (SArg.cons (LArg.int .i64) (SArg.cons LArg.bool (SArg.one (LArg.row 126))))))))))) (Args.one (Arg.leaf (LArg.int .i64))))
def n84:Int->V cxT.ty:=λt=>(.inl (.inl (lv (.int .i64 t))))
def aXI:Int:=(0:Int)
abbrev c84 (m:Y84):=fE (cx:=cxT) a84 n84 aXI m
theorem bCY:∀ t,bN (n84 t)=true\/bH (n84 t)=true:=λ_=>.inl rfl
abbrev Y85:=N10->Option Int
def a85:Args cxT.ty N10:=(Args.one (Arg.leaf (LArg.ptr 96)))
def n85:Int->V cxT.ty:=λt=>(.inl (.inl (lv (.int .i64 t))))
def aXH:Int:=(0:Int)
abbrev c85 (m:Y85):=fE (cx:=cxT) a85 n85 aXH m
theorem bCX:∀ t,bN (n85 t)=true\/bH (n85 t)=true:=λ_=>.inl rfl
abbrev Y86:=(C4×Int)->Option Bool
def a86:Args cxT.ty (C4×Int):=(Args.cons (Arg.leaf (LArg.ptr 35)) (Args.one (Arg.leaf (LArg.int .i64))))
def n86:Bool->V cxT.ty:=λt=>(.inl (.inl (lv (.bool t))))
def aXG:Bool:=false
abbrev c86 (m:Y86):=fE (cx:=cxT) a86 n86 aXG m
theorem bCW:∀ t,bN (n86 t)=true\/bH (n86 t)=true:=λ_=>.inl rfl
abbrev Y87:=(N10×M9)->Option Int
def a87:Args cxT.ty (N10×M9):=(Args.cons (Arg.leaf (LArg.ptr 96)) (Args.one (Arg.agg (SArg.cons (LArg.int .i64) (SArg.cons (LArg.int .i64) (SArg.cons (LArg.int .i64) (SArg.cons (LArg.int .i64) (SArg.cons (LArg.int .i64) (SArg.cons (LArg.int .i64) (SArg.cons (LArg.int .i64) (SArg.cons LArg.bool (SArg.one (LArg.row 102)))))))))))))
def n87:Int->V cxT.ty:=λt=>(.inl (.inl (lv (.int .i64 t))))
def aXF:Int:=(0:Int)
abbrev c87 (m:Y87):=fE (cx:=cxT) a87 n87 aXF m
theorem bCV:∀ t,bN (n87 t)=true\/bH (n87 t)=true:=λ_=>.inl rfl
abbrev Y88:=(Int×Int×Int)->Option Bool
def a88:Args cxT.ty (Int×Int×Int):=(Args.cons (Arg.leaf (LArg.int .i64)) (Args.cons (Arg.leaf (LArg.int .i64)) (Args.one (Arg.leaf (LArg.int .i64)))))
def n88:Bool->V cxT.ty:=λt=>(.inl (.inl (lv (.bool t))))
def aXE:Bool:=false
abbrev xQ (m:Y88):=fE (cx:=cxT) a88 n88 aXE m
theorem bCU:∀ t,bN (n88 t)=true\/bH (n88 t)=true:=λ_=>.inl rfl
abbrev Y89:=E9->Option Int
def a89:Args cxT.ty E9:=(Args.one (Arg.agg (SArg.cons (LArg.int .i64) (SArg.cons (LArg.int .i64) (SArg.cons (LArg.int .i64) (SArg.cons (LArg.int .i64) (SArg.cons (LArg.int .i64) (SArg.cons (LArg.int .i64) (SArg.cons (LArg.int .i64) (SArg.cons (LArg.int .i64) (SArg.one (LArg.int .i64))))))))))))
def n89:Int->V cxT.ty:=λt=>(.inl (.inl (lv (.int .i64 t))))
def aXD:Int:=(0:Int)
abbrev c89 (m:Y89):=fE (cx:=cxT) a89 n89 aXD m
theorem bCT:∀ t,bN (n89 t)=true\/bH (n89 t)=true:=λ_=>.inl rfl
abbrev Y90:=N10->Option N10
def a90:Args cxT.ty N10:=(Args.one (Arg.agg (SArg.cons (LArg.int .i64) (SArg.cons (LArg.int .i64) (SArg.cons (LArg.int .i64) (SArg.cons (LArg.int .i64) (SArg.cons (LArg.row 126) (SArg.cons (LArg.int .i64) (SArg.cons (LArg.int .i64) (SArg.cons (LArg.row 2) (SArg.cons (LArg.row 2) (SArg.one (LArg.row 2)))))))))))))
def n90:N10->V cxT.ty:=λt=>(.inl (.inr [(lv (.int .i64 t.1)),(lv (.int .i64 t.2.1)),(lv (.int .i64 t.2.2.1)),(lv (.int .i64 t.2.2.2.1)),(ls { own:=2,nm:=0,e:=102,o:=true,xs:=t.2.2.2.2.1 }),(lv (.int .i64 t.2.2.2.2.2.1)),(lv (.int .i64 t.2.2.2.2.2.2.1)),(ls { own:=2,nm:=0,e:=2,o:=true,xs:=t.2.2.2.2.2.2.2.1 }),(ls { own:=2,nm:=0,e:=2,o:=true,xs:=t.2.2.2.2.2.2.2.2.1 }),(ls { own:=2,nm:=0,e:=2,o:=true,xs:=t.2.2.2.2.2.2.2.2.2 })]))
def aXC:N10:=((0:Int),(0:Int),(0:Int),(0:Int),[],(0:Int),(0:Int),[],[],[])
abbrev c90 (m:Y90):=fE (cx:=cxT) a90 n90 aXC m
theorem bCS:∀ t,bN (n90 t)=true\/bH (n90 t)=true:=λ_=>.inl rfl
abbrev Y91:=M9->Option M9
def a91:Args cxT.ty M9:=(Args.one (Arg.agg (SArg.cons (LArg.int .i64) (SArg.cons (LArg.int .i64) (SArg.cons (LArg.int .i64) (SArg.cons (LArg.int .i64) (SArg.cons (LArg.int .i64) (SArg.cons (LArg.int .i64) (SArg.cons (LArg.int .i64) (SArg.cons LArg.bool (SArg.one (LArg.row 126))))))))))))
def n91:M9->V cxT.ty:=λt=>(.inl (.inr [(lv (.int .i64 t.1)),(lv (.int .i64 t.2.1)),(lv (.int .i64 t.2.2.1)),(lv (.int .i64 t.2.2.2.1)),(lv (.int .i64 t.2.2.2.2.1)),(lv (.int .i64 t.2.2.2.2.2.1)),(lv (.int .i64 t.2.2.2.2.2.2.1)),(lv (.bool t.2.2.2.2.2.2.2.1)),(ls { own:=2,nm:=0,e:=102,o:=true,xs:=t.2.2.2.2.2.2.2.2 })]))
def aXB:M9:=((0:Int),(0:Int),(0:Int),(0:Int),(0:Int),(0:Int),(0:Int),false,[])
abbrev c91 (m:Y91):=fE (cx:=cxT) a91 n91 aXB m
theorem bCR:∀ t,bN (n91 t)=true\/bH (n91 t)=true:=λ_=>.inl rfl
abbrev Y92:=(Int×Int)->Option (Int×Int)
def a92:Args cxT.ty (Int×Int):=(Args.one (Arg.agg (SArg.cons (LArg.int .i64) (SArg.one (LArg.int .i64)))))
def n92:(Int×Int)->V cxT.ty:=λt=>(.inl (.inr [(lv (.int .i64 t.1)),(lv (.int .i64 t.2))]))
def aXA:(Int×Int):=((0:Int),(0:Int))
abbrev c92 (m:Y92):=fE (cx:=cxT) a92 n92 aXA m
theorem bCQ:∀ t,bN (n92 t)=true\/bH (n92 t)=true:=λ_=>.inl rfl
abbrev Y93:=S10->Option S10
def a93:Args cxT.ty S10:=(Args.one (Arg.agg (SArg.cons (LArg.int .i64) (SArg.cons (LArg.int .i64) (SArg.cons (LArg.int .i64) (SArg.cons (LArg.int .i64) (SArg.cons (LArg.int .i64) (SArg.cons (LArg.int .i64) (SArg.cons (LArg.int .i64) (SArg.cons (LArg.int .i64) (SArg.cons (LArg.int .i64) (SArg.one (LArg.int .i64)))))))))))))
def n93:S10->V cxT.ty:=λt=>(.inl (.inr [(lv (.int .i64 t.1)),(lv (.int .i64 t.2.1)),(lv (.int .i64 t.2.2.1)),(lv (.int .i64 t.2.2.2.1)),(lv (.int .i64 t.2.2.2.2.1)),(lv (.int .i64 t.2.2.2.2.2.1)),(lv (.int .i64 t.2.2.2.2.2.2.1)),(lv (.int .i64 t.2.2.2.2.2.2.2.1)),(lv (.int .i64 t.2.2.2.2.2.2.2.2.1)),(lv (.int .i64 t.2.2.2.2.2.2.2.2.2))]))
def aXz:S10:=((0:Int),(0:Int),(0:Int),(0:Int),(0:Int),(0:Int),(0:Int),(0:Int),(0:Int),(0:Int))
abbrev c93 (m:Y93):=fE (cx:=cxT) a93 n93 aXz m
theorem bCP:∀ t,bN (n93 t)=true\/bH (n93 t)=true:=λ_=>.inl rfl
abbrev Y94:=(Int×Int×Int)->Option Bool
def a94:Args cxT.ty (Int×Int×Int):=(Args.cons (Arg.leaf (LArg.int .i64)) (Args.cons (Arg.leaf (LArg.int .i64)) (Args.one (Arg.leaf (LArg.int .i64)))))
def n94:Bool->V cxT.ty:=λt=>(.inl (.inl (lv (.bool t))))
def aXy:Bool:=false
abbrev c94 (m:Y94):=fE (cx:=cxT) a94 n94 aXy m
theorem bCO:∀ t,bN (n94 t)=true\/bH (n94 t)=true:=λ_=>.inl rfl
abbrev Y95:=N10->Option Int
def a95:Args cxT.ty N10:=(Args.one (Arg.agg (SArg.cons (LArg.int .i64) (SArg.cons (LArg.int .i64) (SArg.cons (LArg.int .i64) (SArg.cons (LArg.int .i64) (SArg.cons (LArg.row 102) (SArg.cons (LArg.int .i64) (SArg.cons (LArg.int .i64) (SArg.cons (LArg.row 2) (SArg.cons (LArg.row 2) (SArg.one (LArg.row 2)))))))))))))
def n95:Int->V cxT.ty:=λt=>(.inl (.inl (lv (.int .i64 t))))
def aXx:Int:=(0:Int)
abbrev c95 (m:Y95):=fE (cx:=cxT) a95 n95 aXx m
theorem bCN:∀ t,bN (n95 t)=true\/bH (n95 t)=true:=λ_=>.inl rfl
abbrev Y96:=(N10×M9)->Option Int
def a96:Args cxT.ty (N10×M9):=(Args.cons (Arg.agg (SArg.cons (LArg.int .i64) (SArg.cons (LArg.int .i64) (SArg.cons (LArg.int .i64) (SArg.cons (LArg.int .i64) (SArg.cons (LArg.row 102) (SArg.cons (LArg.int .i64) (SArg.cons (LArg.int .i64) (SArg.cons (LArg.row 2) (SArg.cons (LArg.row 2) (SArg.one (LArg.row 2)))))))))))) (Args.one (Arg.agg (SArg.cons (LArg.int .i64) (SArg.cons (LArg.int .i64) (SArg.cons (LArg.int .i64) (SArg.cons (LArg.int .i64) (SArg.cons (LArg.int .i64) (SArg.cons (LArg.int .i64) (SArg.cons (LArg.int .i64) (SArg.cons LArg.bool (SArg.one (LArg.row 102)))))))))))))
def n96:Int->V cxT.ty:=λt=>(.inl (.inl (lv (.int .i64 t))))
def aXw:Int:=(0:Int)
abbrev c96 (m:Y96):=fE (cx:=cxT) a96 n96 aXw m
theorem bCM:∀ t,bN (n96 t)=true\/bH (n96 t)=true:=λ_=>.inl rfl
abbrev Y97:=E9->Option Int
def a97:Args cxT.ty E9:=(Args.one (Arg.agg (SArg.cons (LArg.int .i64) (SArg.cons (LArg.int .i64) (SArg.cons (LArg.int .i64) (SArg.cons (LArg.int .i64) (SArg.cons (LArg.int .i64) (SArg.cons (LArg.int .i64) (SArg.cons (LArg.int .i64) (SArg.cons (LArg.int .i64) (SArg.one (LArg.int .i64))))))))))))
def n97:Int->V cxT.ty:=λt=>(.inl (.inl (lv (.int .i64 t))))
def aXv:Int:=(0:Int)
abbrev c97 (m:Y97):=fE (cx:=cxT) a97 n97 aXv m
theorem bCL:∀ t,bN (n97 t)=true\/bH (n97 t)=true:=λ_=>.inl rfl
abbrev Y98:=(N10×N10)->Option Bool
def a98:Args cxT.ty (N10×N10):=(Args.cons (Arg.agg (SArg.cons (LArg.int .i64) (SArg.cons (LArg.int .i64) (SArg.cons (LArg.int .i64) (SArg.cons (LArg.int .i64) (SArg.cons (LArg.row 102) (SArg.cons (LArg.int .i64) (SArg.cons (LArg.int .i64) (SArg.cons (LArg.row 2) (SArg.cons (LArg.row 2) (SArg.one (LArg.row 2)))))))))))) (Args.one (Arg.agg (SArg.cons (LArg.int .i64) (SArg.cons (LArg.int .i64) (SArg.cons (LArg.int .i64) (SArg.cons (LArg.int .i64) (SArg.cons (LArg.row 102) (SArg.cons (LArg.int .i64) (SArg.cons (LArg.int .i64) (SArg.cons (LArg.row 2) (SArg.cons (LArg.row 2) (SArg.one (LArg.row 2))))))))))))))
def n98:Bool->V cxT.ty:=λt=>(.inl (.inl (lv (.bool t))))
def aXu:Bool:=false
abbrev c98 (m:Y98):=fE (cx:=cxT) a98 n98 aXu m
theorem bCK:∀ t,bN (n98 t)=true\/bH (n98 t)=true:=λ_=>.inl rfl
abbrev Y99:=(M9×M9)->Option Bool
def a99:Args cxT.ty (M9×M9):=(Args.cons (Arg.agg (SArg.cons (LArg.int .i64) (SArg.cons (LArg.int .i64) (SArg.cons (LArg.int .i64) (SArg.cons (LArg.int .i64) (SArg.cons (LArg.int .i64) (SArg.cons (LArg.int .i64) (SArg.cons (LArg.int .i64) (SArg.cons LArg.bool (SArg.one (LArg.row 102))))))))))) (Args.one (Arg.agg (SArg.cons (LArg.int .i64) (SArg.cons (LArg.int .i64) (SArg.cons (LArg.int .i64) (SArg.cons (LArg.int .i64) (SArg.cons (LArg.int .i64) (SArg.cons (LArg.int .i64) (SArg.cons (LArg.int .i64) (SArg.cons LArg.bool (SArg.one (LArg.row 102)))))))))))))
def n99:Bool->V cxT.ty:=λt=>(.inl (.inl (lv (.bool t))))
def aXt:Bool:=false
abbrev c99 (m:Y99):=fE (cx:=cxT) a99 n99 aXt m
theorem bCJ:∀ t,bN (n99 t)=true\/bH (n99 t)=true:=λ_=>.inl rfl
abbrev Y100:=((Int×Int)×(Int×Int))->Option Bool
def aZ5:Args cxT.ty ((Int×Int)×(Int×Int)):=(Args.cons (Arg.agg (SArg.cons (LArg.int .i64) (SArg.one (LArg.int .i64)))) (Args.one (Arg.agg (SArg.cons (LArg.int .i64) (SArg.one (LArg.int .i64))))))
def aIh:Bool->V cxT.ty:=λt=>(.inl (.inl (lv (.bool t))))
def aPG:Bool:=false
abbrev aM1 (m:Y100):=fE (cx:=cxT) aZ5 aIh aPG m
theorem aV3:∀ t,bN (aIh t)=true\/bH (aIh t)=true:=λ_=>.inl rfl
abbrev Y101:=(S10×S10)->Option Bool
def aZ4:Args cxT.ty (S10×S10):=(Args.cons (Arg.agg (SArg.cons (LArg.int .i64) (SArg.cons (LArg.int .i64) (SArg.cons (LArg.int .i64) (SArg.cons (LArg.int .i64) (SArg.cons (LArg.int .i64) (SArg.cons (LArg.int .i64) (SArg.cons (LArg.int .i64) (SArg.cons (LArg.int .i64) (SArg.cons (LArg.int .i64) (SArg.one (LArg.int .i64)))))))))))) (Args.one (Arg.agg (SArg.cons (LArg.int .i64) (SArg.cons (LArg.int .i64) (SArg.cons (LArg.int .i64) (SArg.cons (LArg.int .i64) (SArg.cons (LArg.int .i64) (SArg.cons (LArg.int .i64) (SArg.cons (LArg.int .i64) (SArg.cons (LArg.int .i64) (SArg.cons (LArg.int .i64) (SArg.one (LArg.int .i64))))))))))))))
def aIg:Bool->V cxT.ty:=λt=>(.inl (.inl (lv (.bool t))))
def aPF:Bool:=false
abbrev aM0 (m:Y101):=fE (cx:=cxT) aZ4 aIg aPF m
theorem aV2:∀ t,bN (aIg t)=true\/bH (aIg t)=true:=λ_=>.inl rfl
abbrev Y109:=((List E9)×Int)->Option (Int×(List E9))
def aZ3:Args cxT.ty ((List E9)×Int):=(Args.cons (Arg.leaf (LArg.own 102)) (Args.one (Arg.leaf (LArg.int .i64))))
def aCb:(Int×(List E9))->List (A cxT.ty):=λt=>[(.inl (lv (.int .i64 t.1))),(.inl (ls { own:=2,nm:=0,e:=102,o:=true,xs:=t.2 }))]
def aPE:(Int×(List E9)):=((0:Int),[])
abbrev xG (m:Y109):WFn cxT:={ nres:=1,n:=1,F:=fnW (cx:=cxT) aZ3 aCb aPE m }
theorem aV1:∀ t,bN (.inr (.inl (aCb t)):V cxT.ty)=true:=λ_=>rfl
abbrev Y110:=((List Int)×Int)->Option (Int×(List Int))
def aZ2:Args cxT.ty ((List Int)×Int):=(Args.cons (Arg.leaf (LArg.own 2)) (Args.one (Arg.leaf (LArg.int .i64))))
def aCa:(Int×(List Int))->List (A cxT.ty):=λt=>[(.inl (lv (.int .i64 t.1))),(.inl (ls { own:=2,nm:=0,e:=2,o:=true,xs:=t.2 }))]
def aPD:(Int×(List Int)):=((0:Int),[])
abbrev aCG (m:Y110):WFn cxT:={ nres:=1,n:=1,F:=fnW (cx:=cxT) aZ2 aCa aPD m }
theorem aV0:∀ t,bN (.inr (.inl (aCa t)):V cxT.ty)=true:=λ_=>rfl
abbrev Y111:=((List N10)×Int)->Option Int
def aZ1:Args cxT.ty ((List N10)×Int):=(Args.cons (Arg.leaf (LArg.row 96)) (Args.one (Arg.leaf (LArg.int .i64))))
def aA5:Int->V cxT.ty:=λt=>(.inl (.inl (lv (.int .i64 t))))
def aPC:Int:=(0:Int)
abbrev aMZ (m:Y111):=fE (cx:=cxT) aZ1 aA5 aPC m
theorem aVZ:∀ t,bN (aA5 t)=true\/bH (aA5 t)=true:=λ_=>.inl rfl
abbrev Y112:=((List M9)×Int)->Option Int
def aZ0:Args cxT.ty ((List M9)×Int):=(Args.cons (Arg.leaf (LArg.row 78)) (Args.one (Arg.leaf (LArg.int .i64))))
def aA4:Int->V cxT.ty:=λt=>(.inl (.inl (lv (.int .i64 t))))
def aPB:Int:=(0:Int)
abbrev aMY (m:Y112):=fE (cx:=cxT) aZ0 aA4 aPB m
theorem aVY:∀ t,bN (aA4 t)=true\/bH (aA4 t)=true:=λ_=>.inl rfl
abbrev Y113:=((List W2)×Int)->Option Int
def aZZ:Args cxT.ty ((List W2)×Int):=(Args.cons (Arg.leaf (LArg.row 66)) (Args.one (Arg.leaf (LArg.int .i64))))
def aA3:Int->V cxT.ty:=λt=>(.inl (.inl (lv (.int .i64 t))))
def aPA:Int:=(0:Int)
abbrev aMX (m:Y113):=fE (cx:=cxT) aZZ aA3 aPA m
theorem aVX:∀ t,bN (aA3 t)=true\/bH (aA3 t)=true:=λ_=>.inl rfl
abbrev Y114:=((List S10)×Int)->Option Int
def aZY:Args cxT.ty ((List S10)×Int):=(Args.cons (Arg.leaf (LArg.row 118)) (Args.one (Arg.leaf (LArg.int .i64))))
def aA2:Int->V cxT.ty:=λt=>(.inl (.inl (lv (.int .i64 t))))
def aPz:Int:=(0:Int)
abbrev aMW (m:Y114):=fE (cx:=cxT) aZY aA2 aPz m
theorem aVW:∀ t,bN (aA2 t)=true\/bH (aA2 t)=true:=λ_=>.inl rfl
abbrev Y115:=N10->Option N10
def aZX:Args cxT.ty N10:=(Args.one (Arg.agg (SArg.cons (LArg.int .i64) (SArg.cons (LArg.int .i64) (SArg.cons (LArg.int .i64) (SArg.cons (LArg.int .i64) (SArg.cons (LArg.row 102) (SArg.cons (LArg.int .i64) (SArg.cons (LArg.int .i64) (SArg.cons (LArg.row 2) (SArg.cons (LArg.row 2) (SArg.one (LArg.row 2)))))))))))))
def aIf:N10->V cxT.ty:=λt=>(.inl (.inr [(lv (.int .i64 t.1)),(lv (.int .i64 t.2.1)),(lv (.int .i64 t.2.2.1)),(lv (.int .i64 t.2.2.2.1)),(ls { own:=2,nm:=0,e:=102,o:=true,xs:=t.2.2.2.2.1 }),(lv (.int .i64 t.2.2.2.2.2.1)),(lv (.int .i64 t.2.2.2.2.2.2.1)),(ls { own:=2,nm:=0,e:=2,o:=true,xs:=t.2.2.2.2.2.2.2.1 }),(ls { own:=2,nm:=0,e:=2,o:=true,xs:=t.2.2.2.2.2.2.2.2.1 }),(ls { own:=2,nm:=0,e:=2,o:=true,xs:=t.2.2.2.2.2.2.2.2.2 })]))
def aPy:N10:=((0:Int),(0:Int),(0:Int),(0:Int),[],(0:Int),(0:Int),[],[],[])
abbrev aMV (m:Y115):=fE (cx:=cxT) aZX aIf aPy m
theorem aVV:∀ t,bN (aIf t)=true\/bH (aIf t)=true:=λ_=>.inl rfl
abbrev Y116:=(List E9)->Option (List E9)
def aZW:Args cxT.ty (List E9):=(Args.one (Arg.leaf (LArg.row 102)))
def aIe:(List E9)->V cxT.ty:=λt=>(.inl (.inl (ls { own:=2,nm:=0,e:=102,o:=true,xs:=t })))
def aPx:(List E9):=[]
abbrev aIE (m:Y116):=fE (cx:=cxT) aZW aIe aPx m
theorem aVU:∀ t,bN (aIe t)=true\/bH (aIe t)=true:=λ_=>.inl rfl
abbrev Y118:=N10->Option N10
def aZV:Args cxT.ty N10:=(Args.one (Arg.agg (SArg.cons (LArg.int .i64) (SArg.cons (LArg.int .i64) (SArg.cons (LArg.int .i64) (SArg.cons (LArg.int .i64) (SArg.cons (LArg.row 102) (SArg.cons (LArg.int .i64) (SArg.cons (LArg.int .i64) (SArg.cons (LArg.row 2) (SArg.cons (LArg.row 2) (SArg.one (LArg.row 2)))))))))))))
def aEz:N10->V cxT.ty:=λt=>(.inl (.inr [(lv (.int .i64 t.1)),(lv (.int .i64 t.2.1)),(lv (.int .i64 t.2.2.1)),(lv (.int .i64 t.2.2.2.1)),(ls { own:=2,nm:=0,e:=102,o:=true,xs:=t.2.2.2.2.1 }),(lv (.int .i64 t.2.2.2.2.2.1)),(lv (.int .i64 t.2.2.2.2.2.2.1)),(ls { own:=2,nm:=0,e:=2,o:=true,xs:=t.2.2.2.2.2.2.2.1 }),(ls { own:=2,nm:=0,e:=2,o:=true,xs:=t.2.2.2.2.2.2.2.2.1 }),(ls { own:=2,nm:=0,e:=2,o:=true,xs:=t.2.2.2.2.2.2.2.2.2 })]))
def aKY:N10:=((0:Int),(0:Int),(0:Int),(0:Int),[],(0:Int),(0:Int),[],[],[])
abbrev aSs (m:Y118):=fE (cx:=cxT) aZV aEz aKY m
theorem aVT:∀ t,bN (aEz t)=true\/bH (aEz t)=true:=λ_=>.inl rfl
abbrev Y119:=(List W2)->Option (List W2)
def bFz:Args cxT.ty (List W2):=(Args.one (Arg.leaf (LArg.row 66)))
def aUY:(List W2)->V cxT.ty:=λt=>(.inl (.inl (ls { own:=2,nm:=0,e:=66,o:=true,xs:=t })))
def aPw:(List W2):=[]
abbrev bFv (m:Y119):=fE (cx:=cxT) bFz aUY aPw m
abbrev Y120:=(List S10)->Option (List S10)
def bFy:Args cxT.ty (List S10):=(Args.one (Arg.leaf (LArg.row 118)))
def aUX:(List S10)->V cxT.ty:=λt=>(.inl (.inl (ls { own:=2,nm:=0,e:=118,o:=true,xs:=t })))
def aPv:(List S10):=[]
abbrev bFu (m:Y120):=fE (cx:=cxT) bFy aUX aPv m
abbrev Y124:=(List E9)->Option E9
def aZU:Args cxT.ty (List E9):=(Args.one (Arg.leaf (LArg.row 102)))
def aId:E9->V cxT.ty:=λt=>(.inl (.inr [(lv (.int .i64 t.1)),(lv (.int .i64 t.2.1)),(lv (.int .i64 t.2.2.1)),(lv (.int .i64 t.2.2.2.1)),(lv (.int .i64 t.2.2.2.2.1)),(lv (.int .i64 t.2.2.2.2.2.1)),(lv (.int .i64 t.2.2.2.2.2.2.1)),(lv (.int .i64 t.2.2.2.2.2.2.2.1)),(lv (.int .i64 t.2.2.2.2.2.2.2.2))]))
def aPu:E9:=((0:Int),(0:Int),(0:Int),(0:Int),(0:Int),(0:Int),(0:Int),(0:Int),(0:Int))
abbrev aID (m:Y124):=fE (cx:=cxT) aZU aId aPu m
theorem aVS:∀ t,bN (aId t)=true\/bH (aId t)=true:=λ_=>.inl rfl
abbrev Y133:=((List E9)×Int)->Option Int
def aZT:Args cxT.ty ((List E9)×Int):=(Args.cons (Arg.leaf (LArg.row 126)) (Args.one (Arg.leaf (LArg.int .i64))))
def aIc:Int->V cxT.ty:=λt=>(.inl (.inl (lv (.int .i64 t))))
def aPt:Int:=(0:Int)
abbrev aIC (m:Y133):=fE (cx:=cxT) aZT aIc aPt m
theorem aVR:∀ t,bN (aIc t)=true\/bH (aIc t)=true:=λ_=>.inl rfl
abbrev Y134:=((List Int)×Int)->Option Int
def aZS:Args cxT.ty ((List Int)×Int):=(Args.cons (Arg.leaf (LArg.row 2)) (Args.one (Arg.leaf (LArg.int .i64))))
def aIb:Int->V cxT.ty:=λt=>(.inl (.inl (lv (.int .i64 t))))
def aPs:Int:=(0:Int)
abbrev aMU (m:Y134):=fE (cx:=cxT) aZS aIb aPs m
theorem aVQ:∀ t,bN (aIb t)=true\/bH (aIb t)=true:=λ_=>.inl rfl
abbrev Y135:=(N10×Int)->Option Bool
def aZR:Args cxT.ty (N10×Int):=(Args.cons (Arg.leaf (LArg.ptr 96)) (Args.one (Arg.leaf (LArg.int .i64))))
def aIa:Bool->V cxT.ty:=λt=>(.inl (.inl (lv (.bool t))))
def aPr:Bool:=false
abbrev aE6 (m:Y135):=fE (cx:=cxT) aZR aIa aPr m
theorem aVP:∀ t,bN (aIa t)=true\/bH (aIa t)=true:=λ_=>.inl rfl
abbrev Y136:=(List E9)->Option Int
def aZQ:Args cxT.ty (List E9):=(Args.one (Arg.leaf (LArg.row 102)))
def aA1:Int->V cxT.ty:=λt=>(.inl (.inl (lv (.int .i64 t))))
def aPq:Int:=(0:Int)
abbrev aIB (m:Y136):=fE (cx:=cxT) aZQ aA1 aPq m
theorem aVO:∀ t,bN (aA1 t)=true\/bH (aA1 t)=true:=λ_=>.inl rfl
abbrev Y137:=N10->Option Bool
def aZP:Args cxT.ty N10:=(Args.one (Arg.leaf (LArg.ptr 96)))
def aA0:Bool->V cxT.ty:=λt=>(.inl (.inl (lv (.bool t))))
def aPp:Bool:=false
abbrev aMT (m:Y137):=fE (cx:=cxT) aZP aA0 aPp m
theorem aVN:∀ t,bN (aA0 t)=true\/bH (aA0 t)=true:=λ_=>.inl rfl
abbrev Y138:=M9->Option Bool
def aZO:Args cxT.ty M9:=(Args.one (Arg.agg (SArg.cons (LArg.int .i64) (SArg.cons (LArg.int .i64) (SArg.cons (LArg.int .i64) (SArg.cons (LArg.int .i64) (SArg.cons (LArg.int .i64) (SArg.cons (LArg.int .i64) (SArg.cons (LArg.int .i64) (SArg.cons LArg.bool (SArg.one (LArg.row 102))))))))))))
def aH9:Bool->V cxT.ty:=λt=>(.inl (.inl (lv (.bool t))))
def aPo:Bool:=false
abbrev aMS (m:Y138):=fE (cx:=cxT) aZO aH9 aPo m
theorem aVM:∀ t,bN (aH9 t)=true\/bH (aH9 t)=true:=λ_=>.inl rfl
abbrev Y139:=(Int×Int×Int×Int×Int×Int)->Option Int
def bFx:Args cxT.ty (Int×Int×Int×Int×Int×Int):=(Args.one (Arg.agg (SArg.cons (LArg.int .i64) (SArg.cons (LArg.int .i64) (SArg.cons (LArg.int .i64) (SArg.cons (LArg.int .i64) (SArg.cons (LArg.int .i64) (SArg.one (LArg.int .i64)))))))))
def bCA:Int->V cxT.ty:=λt=>(.inl (.inl (lv (.int .i64 t))))
def aYp:Int:=(0:Int)
abbrev aSr (m:Y139):=fE (cx:=cxT) bFx bCA aYp m
abbrev Y140:=(List E9)->Option (List E9)
def aZN:Args cxT.ty (List E9):=(Args.one (Arg.leaf (LArg.row 126)))
def aAZ:(List E9)->V cxT.ty:=λt=>(.inl (.inl (ls { own:=2,nm:=0,e:=102,o:=true,xs:=t })))
def aPn:(List E9):=[]
abbrev aIA (m:Y140):=fE (cx:=cxT) aZN aAZ aPn m
theorem aVL:∀ t,bN (aAZ t)=true\/bH (aAZ t)=true:=λ_=>.inl rfl
abbrev Y141:=(List Int)->Option (List Int)
def aZM:Args cxT.ty (List Int):=(Args.one (Arg.leaf (LArg.row 2)))
def aAY:(List Int)->V cxT.ty:=λt=>(.inl (.inl (ls { own:=2,nm:=0,e:=2,o:=true,xs:=t })))
def aPm:(List Int):=[]
abbrev aMR (m:Y141):=fE (cx:=cxT) aZM aAY aPm m
theorem aVK:∀ t,bN (aAY t)=true\/bH (aAY t)=true:=λ_=>.inl rfl
abbrev Y142:=E9->Option E9
def aZL:Args cxT.ty E9:=(Args.one (Arg.agg (SArg.cons (LArg.int .i64) (SArg.cons (LArg.int .i64) (SArg.cons (LArg.int .i64) (SArg.cons (LArg.int .i64) (SArg.cons (LArg.int .i64) (SArg.cons (LArg.int .i64) (SArg.cons (LArg.int .i64) (SArg.cons (LArg.int .i64) (SArg.one (LArg.int .i64))))))))))))
def aH8:E9->V cxT.ty:=λt=>(.inl (.inr [(lv (.int .i64 t.1)),(lv (.int .i64 t.2.1)),(lv (.int .i64 t.2.2.1)),(lv (.int .i64 t.2.2.2.1)),(lv (.int .i64 t.2.2.2.2.1)),(lv (.int .i64 t.2.2.2.2.2.1)),(lv (.int .i64 t.2.2.2.2.2.2.1)),(lv (.int .i64 t.2.2.2.2.2.2.2.1)),(lv (.int .i64 t.2.2.2.2.2.2.2.2))]))
def aPl:E9:=((0:Int),(0:Int),(0:Int),(0:Int),(0:Int),(0:Int),(0:Int),(0:Int),(0:Int))
abbrev aIz (m:Y142):=fE (cx:=cxT) aZL aH8 aPl m
theorem aVJ:∀ t,bN (aH8 t)=true\/bH (aH8 t)=true:=λ_=>.inl rfl
abbrev Y143:=(Int×Int)->Option Bool
def aZK:Args cxT.ty (Int×Int):=(Args.cons (Arg.leaf (LArg.int .i64)) (Args.one (Arg.leaf (LArg.int .i64))))
def aH7:Bool->V cxT.ty:=λt=>(.inl (.inl (lv (.bool t))))
def aPk:Bool:=false
abbrev aCF (m:Y143):=fE (cx:=cxT) aZK aH7 aPk m
theorem aVI:∀ t,bN (aH7 t)=true\/bH (aH7 t)=true:=λ_=>.inl rfl
abbrev Y144:=Int->Option Bool
def aZJ:Args cxT.ty Int:=(Args.one (Arg.leaf (LArg.int .i64)))
def aH6:Bool->V cxT.ty:=λt=>(.inl (.inl (lv (.bool t))))
def aPj:Bool:=false
abbrev aMQ (m:Y144):=fE (cx:=cxT) aZJ aH6 aPj m
theorem aVH:∀ t,bN (aH6 t)=true\/bH (aH6 t)=true:=λ_=>.inl rfl
abbrev Y145:=(Int×Int)->Option Bool
def aZI:Args cxT.ty (Int×Int):=(Args.cons (Arg.leaf (LArg.int .i64)) (Args.one (Arg.leaf (LArg.int .i64))))
def aH5:Bool->V cxT.ty:=λt=>(.inl (.inl (lv (.bool t))))
def aPi:Bool:=false
abbrev aMP (m:Y145):=fE (cx:=cxT) aZI aH5 aPi m
theorem aVG:∀ t,bN (aH5 t)=true\/bH (aH5 t)=true:=λ_=>.inl rfl
abbrev Y146:=Int->Option Bool
def aZH:Args cxT.ty Int:=(Args.one (Arg.leaf (LArg.int .i64)))
def aH4:Bool->V cxT.ty:=λt=>(.inl (.inl (lv (.bool t))))
def aPh:Bool:=false
abbrev aMO (m:Y146):=fE (cx:=cxT) aZH aH4 aPh m
theorem aVF:∀ t,bN (aH4 t)=true\/bH (aH4 t)=true:=λ_=>.inl rfl
abbrev Y147:=(List E9)->Option Int
def aZG:Args cxT.ty (List E9):=(Args.one (Arg.leaf (LArg.row 102)))
def aAX:Int->V cxT.ty:=λt=>(.inl (.inl (lv (.int .i64 t))))
def aPg:Int:=(0:Int)
abbrev aIy (m:Y147):=fE (cx:=cxT) aZG aAX aPg m
theorem aVE:∀ t,bN (aAX t)=true\/bH (aAX t)=true:=λ_=>.inl rfl
abbrev Y148:=(List E9)->Option E9
def aZF:Args cxT.ty (List E9):=(Args.one (Arg.leaf (LArg.row 102)))
def aH3:E9->V cxT.ty:=λt=>(.inl (.inr [(lv (.int .i64 t.1)),(lv (.int .i64 t.2.1)),(lv (.int .i64 t.2.2.1)),(lv (.int .i64 t.2.2.2.1)),(lv (.int .i64 t.2.2.2.2.1)),(lv (.int .i64 t.2.2.2.2.2.1)),(lv (.int .i64 t.2.2.2.2.2.2.1)),(lv (.int .i64 t.2.2.2.2.2.2.2.1)),(lv (.int .i64 t.2.2.2.2.2.2.2.2))]))
def aPf:E9:=((0:Int),(0:Int),(0:Int),(0:Int),(0:Int),(0:Int),(0:Int),(0:Int),(0:Int))
abbrev aIx (m:Y148):=fE (cx:=cxT) aZF aH3 aPf m
theorem aVD:∀ t,bN (aH3 t)=true\/bH (aH3 t)=true:=λ_=>.inl rfl
abbrev Y149:=N10->Option Int
def aZE:Args cxT.ty N10:=(Args.one (Arg.leaf (LArg.ptr 96)))
def aH2:Int->V cxT.ty:=λt=>(.inl (.inl (lv (.int .i64 t))))
def aPe:Int:=(0:Int)
abbrev aMN (m:Y149):=fE (cx:=cxT) aZE aH2 aPe m
theorem aVC:∀ t,bN (aH2 t)=true\/bH (aH2 t)=true:=λ_=>.inl rfl
abbrev Y150:=N10->Option Bool
def aZD:Args cxT.ty N10:=(Args.one (Arg.leaf (LArg.ptr 96)))
def aAW:Bool->V cxT.ty:=λt=>(.inl (.inl (lv (.bool t))))
def aPd:Bool:=false
abbrev aMM (m:Y150):=fE (cx:=cxT) aZD aAW aPd m
theorem aVB:∀ t,bN (aAW t)=true\/bH (aAW t)=true:=λ_=>.inl rfl
abbrev Y151:=N10->Option Bool
def aZC:Args cxT.ty N10:=(Args.one (Arg.leaf (LArg.ptr 96)))
def aH1:Bool->V cxT.ty:=λt=>(.inl (.inl (lv (.bool t))))
def aPc:Bool:=false
abbrev aML (m:Y151):=fE (cx:=cxT) aZC aH1 aPc m
theorem aVA:∀ t,bN (aH1 t)=true\/bH (aH1 t)=true:=λ_=>.inl rfl
abbrev Y152:=((List Int)×Int×Int)->Option Bool
def aZB:Args cxT.ty ((List Int)×Int×Int):=(Args.cons (Arg.leaf (LArg.row 2)) (Args.cons (Arg.leaf (LArg.int .i64)) (Args.one (Arg.leaf (LArg.int .i64)))))
def aAV:Bool->V cxT.ty:=λt=>(.inl (.inl (lv (.bool t))))
def aPb:Bool:=false
abbrev aMK (m:Y152):=fE (cx:=cxT) aZB aAV aPb m
theorem aVz:∀ t,bN (aAV t)=true\/bH (aAV t)=true:=λ_=>.inl rfl
abbrev Y153:=M9->Option Bool
def aZA:Args cxT.ty M9:=(Args.one (Arg.agg (SArg.cons (LArg.int .i64) (SArg.cons (LArg.int .i64) (SArg.cons (LArg.int .i64) (SArg.cons (LArg.int .i64) (SArg.cons (LArg.int .i64) (SArg.cons (LArg.int .i64) (SArg.cons (LArg.int .i64) (SArg.cons LArg.bool (SArg.one (LArg.row 102))))))))))))
def aH0:Bool->V cxT.ty:=λt=>(.inl (.inl (lv (.bool t))))
def aPa:Bool:=false
abbrev aMJ (m:Y153):=fE (cx:=cxT) aZA aH0 aPa m
theorem aVy:∀ t,bN (aH0 t)=true\/bH (aH0 t)=true:=λ_=>.inl rfl
abbrev Y154:=M9->Option Bool
def aZz:Args cxT.ty M9:=(Args.one (Arg.agg (SArg.cons (LArg.int .i64) (SArg.cons (LArg.int .i64) (SArg.cons (LArg.int .i64) (SArg.cons (LArg.int .i64) (SArg.cons (LArg.int .i64) (SArg.cons (LArg.int .i64) (SArg.cons (LArg.int .i64) (SArg.cons LArg.bool (SArg.one (LArg.row 102))))))))))))
def aHZ:Bool->V cxT.ty:=λt=>(.inl (.inl (lv (.bool t))))
def aO9:Bool:=false
abbrev aMI (m:Y154):=fE (cx:=cxT) aZz aHZ aO9 m
theorem aVx:∀ t,bN (aHZ t)=true\/bH (aHZ t)=true:=λ_=>.inl rfl
abbrev Y155:=M9->Option Bool
def aZy:Args cxT.ty M9:=(Args.one (Arg.agg (SArg.cons (LArg.int .i64) (SArg.cons (LArg.int .i64) (SArg.cons (LArg.int .i64) (SArg.cons (LArg.int .i64) (SArg.cons (LArg.int .i64) (SArg.cons (LArg.int .i64) (SArg.cons (LArg.int .i64) (SArg.cons LArg.bool (SArg.one (LArg.row 102))))))))))))
def aHY:Bool->V cxT.ty:=λt=>(.inl (.inl (lv (.bool t))))
def aO8:Bool:=false
abbrev aMH (m:Y155):=fE (cx:=cxT) aZy aHY aO8 m
theorem aVw:∀ t,bN (aHY t)=true\/bH (aHY t)=true:=λ_=>.inl rfl
abbrev Y156:=Int->Option Bool
def aZx:Args cxT.ty Int:=(Args.one (Arg.leaf (LArg.int .i64)))
def aHX:Bool->V cxT.ty:=λt=>(.inl (.inl (lv (.bool t))))
def aO7:Bool:=false
abbrev aMG (m:Y156):=fE (cx:=cxT) aZx aHX aO7 m
theorem aVv:∀ t,bN (aHX t)=true\/bH (aHX t)=true:=λ_=>.inl rfl
abbrev Y157:=Int->Option Bool
def aZw:Args cxT.ty Int:=(Args.one (Arg.leaf (LArg.int .i64)))
def aHW:Bool->V cxT.ty:=λt=>(.inl (.inl (lv (.bool t))))
def aO6:Bool:=false
abbrev aMF (m:Y157):=fE (cx:=cxT) aZw aHW aO6 m
theorem aVu:∀ t,bN (aHW t)=true\/bH (aHW t)=true:=λ_=>.inl rfl
abbrev Y158:=(Int×Int×Int×Int×Int×Int)->Option Int
def bFw:Args cxT.ty (Int×Int×Int×Int×Int×Int):=(Args.one (Arg.agg (SArg.cons (LArg.int .i64) (SArg.cons (LArg.int .i64) (SArg.cons (LArg.int .i64) (SArg.cons (LArg.int .i64) (SArg.cons (LArg.int .i64) (SArg.one (LArg.int .i64)))))))))
def bCz:Int->V cxT.ty:=λt=>(.inl (.inl (lv (.int .i64 t))))
def aYm:Int:=(0:Int)
abbrev aSq (m:Y158):=fE (cx:=cxT) bFw bCz aYm m
abbrev Y159:=((List E9)×(List E9))->Option Bool
def aZv:Args cxT.ty ((List E9)×(List E9)):=(Args.cons (Arg.leaf (LArg.row 102)) (Args.one (Arg.leaf (LArg.row 102))))
def aAU:Bool->V cxT.ty:=λt=>(.inl (.inl (lv (.bool t))))
def aO5:Bool:=false
abbrev aIw (m:Y159):=fE (cx:=cxT) aZv aAU aO5 m
theorem aVt:∀ t,bN (aAU t)=true\/bH (aAU t)=true:=λ_=>.inl rfl
abbrev Y160:=((List Int)×(List Int))->Option Bool
def aZu:Args cxT.ty ((List Int)×(List Int)):=(Args.cons (Arg.leaf (LArg.row 2)) (Args.one (Arg.leaf (LArg.row 2))))
def aAT:Bool->V cxT.ty:=λt=>(.inl (.inl (lv (.bool t))))
def aO4:Bool:=false
abbrev aME (m:Y160):=fE (cx:=cxT) aZu aAT aO4 m
theorem aVs:∀ t,bN (aAT t)=true\/bH (aAT t)=true:=λ_=>.inl rfl
abbrev Y161:=(E9×E9)->Option Bool
def aZt:Args cxT.ty (E9×E9):=(Args.cons (Arg.agg (SArg.cons (LArg.int .i64) (SArg.cons (LArg.int .i64) (SArg.cons (LArg.int .i64) (SArg.cons (LArg.int .i64) (SArg.cons (LArg.int .i64) (SArg.cons (LArg.int .i64) (SArg.cons (LArg.int .i64) (SArg.cons (LArg.int .i64) (SArg.one (LArg.int .i64))))))))))) (Args.one (Arg.agg (SArg.cons (LArg.int .i64) (SArg.cons (LArg.int .i64) (SArg.cons (LArg.int .i64) (SArg.cons (LArg.int .i64) (SArg.cons (LArg.int .i64) (SArg.cons (LArg.int .i64) (SArg.cons (LArg.int .i64) (SArg.cons (LArg.int .i64) (SArg.one (LArg.int .i64)))))))))))))
def aHV:Bool->V cxT.ty:=λt=>(.inl (.inl (lv (.bool t))))
def aO3:Bool:=false
abbrev aIv (m:Y161):=fE (cx:=cxT) aZt aHV aO3 m
theorem aVr:∀ t,bN (aHV t)=true\/bH (aHV t)=true:=λ_=>.inl rfl
abbrev Y172:=((List E9)×Int)->Option Int
def aZs:Args cxT.ty ((List E9)×Int):=(Args.cons (Arg.leaf (LArg.row 102)) (Args.one (Arg.leaf (LArg.int .i64))))
def aAS:Int->V cxT.ty:=λt=>(.inl (.inl (lv (.int .i64 t))))
def aO2:Int:=(0:Int)
abbrev aIu (m:Y172):=fE (cx:=cxT) aZs aAS aO2 m
theorem aVq:∀ t,bN (aAS t)=true\/bH (aAS t)=true:=λ_=>.inl rfl
abbrev Y173:=((List Int)×Int)->Option Int
def aZr:Args cxT.ty ((List Int)×Int):=(Args.cons (Arg.leaf (LArg.row 2)) (Args.one (Arg.leaf (LArg.int .i64))))
def aAR:Int->V cxT.ty:=λt=>(.inl (.inl (lv (.int .i64 t))))
def aO1:Int:=(0:Int)
abbrev aMD (m:Y173):=fE (cx:=cxT) aZr aAR aO1 m
theorem aVp:∀ t,bN (aAR t)=true\/bH (aAR t)=true:=λ_=>.inl rfl
abbrev Y182:=(List Int)->Option Bool
def aZq:Args cxT.ty (List Int):=(Args.one (Arg.leaf (LArg.row 2)))
def aAQ:Bool->V cxT.ty:=λt=>(.inl (.inl (lv (.bool t))))
def aO0:Bool:=false
abbrev aMC (m:Y182):=fE (cx:=cxT) aZq aAQ aO0 m
theorem aVo:∀ t,bN (aAQ t)=true\/bH (aAQ t)=true:=λ_=>.inl rfl
abbrev Y183:=Int->Option (Bool×Bool×Bool×Bool)
def aZp:Args cxT.ty Int:=(Args.one (Arg.leaf (LArg.int .i64)))
def aHU:(Bool×Bool×Bool×Bool)->V cxT.ty:=λt=>(.inr (.inl [(.inl (lv (.bool t.1))),(.inl (lv (.bool t.2.1))),(.inl (lv (.bool t.2.2.1))),(.inl (lv (.bool t.2.2.2)))]))
def aOZ:(Bool×Bool×Bool×Bool):=(false,false,false,false)
abbrev aY0 (m:Y183):=fE (cx:=cxT) aZp aHU aOZ m
theorem aVn:∀ t,bN (aHU t)=true\/bH (aHU t)=true:=λ_=>.inl rfl
abbrev Y184:=Int->Option Bool
def aZo:Args cxT.ty Int:=(Args.one (Arg.leaf (LArg.int .i64)))
def aHT:Bool->V cxT.ty:=λt=>(.inl (.inl (lv (.bool t))))
def aOY:Bool:=false
abbrev aYZ (m:Y184):=fE (cx:=cxT) aZo aHT aOY m
theorem aVm:∀ t,bN (aHT t)=true\/bH (aHT t)=true:=λ_=>.inl rfl
abbrev Y185:=Int->Option Bool
def aZn:Args cxT.ty Int:=(Args.one (Arg.leaf (LArg.int .i64)))
def aHS:Bool->V cxT.ty:=λt=>(.inl (.inl (lv (.bool t))))
def aOX:Bool:=false
abbrev aYY (m:Y185):=fE (cx:=cxT) aZn aHS aOX m
theorem aVl:∀ t,bN (aHS t)=true\/bH (aHS t)=true:=λ_=>.inl rfl
abbrev Y186:=Int->Option Bool
def aZm:Args cxT.ty Int:=(Args.one (Arg.leaf (LArg.int .i64)))
def aHR:Bool->V cxT.ty:=λt=>(.inl (.inl (lv (.bool t))))
def aOW:Bool:=false
abbrev aYX (m:Y186):=fE (cx:=cxT) aZm aHR aOW m
theorem aVk:∀ t,bN (aHR t)=true\/bH (aHR t)=true:=λ_=>.inl rfl
abbrev Y187:=(Int×Int×Int×Int×Int×Int)->Option Bool
def aZl:Args cxT.ty (Int×Int×Int×Int×Int×Int):=(Args.one (Arg.agg (SArg.cons (LArg.int .i64) (SArg.cons (LArg.int .i64) (SArg.cons (LArg.int .i64) (SArg.cons (LArg.int .i64) (SArg.cons (LArg.int .i64) (SArg.one (LArg.int .i64)))))))))
def aHQ:Bool->V cxT.ty:=λt=>(.inl (.inl (lv (.bool t))))
def aOV:Bool:=false
abbrev aYW (m:Y187):=fE (cx:=cxT) aZl aHQ aOV m
theorem aVj:∀ t,bN (aHQ t)=true\/bH (aHQ t)=true:=λ_=>.inl rfl
abbrev Y188:=Int->Option Bool
def aZk:Args cxT.ty Int:=(Args.one (Arg.leaf (LArg.int .i64)))
def aHP:Bool->V cxT.ty:=λt=>(.inl (.inl (lv (.bool t))))
def aOU:Bool:=false
abbrev aYV (m:Y188):=fE (cx:=cxT) aZk aHP aOU m
theorem aVi:∀ t,bN (aHP t)=true\/bH (aHP t)=true:=λ_=>.inl rfl
abbrev Y189:=((List E9)×Int)->Option (Int×Int×Int×Int×Int×Int×Int×Int×Int×Bool)
def aZj:Args cxT.ty ((List E9)×Int):=(Args.cons (Arg.leaf (LArg.row 102)) (Args.one (Arg.leaf (LArg.int .i64))))
def aHO:(Int×Int×Int×Int×Int×Int×Int×Int×Int×Bool)->V cxT.ty:=λt=>(.inr (.inl [(.inr [(lv (.int .i64 t.1)),(lv (.int .i64 t.2.1)),(lv (.int .i64 t.2.2.1)),(lv (.int .i64 t.2.2.2.1)),(lv (.int .i64 t.2.2.2.2.1)),(lv (.int .i64 t.2.2.2.2.2.1)),(lv (.int .i64 t.2.2.2.2.2.2.1)),(lv (.int .i64 t.2.2.2.2.2.2.2.1)),(lv (.int .i64 t.2.2.2.2.2.2.2.2.1))]),(.inl (lv (.bool t.2.2.2.2.2.2.2.2.2)))]))
def aOT:(Int×Int×Int×Int×Int×Int×Int×Int×Int×Bool):=((0:Int),(0:Int),(0:Int),(0:Int),(0:Int),(0:Int),(0:Int),(0:Int),(0:Int),false)
abbrev aMB (m:Y189):=fE (cx:=cxT) aZj aHO aOT m
theorem aVh:∀ t,bN (aHO t)=true\/bH (aHO t)=true:=λ_=>.inl rfl
abbrev Y190:=(List E9)->Option Int
def aZi:Args cxT.ty (List E9):=(Args.one (Arg.leaf (LArg.row 102)))
def aHN:Int->V cxT.ty:=λt=>(.inl (.inl (lv (.int .i64 t))))
def aOS:Int:=(0:Int)
abbrev aE5 (m:Y190):=fE (cx:=cxT) aZi aHN aOS m
theorem aVg:∀ t,bN (aHN t)=true\/bH (aHN t)=true:=λ_=>.inl rfl
abbrev Y191:=Int->Option Bool
def aZh:Args cxT.ty Int:=(Args.one (Arg.leaf (LArg.int .i64)))
def aHM:Bool->V cxT.ty:=λt=>(.inl (.inl (lv (.bool t))))
def aOR:Bool:=false
abbrev aYU (m:Y191):=fE (cx:=cxT) aZh aHM aOR m
theorem aVf:∀ t,bN (aHM t)=true\/bH (aHM t)=true:=λ_=>.inl rfl
abbrev Y193:=((Int×Int×Int×Int×Int×Int)×(Int×Int×Int×Int×Int×Int))->Option Bool
def aZg:Args cxT.ty ((Int×Int×Int×Int×Int×Int)×(Int×Int×Int×Int×Int×Int)):=(Args.cons (Arg.agg (SArg.cons (LArg.int .i64) (SArg.cons (LArg.int .i64) (SArg.cons (LArg.int .i64) (SArg.cons (LArg.int .i64) (SArg.cons (LArg.int .i64) (SArg.one (LArg.int .i64)))))))) (Args.one (Arg.agg (SArg.cons (LArg.int .i64) (SArg.cons (LArg.int .i64) (SArg.cons (LArg.int .i64) (SArg.cons (LArg.int .i64) (SArg.cons (LArg.int .i64) (SArg.one (LArg.int .i64))))))))))
def aHL:Bool->V cxT.ty:=λt=>(.inl (.inl (lv (.bool t))))
def aOQ:Bool:=false
abbrev aMA (m:Y193):=fE (cx:=cxT) aZg aHL aOQ m
theorem aVe:∀ t,bN (aHL t)=true\/bH (aHL t)=true:=λ_=>.inl rfl
abbrev Y213:=Int->Option Bool
def aZf:Args cxT.ty Int:=(Args.one (Arg.leaf (LArg.int .i64)))
def aHK:Bool->V cxT.ty:=λt=>(.inl (.inl (lv (.bool t))))
def aOP:Bool:=false
abbrev aMz (m:Y213):=fE (cx:=cxT) aZf aHK aOP m
theorem aVd:∀ t,bN (aHK t)=true\/bH (aHK t)=true:=λ_=>.inl rfl
abbrev Y214:=Int->Option Bool
def aZe:Args cxT.ty Int:=(Args.one (Arg.leaf (LArg.int .i64)))
def aHJ:Bool->V cxT.ty:=λt=>(.inl (.inl (lv (.bool t))))
def aOO:Bool:=false
abbrev aYT (m:Y214):=fE (cx:=cxT) aZe aHJ aOO m
theorem aVc:∀ t,bN (aHJ t)=true\/bH (aHJ t)=true:=λ_=>.inl rfl
abbrev Y215:=Int->Option Bool
def aZd:Args cxT.ty Int:=(Args.one (Arg.leaf (LArg.int .i64)))
def aHI:Bool->V cxT.ty:=λt=>(.inl (.inl (lv (.bool t))))
def aON:Bool:=false
abbrev aYS (m:Y215):=fE (cx:=cxT) aZd aHI aON m
theorem aVb:∀ t,bN (aHI t)=true\/bH (aHI t)=true:=λ_=>.inl rfl
abbrev Y216:=Int->Option Bool
def aZc:Args cxT.ty Int:=(Args.one (Arg.leaf (LArg.int .i64)))
def aHH:Bool->V cxT.ty:=λt=>(.inl (.inl (lv (.bool t))))
def aOM:Bool:=false
abbrev aYR (m:Y216):=fE (cx:=cxT) aZc aHH aOM m
theorem aVa:∀ t,bN (aHH t)=true\/bH (aHH t)=true:=λ_=>.inl rfl
abbrev Y219:=Int->Option Bool
def aZb:Args cxT.ty Int:=(Args.one (Arg.leaf (LArg.int .i64)))
def aHG:Bool->V cxT.ty:=λt=>(.inl (.inl (lv (.bool t))))
def aOL:Bool:=false
abbrev aYQ (m:Y219):=fE (cx:=cxT) aZb aHG aOL m
theorem aU9:∀ t,bN (aHG t)=true\/bH (aHG t)=true:=λ_=>.inl rfl
abbrev Y222:=Int->Option Bool
def aZa:Args cxT.ty Int:=(Args.one (Arg.leaf (LArg.int .i64)))
def aHF:Bool->V cxT.ty:=λt=>(.inl (.inl (lv (.bool t))))
def aOK:Bool:=false
abbrev aYP (m:Y222):=fE (cx:=cxT) aZa aHF aOK m
theorem aU8:∀ t,bN (aHF t)=true\/bH (aHF t)=true:=λ_=>.inl rfl
abbrev Y223:=Int->Option Bool
def aY9:Args cxT.ty Int:=(Args.one (Arg.leaf (LArg.int .i64)))
def aHE:Bool->V cxT.ty:=λt=>(.inl (.inl (lv (.bool t))))
def aOJ:Bool:=false
abbrev aYO (m:Y223):=fE (cx:=cxT) aY9 aHE aOJ m
theorem aU7:∀ t,bN (aHE t)=true\/bH (aHE t)=true:=λ_=>.inl rfl
abbrev Y228:=Int->Option Bool
def aY8:Args cxT.ty Int:=(Args.one (Arg.leaf (LArg.int .i64)))
def aHD:Bool->V cxT.ty:=λt=>(.inl (.inl (lv (.bool t))))
def aOI:Bool:=false
abbrev aYN (m:Y228):=fE (cx:=cxT) aY8 aHD aOI m
theorem aU6:∀ t,bN (aHD t)=true\/bH (aHD t)=true:=λ_=>.inl rfl
end Go.Proofs.Tryz
namespace Go.Proofs.Tryz
open Go Go.VM Go.RowKit
abbrev Y69:=(C4×(List M9))->Option (Bool×(List N10)×(List M9)×(List W2)×(List S10))
def a69:Args cxT.ty (C4×(List M9)):=(Args.cons (Arg.agg (SArg.cons (LArg.own 96) (SArg.cons (LArg.own 78) (SArg.cons (LArg.own 66) (SArg.one (LArg.own 118)))))) (Args.one (Arg.leaf (LArg.own 78))))
def n69:(Bool×(List N10)×(List M9)×(List W2)×(List S10))->List (A cxT.ty):=λt=>[(.inl (lv (.bool t.1))),(.inr [(ls { own:=2,nm:=0,e:=96,o:=true,xs:=t.2.1 }),(ls { own:=2,nm:=0,e:=78,o:=true,xs:=t.2.2.1 }),(ls { own:=2,nm:=0,e:=66,o:=true,xs:=t.2.2.2.1 }),(ls { own:=2,nm:=0,e:=118,o:=true,xs:=t.2.2.2.2 })])]
def aXL:(Bool×(List N10)×(List M9)×(List W2)×(List S10)):=(false,[],[],[],[])
abbrev c69 (m:Y69):WFn cxT:={ nres:=1,n:=0,F:=fnW (cx:=cxT) a69 n69 aXL m,p:=6 }
theorem bC0:∀ t,bN (.inr (.inl (n69 t)):V cxT.ty)=true:=λ_=>rfl
end Go.Proofs.Tryz
