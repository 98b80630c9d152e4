/- A part of the proof of FnExactClusterFault: LiBase, LiCon. -/
import Derived.Test.YtalbnpcbmakijaaGreatVmJ
import Derived.Test.YtalbnpcbmakijaaGreatProg
set_option linter.unusedSimpArgs false
set_option linter.unusedVariables false
namespace Go.Proofs.Tryz
open Go Go.VM Go.RowKit
abbrev E9:Type:=Int×Int×Int×Int×Int×Int×Int×Int×Int
abbrev N10:Type:=Int×Int×Int×Int×(List E9)×Int×Int×(List Int)×(List Int)×(List Int)
abbrev M9:Type:=Int×Int×Int×Int×Int×Int×Int×Bool×(List E9)
abbrev S10:Type:=Int×E9
abbrev W2:Type:=Int×Int
abbrev C4:Type:=(List N10)×(List M9)×(List W2)×(List S10)
def jX (e:Nat):Type:=if e=2 then Int else if e=3 then Int else if e=5 then Int else if e=126 then E9 else if e=102 then E9 else if e=111 then M9 else if e=78 then M9 else if e=108 then N10 else if e=96 then N10 else if e=123 then Int×Int else if e=66 then Int×Int else if e=128 then S10 else if e=118 then S10 else if e=27 then C4 else if e=35 then C4 else if e=31 then List (M9)else if e=187 then List (E9)else Unit
def aVR (e:Nat):jX e:=
 if h2:e=2 then h2.symm▸(((0:Int):Int):jX 2)else if h3:e=3 then h3.symm▸(((0:Int):Int):jX 3)else if h5:e=5 then h5.symm▸(((0:Int):Int):jX 5)else if h126:e=126 then h126.symm▸(((0,0,0,0,0,0,0,0,0):E9):jX 126)else if h102:e=102 then h102.symm▸(((0,0,0,0,0,0,0,0,0):E9):jX 102)else if h111:e=111 then h111.symm▸(((0,0,0,0,0,0,0,false,[]):M9):jX 111)else if h78:e=78 then h78.symm▸(((0,0,0,0,0,0,0,false,[]):M9):jX 78)else if h108:e=108 then h108.symm▸(((0,0,0,0,[],0,0,[],[],[]):N10):jX 108)else if h96:e=96 then h96.symm▸(((0,0,0,0,[],0,0,[],[],[]):N10):jX 96)else if h123:e=123 then h123.symm▸(((0,0):Int×Int):jX 123)else if h66:e=66 then h66.symm▸(((0,0):Int×Int):jX 66)else if h128:e=128 then h128.symm▸(((0,0,0,0,0,0,0,0,0,0):S10):jX 128)else if h118:e=118 then h118.symm▸(((0,0,0,0,0,0,0,0,0,0):S10):jX 118)else if h27:e=27 then h27.symm▸((([],[],[],[]):C4):jX 27)else if h35:e=35 then h35.symm▸((([],[],[],[]):C4):jX 35)else if h31:e=31 then h31.symm▸(([]:List (M9)):jX 31)else if h187:e=187 then h187.symm▸(([]:List (E9)):jX 187)else(by unfold jX;simp only[*,if_false];exact())
def cd2:Cd jX (jX 2):=dB .i64
def cd3:Cd jX (jX 3):=dB .i64
def cd5:Cd jX (jX 5):=dB .u8
def aSj:Cd jX (jX 126):=bW (dB .i64) (bW (dB .i64) (bW (dB .i64) (bW (dB .i64) (bW (dB .i64) (bW (dB .i64) (bW (dB .i64) (bW (dB .i64) (dB .i64))))))))
def aSo:Cd jX (jX 102):=bW (dB .i64) (bW (dB .i64) (bW (dB .i64) (bW (dB .i64) (bW (dB .i64) (bW (dB .i64) (bW (dB .i64) (bW (dB .i64) (dB .i64))))))))
def aSm:Cd jX (jX 111):=bW (dB .i64) (bW (dB .i64) (bW (dB .i64) (bW (dB .i64) (bW (dB .i64) (bW (dB .i64) (bW (dB .i64) (bW aHK (jE 126))))))))
def aXN:Cd jX (jX 78):=bW (dB .i64) (bW (dB .i64) (bW (dB .i64) (bW (dB .i64) (bW (dB .i64) (bW (dB .i64) (bW (dB .i64) (bW aHK (jE 102))))))))
def aSn:Cd jX (jX 108):=bW (dB .i64) (bW (dB .i64) (bW (dB .i64) (bW (dB .i64) (bW (jE 126) (bW (dB .i64) (bW (dB .i64) (bW (jE 2) (bW (jE 2) (jE 2)))))))))
def aXM:Cd jX (jX 96):=bW (dB .i64) (bW (dB .i64) (bW (dB .i64) (bW (dB .i64) (bW (jE 102) (bW (dB .i64) (bW (dB .i64) (bW (jE 2) (bW (jE 2) (jE 2)))))))))
def aSk:Cd jX (jX 123):=bW (dB .i64) (dB .i64)
def aXO:Cd jX (jX 66):=bW (dB .i64) (dB .i64)
def aSi:Cd jX (jX 128):=bW (dB .i64) (bW (dB .i64) (bW (dB .i64) (bW (dB .i64) (bW (dB .i64) (bW (dB .i64) (bW (dB .i64) (bW (dB .i64) (bW (dB .i64) (dB .i64)))))))))
def aSl:Cd jX (jX 118):=bW (dB .i64) (bW (dB .i64) (bW (dB .i64) (bW (dB .i64) (bW (dB .i64) (bW (dB .i64) (bW (dB .i64) (bW (dB .i64) (bW (dB .i64) (dB .i64)))))))))
def aXR:Cd jX (jX 27):=bW (jE 108) (bW (jE 111) (bW (jE 123) (jE 128)))
def aXP:Cd jX (jX 35):=bW (jE 96) (bW (jE 78) (bW (jE 66) (jE 118)))
def aXQ:Cd jX (jX 31):=jE 78
def aSh:Cd jX (jX 187):=jE 102
def cdT (e:Nat):Cd jX (jX e):=
 if h:e=2 then h.symm▸cd2 else if h:e=3 then h.symm▸cd3 else if h:e=5 then h.symm▸cd5 else if h:e=126 then h.symm▸aSj else if h:e=102 then h.symm▸aSo else if h:e=111 then h.symm▸aSm else if h:e=78 then h.symm▸aXN else if h:e=108 then h.symm▸aSn else if h:e=96 then h.symm▸aXM else if h:e=123 then h.symm▸aSk else if h:e=66 then h.symm▸aXO else if h:e=128 then h.symm▸aSi else if h:e=118 then h.symm▸aSl else if h:e=27 then h.symm▸aXR else if h:e=35 then h.symm▸aXP else if h:e=31 then h.symm▸aXQ else if h:e=187 then h.symm▸aSh else aND (aVR e)
def cxT:Cx:=Cx.of cdT
theorem bD:cxT.Ok:=Cx.of_ok cdT
set_option maxRecDepth 100000 in
theorem aAY {e:Nat}(h:(cdT e).dom=true):e=2\/e=3\/e=5\/e=126\/e=102\/e=123\/e=66\/e=128\/e=118:=by
 by_cases h0:e=2
 ·exact .inl h0
 by_cases h1:e=3
 ·exact .inr (.inl h1)
 by_cases h2:e=5
 ·exact .inr (.inr (.inl h2))
 by_cases h3:e=126
 ·exact .inr (.inr (.inr (.inl h3)))
 by_cases h4:e=102
 ·exact .inr (.inr (.inr (.inr (.inl h4))))
 by_cases h5:e=111
 ·subst h5;exact absurd h (by intro hh;cases (show false=true from hh))
 by_cases h6:e=78
 ·subst h6;exact absurd h (by intro hh;cases (show false=true from hh))
 by_cases h7:e=108
 ·subst h7;exact absurd h (by intro hh;cases (show false=true from hh))
 by_cases h8:e=96
 ·subst h8;exact absurd h (by intro hh;cases (show false=true from hh))
 by_cases h9:e=123
 ·exact .inr (.inr (.inr (.inr (.inr (.inl h9)))))
 by_cases h10:e=66
 ·exact .inr (.inr (.inr (.inr (.inr (.inr (.inl h10))))))
 by_cases h11:e=128
 ·exact .inr (.inr (.inr (.inr (.inr (.inr (.inr (.inl h11)))))))
 by_cases h12:e=118
 ·exact .inr (.inr (.inr (.inr (.inr (.inr (.inr (.inr (h12))))))))
 by_cases h13:e=27
 ·subst h13;exact absurd h (by intro hh;cases (show false=true from hh))
 by_cases h14:e=35
 ·subst h14;exact absurd h (by intro hh;cases (show false=true from hh))
 by_cases h15:e=31
 ·subst h15;exact absurd h (by intro hh;cases (show false=true from hh))
 by_cases h16:e=187
 ·subst h16;exact absurd h (by intro hh;cases (show false=true from hh))
 ·unfold cdT at h;rw[dif_neg h0,dif_neg h1,dif_neg h2,dif_neg h3,dif_neg h4,dif_neg h5,dif_neg h6,dif_neg h7,dif_neg h8,dif_neg h9,dif_neg h10,dif_neg h11,dif_neg h12,dif_neg h13,dif_neg h14,dif_neg h15,dif_neg h16]at h;exact Bool.noConfusion h
set_option maxRecDepth 100000 in
theorem aZ:cxT.POk prog:=by
  refine⟨λe he=>?_,λe he hu o x=>?_⟩
  · rcases aAY he with rfl | rfl | rfl | rfl | rfl | rfl | rfl | rfl | rfl <;>
    exact⟨_,_,rfl,rfl,rfl,by decide,rfl,by decide,rfl⟩
  · rcases aAY he with rfl | rfl | rfl | rfl | rfl | rfl | rfl | rfl | rfl
    · rw[show prog.underlying 2=_ from rfl]at hu;cases hu
    · rw[show prog.underlying 3=_ from rfl]at hu;cases hu
    · exact⟨x,rfl⟩
    · rw[show prog.underlying 126=_ from rfl]at hu;cases hu
    · rw[show prog.underlying 102=_ from rfl]at hu;cases hu
    · rw[show prog.underlying 123=_ from rfl]at hu;cases hu
    · rw[show prog.underlying 66=_ from rfl]at hu;cases hu
    · rw[show prog.underlying 128=_ from rfl]at hu;cases hu
    · rw[show prog.underlying 118=_ from rfl]at hu;cases hu
end Go.Proofs.Tryz
namespace Go.Proofs.Tryz
open Go Go.VM Go.RowKit
abbrev Y3:=C4->Option Bool
def a3:Args cxT.ty C4:=(Args.one (Arg.agg (SArg.cons (LArg.row 108) (SArg.cons (LArg.row 111) (SArg.cons (LArg.row 123) (SArg.one (LArg.row 128)))))))
def n3:Bool->V cxT.ty:=λt=>(.inl (.inl (lv (.bool t))))
def dd3:Bool:=false
abbrev c3 (m:Y3):=fT (cx:=cxT) a3 n3 dd3 m
theorem hs3:∀ t,bV (n3 t)=true\/bF (n3 t)=true:=λ_=>.inl rfl
abbrev Y4:=(C4×Int)->Option Bool
def a4:Args cxT.ty (C4×Int):=(Args.cons (Arg.agg (SArg.cons (LArg.row 108) (SArg.cons (LArg.row 111) (SArg.cons (LArg.row 123) (SArg.one (LArg.row 128)))))) (Args.one (Arg.leaf (LArg.int .i64))))
def n4:Bool->V cxT.ty:=λt=>(.inl (.inl (lv (.bool t))))
def dd4:Bool:=false
abbrev c4 (m:Y4):=fT (cx:=cxT) a4 n4 dd4 m
abbrev Y5:=(C4×Int)->Option Bool
def a5:Args cxT.ty (C4×Int):=(Args.cons (Arg.agg (SArg.cons (LArg.row 108) (SArg.cons (LArg.row 111) (SArg.cons (LArg.row 123) (SArg.one (LArg.row 128)))))) (Args.one (Arg.leaf (LArg.int .i64))))
def n5:Bool->V cxT.ty:=λt=>(.inl (.inl (lv (.bool t))))
def dd5:Bool:=false
abbrev c5 (m:Y5):=fT (cx:=cxT) a5 n5 dd5 m
def a6:Args cxT.ty (C4×Int):=(Args.cons (Arg.agg (SArg.cons (LArg.row 108) (SArg.cons (LArg.row 111) (SArg.cons (LArg.row 123) (SArg.one (LArg.row 128)))))) (Args.one (Arg.leaf (LArg.int .i64))))
def n6:Bool->V cxT.ty:=λt=>(.inl (.inl (lv (.bool t))))
def n7:Bool->V cxT.ty:=λt=>(.inl (.inl (lv (.bool t))))
def n8:Bool->V cxT.ty:=λt=>(.inl (.inl (lv (.bool t))))
def n9:Bool->V cxT.ty:=λt=>(.inl (.inl (lv (.bool t))))
abbrev Y11:=(C4×Int)->Option Int
def a11:Args cxT.ty (C4×Int):=(Args.cons (Arg.agg (SArg.cons (LArg.row 108) (SArg.cons (LArg.row 111) (SArg.cons (LArg.row 123) (SArg.one (LArg.row 128)))))) (Args.one (Arg.leaf (LArg.int .i64))))
def n11:Int->V cxT.ty:=λt=>(.inl (.inl (lv (.int .i64 t))))
def aSf:Int:=(0:Int)
abbrev c11 (m:Y11):=fT (cx:=cxT) a11 n11 aSf m
theorem aWy:∀ t,bV (n11 t)=true\/bF (n11 t)=true:=λ_=>.inl rfl
abbrev Y12:=C4->Option Int
def a12:Args cxT.ty C4:=(Args.one (Arg.agg (SArg.cons (LArg.row 96) (SArg.cons (LArg.row 78) (SArg.cons (LArg.row 66) (SArg.one (LArg.row 118)))))))
def n12:Int->V cxT.ty:=λt=>(.inl (.inl (lv (.int .i64 t))))
def aSe:Int:=(0:Int)
abbrev c12 (m:Y12):=fT (cx:=cxT) a12 n12 aSe m
theorem aWx:∀ t,bV (n12 t)=true\/bF (n12 t)=true:=λ_=>.inl rfl
abbrev Y13:=C4->Option C4
def a13:Args cxT.ty C4:=(Args.one (Arg.agg (SArg.cons (LArg.row 108) (SArg.cons (LArg.row 111) (SArg.cons (LArg.row 123) (SArg.one (LArg.row 128)))))))
def n13:C4->V cxT.ty:=λt=>(.inl (.inr [(ls { own:=2,nm:=0,e:=96,o:=true,xs:=t.1 }),(ls { own:=2,nm:=0,e:=78,o:=true,xs:=t.2.1 }),(ls { own:=2,nm:=0,e:=66,o:=true,xs:=t.2.2.1 }),(ls { own:=2,nm:=0,e:=118,o:=true,xs:=t.2.2.2 })]))
def aSd:C4:=([],[],[],[])
abbrev c13 (m:Y13):=fT (cx:=cxT) a13 n13 aSd m
theorem aWw:∀ t,bV (n13 t)=true\/bF (n13 t)=true:=λ_=>.inl rfl
abbrev Y14:=C4->Option Int
def a14:Args cxT.ty C4:=(Args.one (Arg.agg (SArg.cons (LArg.row 96) (SArg.cons (LArg.row 78) (SArg.cons (LArg.row 66) (SArg.one (LArg.row 118)))))))
def n14:Int->V cxT.ty:=λt=>(.inl (.inl (lv (.int .i64 t))))
def aSb:Int:=(0:Int)
abbrev c14 (m:Y14):=fT (cx:=cxT) a14 n14 aSb m
theorem aWv:∀ t,bV (n14 t)=true\/bF (n14 t)=true:=λ_=>.inl rfl
abbrev Y15:=(C4×C4)->Option Bool
def a15:Args cxT.ty (C4×C4):=(Args.cons (Arg.agg (SArg.cons (LArg.row 96) (SArg.cons (LArg.row 78) (SArg.cons (LArg.row 66) (SArg.one (LArg.row 118)))))) (Args.one (Arg.agg (SArg.cons (LArg.row 96) (SArg.cons (LArg.row 78) (SArg.cons (LArg.row 66) (SArg.one (LArg.row 118))))))))
def n15:Bool->V cxT.ty:=λt=>(.inl (.inl (lv (.bool t))))
def aSa:Bool:=false
abbrev c15 (m:Y15):=fT (cx:=cxT) a15 n15 aSa m
theorem aWu:∀ t,bV (n15 t)=true\/bF (n15 t)=true:=λ_=>.inl rfl
abbrev Y31:=(Int×Int×Int×Int×Int×Int)->Option (Int×Int×Int×Int×Int×Int)
def a31:Args cxT.ty (Int×Int×Int×Int×Int×Int):=(Args.one (Arg.agg (SArg.cons (LArg.int .i64) (SArg.cons (LArg.int .i64) (SArg.cons (LArg.int .i64) (SArg.cons (LArg.int .i64) (SArg.cons (LArg.int .i64) (SArg.one (LArg.int .i64)))))))))
def n31:(Int×Int×Int×Int×Int×Int)->V cxT.ty:=λt=>(.inl (.inr [(lv (.int .i64 t.1)),(lv (.int .i64 t.2.1)),(lv (.int .i64 t.2.2.1)),(lv (.int .i64 t.2.2.2.1)),(lv (.int .i64 t.2.2.2.2.1)),(lv (.int .i64 t.2.2.2.2.2))]))
def aR8:(Int×Int×Int×Int×Int×Int):=((0:Int),(0:Int),(0:Int),(0:Int),(0:Int),(0:Int))
abbrev c31 (m:Y31):=fT (cx:=cxT) a31 n31 aR8 m
theorem aWt:∀ t,bV (n31 t)=true\/bF (n31 t)=true:=λ_=>.inl rfl
abbrev Y35:=((List N10)×Int)->Option Int
def a35:Args cxT.ty ((List N10)×Int):=(Args.cons (Arg.leaf (LArg.row 108)) (Args.one (Arg.leaf (LArg.int .i64))))
def n35:Int->V cxT.ty:=λt=>(.inl (.inl (lv (.int .i64 t))))
def aR7:Int:=(0:Int)
abbrev c35 (m:Y35):=fT (cx:=cxT) a35 n35 aR7 m
theorem aWs:∀ t,bV (n35 t)=true\/bF (n35 t)=true:=λ_=>.inl rfl
abbrev Y36:=((List M9)×Int)->Option Int
def a36:Args cxT.ty ((List M9)×Int):=(Args.cons (Arg.leaf (LArg.row 111)) (Args.one (Arg.leaf (LArg.int .i64))))
def n36:Int->V cxT.ty:=λt=>(.inl (.inl (lv (.int .i64 t))))
def aR6:Int:=(0:Int)
abbrev c36 (m:Y36):=fT (cx:=cxT) a36 n36 aR6 m
theorem aWr:∀ t,bV (n36 t)=true\/bF (n36 t)=true:=λ_=>.inl rfl
abbrev Y37:=((List W2)×Int)->Option Int
def a37:Args cxT.ty ((List W2)×Int):=(Args.cons (Arg.leaf (LArg.row 123)) (Args.one (Arg.leaf (LArg.int .i64))))
def n37:Int->V cxT.ty:=λt=>(.inl (.inl (lv (.int .i64 t))))
def aR5:Int:=(0:Int)
abbrev c37 (m:Y37):=fT (cx:=cxT) a37 n37 aR5 m
theorem aWq:∀ t,bV (n37 t)=true\/bF (n37 t)=true:=λ_=>.inl rfl
abbrev Y38:=((List S10)×Int)->Option Int
def a38:Args cxT.ty ((List S10)×Int):=(Args.cons (Arg.leaf (LArg.row 128)) (Args.one (Arg.leaf (LArg.int .i64))))
def n38:Int->V cxT.ty:=λt=>(.inl (.inl (lv (.int .i64 t))))
def aR4:Int:=(0:Int)
abbrev c38 (m:Y38):=fT (cx:=cxT) a38 n38 aR4 m
theorem aWp:∀ t,bV (n38 t)=true\/bF (n38 t)=true:=λ_=>.inl rfl
abbrev Y39:=C4->Option Int
def a39:Args cxT.ty C4:=(Args.one (Arg.leaf (LArg.ptr 35)))
def uT:Int->V cxT.ty:=λt=>(.inl (.inl (lv (.int .i64 t))))
def aR3:Int:=(0:Int)
abbrev c39 (m:Y39):=fT (cx:=cxT) a39 uT aR3 m
theorem aWo:∀ t,bV (uT t)=true\/bF (uT t)=true:=λ_=>.inl rfl
abbrev Y40:=(List N10)->Option (List N10)
def a40:Args cxT.ty (List N10):=(Args.one (Arg.leaf (LArg.row 108)))
def n40:(List N10)->V cxT.ty:=λt=>(.inl (.inl (ls { own:=2,nm:=0,e:=96,o:=true,xs:=t })))
def aR2:(List N10):=[]
abbrev c40 (m:Y40):=fT (cx:=cxT) a40 n40 aR2 m
theorem aWn:∀ t,bV (n40 t)=true\/bF (n40 t)=true:=λ_=>.inl rfl
abbrev Y41:=(List M9)->Option (List M9)
def a41:Args cxT.ty (List M9):=(Args.one (Arg.leaf (LArg.row 111)))
def n41:(List M9)->V cxT.ty:=λt=>(.inl (.inl (ls { own:=2,nm:=0,e:=78,o:=true,xs:=t })))
def aR1:(List M9):=[]
abbrev c41 (m:Y41):=fT (cx:=cxT) a41 n41 aR1 m
theorem aWm:∀ t,bV (n41 t)=true\/bF (n41 t)=true:=λ_=>.inl rfl
abbrev Y42:=(List W2)->Option (List W2)
def a42:Args cxT.ty (List W2):=(Args.one (Arg.leaf (LArg.row 123)))
def n42:(List W2)->V cxT.ty:=λt=>(.inl (.inl (ls { own:=2,nm:=0,e:=66,o:=true,xs:=t })))
def aR0:(List W2):=[]
abbrev c42 (m:Y42):=fT (cx:=cxT) a42 n42 aR0 m
theorem aWl:∀ t,bV (n42 t)=true\/bF (n42 t)=true:=λ_=>.inl rfl
abbrev Y43:=(List S10)->Option (List S10)
def a43:Args cxT.ty (List S10):=(Args.one (Arg.leaf (LArg.row 128)))
def n43:(List S10)->V cxT.ty:=λt=>(.inl (.inl (ls { own:=2,nm:=0,e:=118,o:=true,xs:=t })))
def aRZ:(List S10):=[]
abbrev c43 (m:Y43):=fT (cx:=cxT) a43 n43 aRZ m
theorem aWk:∀ t,bV (n43 t)=true\/bF (n43 t)=true:=λ_=>.inl rfl
abbrev Y44:=Int->Option Bool
def a44:Args cxT.ty Int:=(Args.one (Arg.leaf (LArg.int .i64)))
def n44:Bool->V cxT.ty:=λt=>(.inl (.inl (lv (.bool t))))
def aRY:Bool:=false
abbrev c44 (m:Y44):=fT (cx:=cxT) a44 n44 aRY m
theorem aWj:∀ t,bV (n44 t)=true\/bF (n44 t)=true:=λ_=>.inl rfl
abbrev Y45:=(List N10)->Option Int
def a45:Args cxT.ty (List N10):=(Args.one (Arg.leaf (LArg.row 96)))
def n45:Int->V cxT.ty:=λt=>(.inl (.inl (lv (.int .i64 t))))
def aRX:Int:=(0:Int)
abbrev c45 (m:Y45):=fT (cx:=cxT) a45 n45 aRX m
theorem aWi:∀ t,bV (n45 t)=true\/bF (n45 t)=true:=λ_=>.inl rfl
abbrev Y46:=((List N10)×(List M9))->Option Int
def a46:Args cxT.ty ((List N10)×(List M9)):=(Args.cons (Arg.leaf (LArg.row 96)) (Args.one (Arg.leaf (LArg.row 78))))
def n46:Int->V cxT.ty:=λt=>(.inl (.inl (lv (.int .i64 t))))
def aRW:Int:=(0:Int)
abbrev c46 (m:Y46):=fT (cx:=cxT) a46 n46 aRW m
theorem aWh:∀ t,bV (n46 t)=true\/bF (n46 t)=true:=λ_=>.inl rfl
abbrev Y47:=Int->Option Bool
def a47:Args cxT.ty Int:=(Args.one (Arg.leaf (LArg.int .i64)))
def n47:Bool->V cxT.ty:=λt=>(.inl (.inl (lv (.bool t))))
def aRV:Bool:=false
abbrev c47 (m:Y47):=fT (cx:=cxT) a47 n47 aRV m
theorem aWg:∀ t,bV (n47 t)=true\/bF (n47 t)=true:=λ_=>.inl rfl
abbrev Y48:=(Int×Int)->Option Bool
def a48:Args cxT.ty (Int×Int):=(Args.cons (Arg.leaf (LArg.int .i64)) (Args.one (Arg.leaf (LArg.int .i64))))
def n48:Bool->V cxT.ty:=λt=>(.inl (.inl (lv (.bool t))))
def aRU:Bool:=false
abbrev c48 (m:Y48):=fT (cx:=cxT) a48 n48 aRU m
theorem aWf:∀ t,bV (n48 t)=true\/bF (n48 t)=true:=λ_=>.inl rfl
abbrev Y49:=(List S10)->Option Int
def a49:Args cxT.ty (List S10):=(Args.one (Arg.leaf (LArg.row 118)))
def n49:Int->V cxT.ty:=λt=>(.inl (.inl (lv (.int .i64 t))))
def aRT:Int:=(0:Int)
abbrev c49 (m:Y49):=fT (cx:=cxT) a49 n49 aRT m
theorem aWe:∀ t,bV (n49 t)=true\/bF (n49 t)=true:=λ_=>.inl rfl
abbrev Y50:=((List N10)×(List N10))->Option Bool
def a50:Args cxT.ty ((List N10)×(List N10)):=(Args.cons (Arg.leaf (LArg.row 96)) (Args.one (Arg.leaf (LArg.row 96))))
def n50:Bool->V cxT.ty:=λt=>(.inl (.inl (lv (.bool t))))
def aRS:Bool:=false
abbrev c50 (m:Y50):=fT (cx:=cxT) a50 n50 aRS m
theorem aWd:∀ t,bV (n50 t)=true\/bF (n50 t)=true:=λ_=>.inl rfl
abbrev Y51:=((List M9)×(List M9))->Option Bool
def a51:Args cxT.ty ((List M9)×(List M9)):=(Args.cons (Arg.leaf (LArg.row 78)) (Args.one (Arg.leaf (LArg.row 78))))
def n51:Bool->V cxT.ty:=λt=>(.inl (.inl (lv (.bool t))))
def aRR:Bool:=false
abbrev c51 (m:Y51):=fT (cx:=cxT) a51 n51 aRR m
theorem aWc:∀ t,bV (n51 t)=true\/bF (n51 t)=true:=λ_=>.inl rfl
abbrev Y52:=((List W2)×(List W2))->Option Bool
def a52:Args cxT.ty ((List W2)×(List W2)):=(Args.cons (Arg.leaf (LArg.row 66)) (Args.one (Arg.leaf (LArg.row 66))))
def n52:Bool->V cxT.ty:=λt=>(.inl (.inl (lv (.bool t))))
def aRQ:Bool:=false
abbrev c52 (m:Y52):=fT (cx:=cxT) a52 n52 aRQ m
theorem aWb:∀ t,bV (n52 t)=true\/bF (n52 t)=true:=λ_=>.inl rfl
abbrev Y53:=((List S10)×(List S10))->Option Bool
def a53:Args cxT.ty ((List S10)×(List S10)):=(Args.cons (Arg.leaf (LArg.row 118)) (Args.one (Arg.leaf (LArg.row 118))))
def n53:Bool->V cxT.ty:=λt=>(.inl (.inl (lv (.bool t))))
def aRP:Bool:=false
abbrev c53 (m:Y53):=fT (cx:=cxT) a53 n53 aRP m
theorem aWa:∀ t,bV (n53 t)=true\/bF (n53 t)=true:=λ_=>.inl rfl
abbrev Y83:=(N10×Int)->Option Int
def a83:Args cxT.ty (N10×Int):=(Args.cons (Arg.agg (SArg.cons (LArg.int .i64) (SArg.cons (LArg.int .i64) (SArg.cons (LArg.int .i64) (SArg.cons (LArg.int .i64) (SArg.cons (LArg.row 126) (SArg.cons (LArg.int .i64) (SArg.cons (LArg.int .i64) (SArg.cons (LArg.row 2) (SArg.cons (LArg.row 2) (SArg.one (LArg.row 2)))))))))))) (Args.one (Arg.leaf (LArg.int .i64))))
def n83:Int->V cxT.ty:=λt=>(.inl (.inl (lv (.int .i64 t))))
def aRO:Int:=(0:Int)
abbrev c83 (m:Y83):=fT (cx:=cxT) a83 n83 aRO m
theorem aV9:∀ t,bV (n83 t)=true\/bF (n83 t)=true:=λ_=>.inl rfl
abbrev Y84:=(M9×Int)->Option Int
def a84:Args cxT.ty (M9×Int):=(Args.cons (Arg.agg (SArg.cons (LArg.int .i64) (SArg.cons (LArg.int .i64) (SArg.cons (LArg.int .i64) (SArg.cons (LArg.int .i64) (SArg.cons (LArg.int .i64) (SArg.cons (LArg.int .i64) (SArg.cons (LArg.int .i64) (SArg.cons LArg.bool (SArg.one (LArg.row 126))))))))))) (Args.one (Arg.leaf (LArg.int .i64))))
def n84:Int->V cxT.ty:=λt=>(.inl (.inl (lv (.int .i64 t))))
def aRN:Int:=(0:Int)
abbrev c84 (m:Y84):=fT (cx:=cxT) a84 n84 aRN m
theorem aV8:∀ t,bV (n84 t)=true\/bF (n84 t)=true:=λ_=>.inl rfl
abbrev Y85:=N10->Option Int
def a85:Args cxT.ty N10:=(Args.one (Arg.leaf (LArg.ptr 96)))
def n85:Int->V cxT.ty:=λt=>(.inl (.inl (lv (.int .i64 t))))
def aRM:Int:=(0:Int)
abbrev c85 (m:Y85):=fT (cx:=cxT) a85 n85 aRM m
theorem aV7:∀ t,bV (n85 t)=true\/bF (n85 t)=true:=λ_=>.inl rfl
abbrev Y86:=(C4×Int)->Option Bool
def a86:Args cxT.ty (C4×Int):=(Args.cons (Arg.leaf (LArg.ptr 35)) (Args.one (Arg.leaf (LArg.int .i64))))
def n86:Bool->V cxT.ty:=λt=>(.inl (.inl (lv (.bool t))))
def aRL:Bool:=false
abbrev c86 (m:Y86):=fT (cx:=cxT) a86 n86 aRL m
theorem aV6:∀ t,bV (n86 t)=true\/bF (n86 t)=true:=λ_=>.inl rfl
abbrev Y87:=(N10×M9)->Option Int
def a87:Args cxT.ty (N10×M9):=(Args.cons (Arg.leaf (LArg.ptr 96)) (Args.one (Arg.agg (SArg.cons (LArg.int .i64) (SArg.cons (LArg.int .i64) (SArg.cons (LArg.int .i64) (SArg.cons (LArg.int .i64) (SArg.cons (LArg.int .i64) (SArg.cons (LArg.int .i64) (SArg.cons (LArg.int .i64) (SArg.cons LArg.bool (SArg.one (LArg.row 102)))))))))))))
def n87:Int->V cxT.ty:=λt=>(.inl (.inl (lv (.int .i64 t))))
def aRK:Int:=(0:Int)
abbrev c87 (m:Y87):=fT (cx:=cxT) a87 n87 aRK m
theorem aV5:∀ t,bV (n87 t)=true\/bF (n87 t)=true:=λ_=>.inl rfl
abbrev Y88:=(Int×Int×Int)->Option Bool
def a88:Args cxT.ty (Int×Int×Int):=(Args.cons (Arg.leaf (LArg.int .i64)) (Args.cons (Arg.leaf (LArg.int .i64)) (Args.one (Arg.leaf (LArg.int .i64)))))
def n88:Bool->V cxT.ty:=λt=>(.inl (.inl (lv (.bool t))))
def aRJ:Bool:=false
abbrev vE (m:Y88):=fT (cx:=cxT) a88 n88 aRJ m
theorem aV4:∀ t,bV (n88 t)=true\/bF (n88 t)=true:=λ_=>.inl rfl
abbrev Y89:=E9->Option Int
def a89:Args cxT.ty E9:=(Args.one (Arg.agg (SArg.cons (LArg.int .i64) (SArg.cons (LArg.int .i64) (SArg.cons (LArg.int .i64) (SArg.cons (LArg.int .i64) (SArg.cons (LArg.int .i64) (SArg.cons (LArg.int .i64) (SArg.cons (LArg.int .i64) (SArg.cons (LArg.int .i64) (SArg.one (LArg.int .i64))))))))))))
def n89:Int->V cxT.ty:=λt=>(.inl (.inl (lv (.int .i64 t))))
def aRI:Int:=(0:Int)
abbrev c89 (m:Y89):=fT (cx:=cxT) a89 n89 aRI m
theorem aV3:∀ t,bV (n89 t)=true\/bF (n89 t)=true:=λ_=>.inl rfl
abbrev Y90:=N10->Option N10
def a90:Args cxT.ty N10:=(Args.one (Arg.agg (SArg.cons (LArg.int .i64) (SArg.cons (LArg.int .i64) (SArg.cons (LArg.int .i64) (SArg.cons (LArg.int .i64) (SArg.cons (LArg.row 126) (SArg.cons (LArg.int .i64) (SArg.cons (LArg.int .i64) (SArg.cons (LArg.row 2) (SArg.cons (LArg.row 2) (SArg.one (LArg.row 2)))))))))))))
def n90:N10->V cxT.ty:=λt=>(.inl (.inr [(lv (.int .i64 t.1)),(lv (.int .i64 t.2.1)),(lv (.int .i64 t.2.2.1)),(lv (.int .i64 t.2.2.2.1)),(ls { own:=2,nm:=0,e:=102,o:=true,xs:=t.2.2.2.2.1 }),(lv (.int .i64 t.2.2.2.2.2.1)),(lv (.int .i64 t.2.2.2.2.2.2.1)),(ls { own:=2,nm:=0,e:=2,o:=true,xs:=t.2.2.2.2.2.2.2.1 }),(ls { own:=2,nm:=0,e:=2,o:=true,xs:=t.2.2.2.2.2.2.2.2.1 }),(ls { own:=2,nm:=0,e:=2,o:=true,xs:=t.2.2.2.2.2.2.2.2.2 })]))
def aRH:N10:=((0:Int),(0:Int),(0:Int),(0:Int),[],(0:Int),(0:Int),[],[],[])
abbrev c90 (m:Y90):=fT (cx:=cxT) a90 n90 aRH m
theorem aV2:∀ t,bV (n90 t)=true\/bF (n90 t)=true:=λ_=>.inl rfl
abbrev Y91:=M9->Option M9
def a91:Args cxT.ty M9:=(Args.one (Arg.agg (SArg.cons (LArg.int .i64) (SArg.cons (LArg.int .i64) (SArg.cons (LArg.int .i64) (SArg.cons (LArg.int .i64) (SArg.cons (LArg.int .i64) (SArg.cons (LArg.int .i64) (SArg.cons (LArg.int .i64) (SArg.cons LArg.bool (SArg.one (LArg.row 126))))))))))))
def n91:M9->V cxT.ty:=λt=>(.inl (.inr [(lv (.int .i64 t.1)),(lv (.int .i64 t.2.1)),(lv (.int .i64 t.2.2.1)),(lv (.int .i64 t.2.2.2.1)),(lv (.int .i64 t.2.2.2.2.1)),(lv (.int .i64 t.2.2.2.2.2.1)),(lv (.int .i64 t.2.2.2.2.2.2.1)),(lv (.bool t.2.2.2.2.2.2.2.1)),(ls { own:=2,nm:=0,e:=102,o:=true,xs:=t.2.2.2.2.2.2.2.2 })]))
def aRG:M9:=((0:Int),(0:Int),(0:Int),(0:Int),(0:Int),(0:Int),(0:Int),false,[])
abbrev c91 (m:Y91):=fT (cx:=cxT) a91 n91 aRG m
theorem aV1:∀ t,bV (n91 t)=true\/bF (n91 t)=true:=λ_=>.inl rfl
abbrev Y92:=(Int×Int)->Option (Int×Int)
def a92:Args cxT.ty (Int×Int):=(Args.one (Arg.agg (SArg.cons (LArg.int .i64) (SArg.one (LArg.int .i64)))))
def n92:(Int×Int)->V cxT.ty:=λt=>(.inl (.inr [(lv (.int .i64 t.1)),(lv (.int .i64 t.2))]))
def aRF:(Int×Int):=((0:Int),(0:Int))
abbrev c92 (m:Y92):=fT (cx:=cxT) a92 n92 aRF m
theorem aV0:∀ t,bV (n92 t)=true\/bF (n92 t)=true:=λ_=>.inl rfl
abbrev Y93:=S10->Option S10
def a93:Args cxT.ty S10:=(Args.one (Arg.agg (SArg.cons (LArg.int .i64) (SArg.cons (LArg.int .i64) (SArg.cons (LArg.int .i64) (SArg.cons (LArg.int .i64) (SArg.cons (LArg.int .i64) (SArg.cons (LArg.int .i64) (SArg.cons (LArg.int .i64) (SArg.cons (LArg.int .i64) (SArg.cons (LArg.int .i64) (SArg.one (LArg.int .i64)))))))))))))
def n93:S10->V cxT.ty:=λt=>(.inl (.inr [(lv (.int .i64 t.1)),(lv (.int .i64 t.2.1)),(lv (.int .i64 t.2.2.1)),(lv (.int .i64 t.2.2.2.1)),(lv (.int .i64 t.2.2.2.2.1)),(lv (.int .i64 t.2.2.2.2.2.1)),(lv (.int .i64 t.2.2.2.2.2.2.1)),(lv (.int .i64 t.2.2.2.2.2.2.2.1)),(lv (.int .i64 t.2.2.2.2.2.2.2.2.1)),(lv (.int .i64 t.2.2.2.2.2.2.2.2.2))]))
def aRE:S10:=((0:Int),(0:Int),(0:Int),(0:Int),(0:Int),(0:Int),(0:Int),(0:Int),(0:Int),(0:Int))
abbrev c93 (m:Y93):=fT (cx:=cxT) a93 n93 aRE m
theorem aVZ:∀ t,bV (n93 t)=true\/bF (n93 t)=true:=λ_=>.inl rfl
abbrev Y94:=(Int×Int×Int)->Option Bool
def a94:Args cxT.ty (Int×Int×Int):=(Args.cons (Arg.leaf (LArg.int .i64)) (Args.cons (Arg.leaf (LArg.int .i64)) (Args.one (Arg.leaf (LArg.int .i64)))))
def n94:Bool->V cxT.ty:=λt=>(.inl (.inl (lv (.bool t))))
def aRD:Bool:=false
abbrev c94 (m:Y94):=fT (cx:=cxT) a94 n94 aRD m
theorem aVY:∀ t,bV (n94 t)=true\/bF (n94 t)=true:=λ_=>.inl rfl
abbrev Y95:=N10->Option Int
def a95:Args cxT.ty N10:=(Args.one (Arg.agg (SArg.cons (LArg.int .i64) (SArg.cons (LArg.int .i64) (SArg.cons (LArg.int .i64) (SArg.cons (LArg.int .i64) (SArg.cons (LArg.row 102) (SArg.cons (LArg.int .i64) (SArg.cons (LArg.int .i64) (SArg.cons (LArg.row 2) (SArg.cons (LArg.row 2) (SArg.one (LArg.row 2)))))))))))))
def n95:Int->V cxT.ty:=λt=>(.inl (.inl (lv (.int .i64 t))))
def aRC:Int:=(0:Int)
abbrev c95 (m:Y95):=fT (cx:=cxT) a95 n95 aRC m
theorem aVX:∀ t,bV (n95 t)=true\/bF (n95 t)=true:=λ_=>.inl rfl
abbrev Y96:=(N10×M9)->Option Int
def a96:Args cxT.ty (N10×M9):=(Args.cons (Arg.agg (SArg.cons (LArg.int .i64) (SArg.cons (LArg.int .i64) (SArg.cons (LArg.int .i64) (SArg.cons (LArg.int .i64) (SArg.cons (LArg.row 102) (SArg.cons (LArg.int .i64) (SArg.cons (LArg.int .i64) (SArg.cons (LArg.row 2) (SArg.cons (LArg.row 2) (SArg.one (LArg.row 2)))))))))))) (Args.one (Arg.agg (SArg.cons (LArg.int .i64) (SArg.cons (LArg.int .i64) (SArg.cons (LArg.int .i64) (SArg.cons (LArg.int .i64) (SArg.cons (LArg.int .i64) (SArg.cons (LArg.int .i64) (SArg.cons (LArg.int .i64) (SArg.cons LArg.bool (SArg.one (LArg.row 102)))))))))))))
def n96:Int->V cxT.ty:=λt=>(.inl (.inl (lv (.int .i64 t))))
def aRB:Int:=(0:Int)
abbrev c96 (m:Y96):=fT (cx:=cxT) a96 n96 aRB m
theorem aVW:∀ t,bV (n96 t)=true\/bF (n96 t)=true:=λ_=>.inl rfl
abbrev Y97:=E9->Option Int
def a97:Args cxT.ty E9:=(Args.one (Arg.agg (SArg.cons (LArg.int .i64) (SArg.cons (LArg.int .i64) (SArg.cons (LArg.int .i64) (SArg.cons (LArg.int .i64) (SArg.cons (LArg.int .i64) (SArg.cons (LArg.int .i64) (SArg.cons (LArg.int .i64) (SArg.cons (LArg.int .i64) (SArg.one (LArg.int .i64))))))))))))
def n97:Int->V cxT.ty:=λt=>(.inl (.inl (lv (.int .i64 t))))
def aRA:Int:=(0:Int)
abbrev c97 (m:Y97):=fT (cx:=cxT) a97 n97 aRA m
theorem aVV:∀ t,bV (n97 t)=true\/bF (n97 t)=true:=λ_=>.inl rfl
abbrev Y98:=(N10×N10)->Option Bool
def a98:Args cxT.ty (N10×N10):=(Args.cons (Arg.agg (SArg.cons (LArg.int .i64) (SArg.cons (LArg.int .i64) (SArg.cons (LArg.int .i64) (SArg.cons (LArg.int .i64) (SArg.cons (LArg.row 102) (SArg.cons (LArg.int .i64) (SArg.cons (LArg.int .i64) (SArg.cons (LArg.row 2) (SArg.cons (LArg.row 2) (SArg.one (LArg.row 2)))))))))))) (Args.one (Arg.agg (SArg.cons (LArg.int .i64) (SArg.cons (LArg.int .i64) (SArg.cons (LArg.int .i64) (SArg.cons (LArg.int .i64) (SArg.cons (LArg.row 102) (SArg.cons (LArg.int .i64) (SArg.cons (LArg.int .i64) (SArg.cons (LArg.row 2) (SArg.cons (LArg.row 2) (SArg.one (LArg.row 2))))))))))))))
def n98:Bool->V cxT.ty:=λt=>(.inl (.inl (lv (.bool t))))
def aRz:Bool:=false
abbrev c98 (m:Y98):=fT (cx:=cxT) a98 n98 aRz m
theorem aVU:∀ t,bV (n98 t)=true\/bF (n98 t)=true:=λ_=>.inl rfl
abbrev Y99:=(M9×M9)->Option Bool
def a99:Args cxT.ty (M9×M9):=(Args.cons (Arg.agg (SArg.cons (LArg.int .i64) (SArg.cons (LArg.int .i64) (SArg.cons (LArg.int .i64) (SArg.cons (LArg.int .i64) (SArg.cons (LArg.int .i64) (SArg.cons (LArg.int .i64) (SArg.cons (LArg.int .i64) (SArg.cons LArg.bool (SArg.one (LArg.row 102))))))))))) (Args.one (Arg.agg (SArg.cons (LArg.int .i64) (SArg.cons (LArg.int .i64) (SArg.cons (LArg.int .i64) (SArg.cons (LArg.int .i64) (SArg.cons (LArg.int .i64) (SArg.cons (LArg.int .i64) (SArg.cons (LArg.int .i64) (SArg.cons LArg.bool (SArg.one (LArg.row 102)))))))))))))
def n99:Bool->V cxT.ty:=λt=>(.inl (.inl (lv (.bool t))))
def aRy:Bool:=false
abbrev c99 (m:Y99):=fT (cx:=cxT) a99 n99 aRy m
theorem aVT:∀ t,bV (n99 t)=true\/bF (n99 t)=true:=λ_=>.inl rfl
abbrev Y100:=((Int×Int)×(Int×Int))->Option Bool
def aTH:Args cxT.ty ((Int×Int)×(Int×Int)):=(Args.cons (Arg.agg (SArg.cons (LArg.int .i64) (SArg.one (LArg.int .i64)))) (Args.one (Arg.agg (SArg.cons (LArg.int .i64) (SArg.one (LArg.int .i64))))))
def aFx:Bool->V cxT.ty:=λt=>(.inl (.inl (lv (.bool t))))
def aLp:Bool:=false
abbrev aI8 (m:Y100):=fT (cx:=cxT) aTH aFx aLp m
theorem aQv:∀ t,bV (aFx t)=true\/bF (aFx t)=true:=λ_=>.inl rfl
abbrev Y101:=(S10×S10)->Option Bool
def aTG:Args cxT.ty (S10×S10):=(Args.cons (Arg.agg (SArg.cons (LArg.int .i64) (SArg.cons (LArg.int .i64) (SArg.cons (LArg.int .i64) (SArg.cons (LArg.int .i64) (SArg.cons (LArg.int .i64) (SArg.cons (LArg.int .i64) (SArg.cons (LArg.int .i64) (SArg.cons (LArg.int .i64) (SArg.cons (LArg.int .i64) (SArg.one (LArg.int .i64)))))))))))) (Args.one (Arg.agg (SArg.cons (LArg.int .i64) (SArg.cons (LArg.int .i64) (SArg.cons (LArg.int .i64) (SArg.cons (LArg.int .i64) (SArg.cons (LArg.int .i64) (SArg.cons (LArg.int .i64) (SArg.cons (LArg.int .i64) (SArg.cons (LArg.int .i64) (SArg.cons (LArg.int .i64) (SArg.one (LArg.int .i64))))))))))))))
def aFw:Bool->V cxT.ty:=λt=>(.inl (.inl (lv (.bool t))))
def aLo:Bool:=false
abbrev aI7 (m:Y101):=fT (cx:=cxT) aTG aFw aLo m
theorem aQu:∀ t,bV (aFw t)=true\/bF (aFw t)=true:=λ_=>.inl rfl
abbrev Y124:=(List E9)->Option E9
def aTF:Args cxT.ty (List E9):=(Args.one (Arg.leaf (LArg.row 102)))
def aFv:E9->V cxT.ty:=λt=>(.inl (.inr [(lv (.int .i64 t.1)),(lv (.int .i64 t.2.1)),(lv (.int .i64 t.2.2.1)),(lv (.int .i64 t.2.2.2.1)),(lv (.int .i64 t.2.2.2.2.1)),(lv (.int .i64 t.2.2.2.2.2.1)),(lv (.int .i64 t.2.2.2.2.2.2.1)),(lv (.int .i64 t.2.2.2.2.2.2.2.1)),(lv (.int .i64 t.2.2.2.2.2.2.2.2))]))
def aLn:E9:=((0:Int),(0:Int),(0:Int),(0:Int),(0:Int),(0:Int),(0:Int),(0:Int),(0:Int))
abbrev aFR (m:Y124):=fT (cx:=cxT) aTF aFv aLn m
theorem aQt:∀ t,bV (aFv t)=true\/bF (aFv t)=true:=λ_=>.inl rfl
abbrev Y133:=((List E9)×Int)->Option Int
def aTE:Args cxT.ty ((List E9)×Int):=(Args.cons (Arg.leaf (LArg.row 126)) (Args.one (Arg.leaf (LArg.int .i64))))
def aFu:Int->V cxT.ty:=λt=>(.inl (.inl (lv (.int .i64 t))))
def aLm:Int:=(0:Int)
abbrev aFQ (m:Y133):=fT (cx:=cxT) aTE aFu aLm m
theorem aQs:∀ t,bV (aFu t)=true\/bF (aFu t)=true:=λ_=>.inl rfl
abbrev Y134:=((List Int)×Int)->Option Int
def aTD:Args cxT.ty ((List Int)×Int):=(Args.cons (Arg.leaf (LArg.row 2)) (Args.one (Arg.leaf (LArg.int .i64))))
def aFt:Int->V cxT.ty:=λt=>(.inl (.inl (lv (.int .i64 t))))
def aLl:Int:=(0:Int)
abbrev aI6 (m:Y134):=fT (cx:=cxT) aTD aFt aLl m
theorem aQr:∀ t,bV (aFt t)=true\/bF (aFt t)=true:=λ_=>.inl rfl
abbrev Y135:=(N10×Int)->Option Bool
def aTC:Args cxT.ty (N10×Int):=(Args.cons (Arg.leaf (LArg.ptr 96)) (Args.one (Arg.leaf (LArg.int .i64))))
def aFs:Bool->V cxT.ty:=λt=>(.inl (.inl (lv (.bool t))))
def aLk:Bool:=false
abbrev aCM (m:Y135):=fT (cx:=cxT) aTC aFs aLk m
theorem aQq:∀ t,bV (aFs t)=true\/bF (aFs t)=true:=λ_=>.inl rfl
abbrev Y136:=(List E9)->Option Int
def aTB:Args cxT.ty (List E9):=(Args.one (Arg.leaf (LArg.row 102)))
def xP:Int->V cxT.ty:=λt=>(.inl (.inl (lv (.int .i64 t))))
def aLj:Int:=(0:Int)
abbrev aFP (m:Y136):=fT (cx:=cxT) aTB xP aLj m
theorem aQp:∀ t,bV (xP t)=true\/bF (xP t)=true:=λ_=>.inl rfl
abbrev Y137:=N10->Option Bool
def aTA:Args cxT.ty N10:=(Args.one (Arg.leaf (LArg.ptr 96)))
def xO:Bool->V cxT.ty:=λt=>(.inl (.inl (lv (.bool t))))
def aLi:Bool:=false
abbrev aI5 (m:Y137):=fT (cx:=cxT) aTA xO aLi m
theorem aQo:∀ t,bV (xO t)=true\/bF (xO t)=true:=λ_=>.inl rfl
abbrev Y138:=M9->Option Bool
def aTz:Args cxT.ty M9:=(Args.one (Arg.agg (SArg.cons (LArg.int .i64) (SArg.cons (LArg.int .i64) (SArg.cons (LArg.int .i64) (SArg.cons (LArg.int .i64) (SArg.cons (LArg.int .i64) (SArg.cons (LArg.int .i64) (SArg.cons (LArg.int .i64) (SArg.cons LArg.bool (SArg.one (LArg.row 102))))))))))))
def aFr:Bool->V cxT.ty:=λt=>(.inl (.inl (lv (.bool t))))
def aLh:Bool:=false
abbrev aI4 (m:Y138):=fT (cx:=cxT) aTz aFr aLh m
theorem aQn:∀ t,bV (aFr t)=true\/bF (aFr t)=true:=λ_=>.inl rfl
abbrev Y139:=(Int×Int×Int×Int×Int×Int)->Option Int
def aXV:Args cxT.ty (Int×Int×Int×Int×Int×Int):=(Args.one (Arg.agg (SArg.cons (LArg.int .i64) (SArg.cons (LArg.int .i64) (SArg.cons (LArg.int .i64) (SArg.cons (LArg.int .i64) (SArg.cons (LArg.int .i64) (SArg.one (LArg.int .i64)))))))))
def aVL:Int->V cxT.ty:=λt=>(.inl (.inl (lv (.int .i64 t))))
def aSc:Int:=(0:Int)
abbrev aNG (m:Y139):=fT (cx:=cxT) aXV aVL aSc m
abbrev Y140:=(List E9)->Option (List E9)
def aTy:Args cxT.ty (List E9):=(Args.one (Arg.leaf (LArg.row 126)))
def xN:(List E9)->V cxT.ty:=λt=>(.inl (.inl (ls { own:=2,nm:=0,e:=102,o:=true,xs:=t })))
def aLg:(List E9):=[]
abbrev aFO (m:Y140):=fT (cx:=cxT) aTy xN aLg m
theorem aQm:∀ t,bV (xN t)=true\/bF (xN t)=true:=λ_=>.inl rfl
abbrev Y141:=(List Int)->Option (List Int)
def aTx:Args cxT.ty (List Int):=(Args.one (Arg.leaf (LArg.row 2)))
def xM:(List Int)->V cxT.ty:=λt=>(.inl (.inl (ls { own:=2,nm:=0,e:=2,o:=true,xs:=t })))
def aLf:(List Int):=[]
abbrev aI3 (m:Y141):=fT (cx:=cxT) aTx xM aLf m
theorem aQl:∀ t,bV (xM t)=true\/bF (xM t)=true:=λ_=>.inl rfl
abbrev Y142:=E9->Option E9
def aTw:Args cxT.ty E9:=(Args.one (Arg.agg (SArg.cons (LArg.int .i64) (SArg.cons (LArg.int .i64) (SArg.cons (LArg.int .i64) (SArg.cons (LArg.int .i64) (SArg.cons (LArg.int .i64) (SArg.cons (LArg.int .i64) (SArg.cons (LArg.int .i64) (SArg.cons (LArg.int .i64) (SArg.one (LArg.int .i64))))))))))))
def aFq:E9->V cxT.ty:=λt=>(.inl (.inr [(lv (.int .i64 t.1)),(lv (.int .i64 t.2.1)),(lv (.int .i64 t.2.2.1)),(lv (.int .i64 t.2.2.2.1)),(lv (.int .i64 t.2.2.2.2.1)),(lv (.int .i64 t.2.2.2.2.2.1)),(lv (.int .i64 t.2.2.2.2.2.2.1)),(lv (.int .i64 t.2.2.2.2.2.2.2.1)),(lv (.int .i64 t.2.2.2.2.2.2.2.2))]))
def aLe:E9:=((0:Int),(0:Int),(0:Int),(0:Int),(0:Int),(0:Int),(0:Int),(0:Int),(0:Int))
abbrev aFN (m:Y142):=fT (cx:=cxT) aTw aFq aLe m
theorem aQk:∀ t,bV (aFq t)=true\/bF (aFq t)=true:=λ_=>.inl rfl
abbrev Y143:=(Int×Int)->Option Bool
def aTv:Args cxT.ty (Int×Int):=(Args.cons (Arg.leaf (LArg.int .i64)) (Args.one (Arg.leaf (LArg.int .i64))))
def aFp:Bool->V cxT.ty:=λt=>(.inl (.inl (lv (.bool t))))
def aLd:Bool:=false
abbrev aAq (m:Y143):=fT (cx:=cxT) aTv aFp aLd m
theorem aQj:∀ t,bV (aFp t)=true\/bF (aFp t)=true:=λ_=>.inl rfl
abbrev Y144:=Int->Option Bool
def aTu:Args cxT.ty Int:=(Args.one (Arg.leaf (LArg.int .i64)))
def aFo:Bool->V cxT.ty:=λt=>(.inl (.inl (lv (.bool t))))
def aLc:Bool:=false
abbrev aI2 (m:Y144):=fT (cx:=cxT) aTu aFo aLc m
theorem aQi:∀ t,bV (aFo t)=true\/bF (aFo t)=true:=λ_=>.inl rfl
abbrev Y145:=(Int×Int)->Option Bool
def aTt:Args cxT.ty (Int×Int):=(Args.cons (Arg.leaf (LArg.int .i64)) (Args.one (Arg.leaf (LArg.int .i64))))
def aFn:Bool->V cxT.ty:=λt=>(.inl (.inl (lv (.bool t))))
def aLb:Bool:=false
abbrev aI1 (m:Y145):=fT (cx:=cxT) aTt aFn aLb m
theorem aQh:∀ t,bV (aFn t)=true\/bF (aFn t)=true:=λ_=>.inl rfl
abbrev Y146:=Int->Option Bool
def aTs:Args cxT.ty Int:=(Args.one (Arg.leaf (LArg.int .i64)))
def aFm:Bool->V cxT.ty:=λt=>(.inl (.inl (lv (.bool t))))
def aLa:Bool:=false
abbrev aI0 (m:Y146):=fT (cx:=cxT) aTs aFm aLa m
theorem aQg:∀ t,bV (aFm t)=true\/bF (aFm t)=true:=λ_=>.inl rfl
abbrev Y147:=(List E9)->Option Int
def aTr:Args cxT.ty (List E9):=(Args.one (Arg.leaf (LArg.row 102)))
def xL:Int->V cxT.ty:=λt=>(.inl (.inl (lv (.int .i64 t))))
def aK9:Int:=(0:Int)
abbrev aFM (m:Y147):=fT (cx:=cxT) aTr xL aK9 m
theorem aQf:∀ t,bV (xL t)=true\/bF (xL t)=true:=λ_=>.inl rfl
abbrev Y148:=(List E9)->Option E9
def aTq:Args cxT.ty (List E9):=(Args.one (Arg.leaf (LArg.row 102)))
def aFl:E9->V cxT.ty:=λt=>(.inl (.inr [(lv (.int .i64 t.1)),(lv (.int .i64 t.2.1)),(lv (.int .i64 t.2.2.1)),(lv (.int .i64 t.2.2.2.1)),(lv (.int .i64 t.2.2.2.2.1)),(lv (.int .i64 t.2.2.2.2.2.1)),(lv (.int .i64 t.2.2.2.2.2.2.1)),(lv (.int .i64 t.2.2.2.2.2.2.2.1)),(lv (.int .i64 t.2.2.2.2.2.2.2.2))]))
def aK8:E9:=((0:Int),(0:Int),(0:Int),(0:Int),(0:Int),(0:Int),(0:Int),(0:Int),(0:Int))
abbrev aFL (m:Y148):=fT (cx:=cxT) aTq aFl aK8 m
theorem aQe:∀ t,bV (aFl t)=true\/bF (aFl t)=true:=λ_=>.inl rfl
abbrev Y149:=N10->Option Int
def aTp:Args cxT.ty N10:=(Args.one (Arg.leaf (LArg.ptr 96)))
def aFk:Int->V cxT.ty:=λt=>(.inl (.inl (lv (.int .i64 t))))
def aK7:Int:=(0:Int)
abbrev aIZ (m:Y149):=fT (cx:=cxT) aTp aFk aK7 m
theorem aQd:∀ t,bV (aFk t)=true\/bF (aFk t)=true:=λ_=>.inl rfl
abbrev Y150:=N10->Option Bool
def aTo:Args cxT.ty N10:=(Args.one (Arg.leaf (LArg.ptr 96)))
def xK:Bool->V cxT.ty:=λt=>(.inl (.inl (lv (.bool t))))
def aK6:Bool:=false
abbrev aIY (m:Y150):=fT (cx:=cxT) aTo xK aK6 m
theorem aQc:∀ t,bV (xK t)=true\/bF (xK t)=true:=λ_=>.inl rfl
abbrev Y151:=N10->Option Bool
def aTn:Args cxT.ty N10:=(Args.one (Arg.leaf (LArg.ptr 96)))
def aFj:Bool->V cxT.ty:=λt=>(.inl (.inl (lv (.bool t))))
def aK5:Bool:=false
abbrev aIX (m:Y151):=fT (cx:=cxT) aTn aFj aK5 m
theorem aQb:∀ t,bV (aFj t)=true\/bF (aFj t)=true:=λ_=>.inl rfl
abbrev Y152:=((List Int)×Int×Int)->Option Bool
def aTm:Args cxT.ty ((List Int)×Int×Int):=(Args.cons (Arg.leaf (LArg.row 2)) (Args.cons (Arg.leaf (LArg.int .i64)) (Args.one (Arg.leaf (LArg.int .i64)))))
def xJ:Bool->V cxT.ty:=λt=>(.inl (.inl (lv (.bool t))))
def aK4:Bool:=false
abbrev aIW (m:Y152):=fT (cx:=cxT) aTm xJ aK4 m
theorem aQa:∀ t,bV (xJ t)=true\/bF (xJ t)=true:=λ_=>.inl rfl
abbrev Y153:=M9->Option Bool
def aTl:Args cxT.ty M9:=(Args.one (Arg.agg (SArg.cons (LArg.int .i64) (SArg.cons (LArg.int .i64) (SArg.cons (LArg.int .i64) (SArg.cons (LArg.int .i64) (SArg.cons (LArg.int .i64) (SArg.cons (LArg.int .i64) (SArg.cons (LArg.int .i64) (SArg.cons LArg.bool (SArg.one (LArg.row 102))))))))))))
def aFi:Bool->V cxT.ty:=λt=>(.inl (.inl (lv (.bool t))))
def aK3:Bool:=false
abbrev aIV (m:Y153):=fT (cx:=cxT) aTl aFi aK3 m
theorem aP9:∀ t,bV (aFi t)=true\/bF (aFi t)=true:=λ_=>.inl rfl
abbrev Y154:=M9->Option Bool
def aTk:Args cxT.ty M9:=(Args.one (Arg.agg (SArg.cons (LArg.int .i64) (SArg.cons (LArg.int .i64) (SArg.cons (LArg.int .i64) (SArg.cons (LArg.int .i64) (SArg.cons (LArg.int .i64) (SArg.cons (LArg.int .i64) (SArg.cons (LArg.int .i64) (SArg.cons LArg.bool (SArg.one (LArg.row 102))))))))))))
def aFh:Bool->V cxT.ty:=λt=>(.inl (.inl (lv (.bool t))))
def aK2:Bool:=false
abbrev aIU (m:Y154):=fT (cx:=cxT) aTk aFh aK2 m
theorem aP8:∀ t,bV (aFh t)=true\/bF (aFh t)=true:=λ_=>.inl rfl
abbrev Y155:=M9->Option Bool
def aTj:Args cxT.ty M9:=(Args.one (Arg.agg (SArg.cons (LArg.int .i64) (SArg.cons (LArg.int .i64) (SArg.cons (LArg.int .i64) (SArg.cons (LArg.int .i64) (SArg.cons (LArg.int .i64) (SArg.cons (LArg.int .i64) (SArg.cons (LArg.int .i64) (SArg.cons LArg.bool (SArg.one (LArg.row 102))))))))))))
def aFg:Bool->V cxT.ty:=λt=>(.inl (.inl (lv (.bool t))))
def aK1:Bool:=false
abbrev aIT (m:Y155):=fT (cx:=cxT) aTj aFg aK1 m
theorem aP7:∀ t,bV (aFg t)=true\/bF (aFg t)=true:=λ_=>.inl rfl
abbrev Y156:=Int->Option Bool
def aTi:Args cxT.ty Int:=(Args.one (Arg.leaf (LArg.int .i64)))
def aFf:Bool->V cxT.ty:=λt=>(.inl (.inl (lv (.bool t))))
def aK0:Bool:=false
abbrev aIS (m:Y156):=fT (cx:=cxT) aTi aFf aK0 m
theorem aP6:∀ t,bV (aFf t)=true\/bF (aFf t)=true:=λ_=>.inl rfl
abbrev Y157:=Int->Option Bool
def aTh:Args cxT.ty Int:=(Args.one (Arg.leaf (LArg.int .i64)))
def aFe:Bool->V cxT.ty:=λt=>(.inl (.inl (lv (.bool t))))
def aKZ:Bool:=false
abbrev aIR (m:Y157):=fT (cx:=cxT) aTh aFe aKZ m
theorem aP5:∀ t,bV (aFe t)=true\/bF (aFe t)=true:=λ_=>.inl rfl
abbrev Y158:=(Int×Int×Int×Int×Int×Int)->Option Int
def aXU:Args cxT.ty (Int×Int×Int×Int×Int×Int):=(Args.one (Arg.agg (SArg.cons (LArg.int .i64) (SArg.cons (LArg.int .i64) (SArg.cons (LArg.int .i64) (SArg.cons (LArg.int .i64) (SArg.cons (LArg.int .i64) (SArg.one (LArg.int .i64)))))))))
def aVK:Int->V cxT.ty:=λt=>(.inl (.inl (lv (.int .i64 t))))
def aR9:Int:=(0:Int)
abbrev aNF (m:Y158):=fT (cx:=cxT) aXU aVK aR9 m
abbrev Y159:=((List E9)×(List E9))->Option Bool
def aTg:Args cxT.ty ((List E9)×(List E9)):=(Args.cons (Arg.leaf (LArg.row 102)) (Args.one (Arg.leaf (LArg.row 102))))
def xI:Bool->V cxT.ty:=λt=>(.inl (.inl (lv (.bool t))))
def aKY:Bool:=false
abbrev aFK (m:Y159):=fT (cx:=cxT) aTg xI aKY m
theorem aP4:∀ t,bV (xI t)=true\/bF (xI t)=true:=λ_=>.inl rfl
abbrev Y160:=((List Int)×(List Int))->Option Bool
def aTf:Args cxT.ty ((List Int)×(List Int)):=(Args.cons (Arg.leaf (LArg.row 2)) (Args.one (Arg.leaf (LArg.row 2))))
def xH:Bool->V cxT.ty:=λt=>(.inl (.inl (lv (.bool t))))
def aKX:Bool:=false
abbrev aIQ (m:Y160):=fT (cx:=cxT) aTf xH aKX m
theorem aP3:∀ t,bV (xH t)=true\/bF (xH t)=true:=λ_=>.inl rfl
abbrev Y161:=(E9×E9)->Option Bool
def aTe:Args cxT.ty (E9×E9):=(Args.cons (Arg.agg (SArg.cons (LArg.int .i64) (SArg.cons (LArg.int .i64) (SArg.cons (LArg.int .i64) (SArg.cons (LArg.int .i64) (SArg.cons (LArg.int .i64) (SArg.cons (LArg.int .i64) (SArg.cons (LArg.int .i64) (SArg.cons (LArg.int .i64) (SArg.one (LArg.int .i64))))))))))) (Args.one (Arg.agg (SArg.cons (LArg.int .i64) (SArg.cons (LArg.int .i64) (SArg.cons (LArg.int .i64) (SArg.cons (LArg.int .i64) (SArg.cons (LArg.int .i64) (SArg.cons (LArg.int .i64) (SArg.cons (LArg.int .i64) (SArg.cons (LArg.int .i64) (SArg.one (LArg.int .i64)))))))))))))
def aFd:Bool->V cxT.ty:=λt=>(.inl (.inl (lv (.bool t))))
def aKW:Bool:=false
abbrev aFJ (m:Y161):=fT (cx:=cxT) aTe aFd aKW m
theorem aP2:∀ t,bV (aFd t)=true\/bF (aFd t)=true:=λ_=>.inl rfl
abbrev Y182:=(List Int)->Option Bool
def aTd:Args cxT.ty (List Int):=(Args.one (Arg.leaf (LArg.row 2)))
def xG:Bool->V cxT.ty:=λt=>(.inl (.inl (lv (.bool t))))
def aKV:Bool:=false
abbrev aIP (m:Y182):=fT (cx:=cxT) aTd xG aKV m
theorem aP1:∀ t,bV (xG t)=true\/bF (xG t)=true:=λ_=>.inl rfl
abbrev Y183:=Int->Option (Bool×Bool×Bool×Bool)
def aTc:Args cxT.ty Int:=(Args.one (Arg.leaf (LArg.int .i64)))
def aFc:(Bool×Bool×Bool×Bool)->V cxT.ty:=λt=>(.inr (.inl [(.inl (lv (.bool t.1))),(.inl (lv (.bool t.2.1))),(.inl (lv (.bool t.2.2.1))),(.inl (lv (.bool t.2.2.2)))]))
def aKU:(Bool×Bool×Bool×Bool):=(false,false,false,false)
abbrev aSN (m:Y183):=fT (cx:=cxT) aTc aFc aKU m
theorem aP0:∀ t,bV (aFc t)=true\/bF (aFc t)=true:=λ_=>.inl rfl
abbrev Y184:=Int->Option Bool
def aTb:Args cxT.ty Int:=(Args.one (Arg.leaf (LArg.int .i64)))
def aFb:Bool->V cxT.ty:=λt=>(.inl (.inl (lv (.bool t))))
def aKT:Bool:=false
abbrev aSM (m:Y184):=fT (cx:=cxT) aTb aFb aKT m
theorem aPZ:∀ t,bV (aFb t)=true\/bF (aFb t)=true:=λ_=>.inl rfl
abbrev Y185:=Int->Option Bool
def aTa:Args cxT.ty Int:=(Args.one (Arg.leaf (LArg.int .i64)))
def aFa:Bool->V cxT.ty:=λt=>(.inl (.inl (lv (.bool t))))
def aKS:Bool:=false
abbrev aSL (m:Y185):=fT (cx:=cxT) aTa aFa aKS m
theorem aPY:∀ t,bV (aFa t)=true\/bF (aFa t)=true:=λ_=>.inl rfl
abbrev Y186:=Int->Option Bool
def aS9:Args cxT.ty Int:=(Args.one (Arg.leaf (LArg.int .i64)))
def aE9:Bool->V cxT.ty:=λt=>(.inl (.inl (lv (.bool t))))
def aKR:Bool:=false
abbrev aSK (m:Y186):=fT (cx:=cxT) aS9 aE9 aKR m
theorem aPX:∀ t,bV (aE9 t)=true\/bF (aE9 t)=true:=λ_=>.inl rfl
abbrev Y187:=(Int×Int×Int×Int×Int×Int)->Option Bool
def aS8:Args cxT.ty (Int×Int×Int×Int×Int×Int):=(Args.one (Arg.agg (SArg.cons (LArg.int .i64) (SArg.cons (LArg.int .i64) (SArg.cons (LArg.int .i64) (SArg.cons (LArg.int .i64) (SArg.cons (LArg.int .i64) (SArg.one (LArg.int .i64)))))))))
def aE8:Bool->V cxT.ty:=λt=>(.inl (.inl (lv (.bool t))))
def aKQ:Bool:=false
abbrev aSJ (m:Y187):=fT (cx:=cxT) aS8 aE8 aKQ m
theorem aPW:∀ t,bV (aE8 t)=true\/bF (aE8 t)=true:=λ_=>.inl rfl
abbrev Y188:=Int->Option Bool
def aS7:Args cxT.ty Int:=(Args.one (Arg.leaf (LArg.int .i64)))
def aE7:Bool->V cxT.ty:=λt=>(.inl (.inl (lv (.bool t))))
def aKP:Bool:=false
abbrev aSI (m:Y188):=fT (cx:=cxT) aS7 aE7 aKP m
theorem aPV:∀ t,bV (aE7 t)=true\/bF (aE7 t)=true:=λ_=>.inl rfl
abbrev Y189:=((List E9)×Int)->Option (Int×Int×Int×Int×Int×Int×Int×Int×Int×Bool)
def aS6:Args cxT.ty ((List E9)×Int):=(Args.cons (Arg.leaf (LArg.row 102)) (Args.one (Arg.leaf (LArg.int .i64))))
def aE6:(Int×Int×Int×Int×Int×Int×Int×Int×Int×Bool)->V cxT.ty:=λt=>(.inr (.inl [(.inr [(lv (.int .i64 t.1)),(lv (.int .i64 t.2.1)),(lv (.int .i64 t.2.2.1)),(lv (.int .i64 t.2.2.2.1)),(lv (.int .i64 t.2.2.2.2.1)),(lv (.int .i64 t.2.2.2.2.2.1)),(lv (.int .i64 t.2.2.2.2.2.2.1)),(lv (.int .i64 t.2.2.2.2.2.2.2.1)),(lv (.int .i64 t.2.2.2.2.2.2.2.2.1))]),(.inl (lv (.bool t.2.2.2.2.2.2.2.2.2)))]))
def aKO:(Int×Int×Int×Int×Int×Int×Int×Int×Int×Bool):=((0:Int),(0:Int),(0:Int),(0:Int),(0:Int),(0:Int),(0:Int),(0:Int),(0:Int),false)
abbrev aIO (m:Y189):=fT (cx:=cxT) aS6 aE6 aKO m
theorem aPU:∀ t,bV (aE6 t)=true\/bF (aE6 t)=true:=λ_=>.inl rfl
abbrev Y190:=(List E9)->Option Int
def aS5:Args cxT.ty (List E9):=(Args.one (Arg.leaf (LArg.row 102)))
def aE5:Int->V cxT.ty:=λt=>(.inl (.inl (lv (.int .i64 t))))
def aKN:Int:=(0:Int)
abbrev aCL (m:Y190):=fT (cx:=cxT) aS5 aE5 aKN m
theorem aPT:∀ t,bV (aE5 t)=true\/bF (aE5 t)=true:=λ_=>.inl rfl
abbrev Y191:=Int->Option Bool
def aS4:Args cxT.ty Int:=(Args.one (Arg.leaf (LArg.int .i64)))
def aE4:Bool->V cxT.ty:=λt=>(.inl (.inl (lv (.bool t))))
def aKM:Bool:=false
abbrev aSH (m:Y191):=fT (cx:=cxT) aS4 aE4 aKM m
theorem aPS:∀ t,bV (aE4 t)=true\/bF (aE4 t)=true:=λ_=>.inl rfl
abbrev Y193:=((Int×Int×Int×Int×Int×Int)×(Int×Int×Int×Int×Int×Int))->Option Bool
def aS3:Args cxT.ty ((Int×Int×Int×Int×Int×Int)×(Int×Int×Int×Int×Int×Int)):=(Args.cons (Arg.agg (SArg.cons (LArg.int .i64) (SArg.cons (LArg.int .i64) (SArg.cons (LArg.int .i64) (SArg.cons (LArg.int .i64) (SArg.cons (LArg.int .i64) (SArg.one (LArg.int .i64)))))))) (Args.one (Arg.agg (SArg.cons (LArg.int .i64) (SArg.cons (LArg.int .i64) (SArg.cons (LArg.int .i64) (SArg.cons (LArg.int .i64) (SArg.cons (LArg.int .i64) (SArg.one (LArg.int .i64))))))))))
def aE3:Bool->V cxT.ty:=λt=>(.inl (.inl (lv (.bool t))))
def aKL:Bool:=false
abbrev aIN (m:Y193):=fT (cx:=cxT) aS3 aE3 aKL m
theorem aPR:∀ t,bV (aE3 t)=true\/bF (aE3 t)=true:=λ_=>.inl rfl
abbrev Y213:=Int->Option Bool
def aS2:Args cxT.ty Int:=(Args.one (Arg.leaf (LArg.int .i64)))
def aE2:Bool->V cxT.ty:=λt=>(.inl (.inl (lv (.bool t))))
def aKK:Bool:=false
abbrev aIM (m:Y213):=fT (cx:=cxT) aS2 aE2 aKK m
theorem aPQ:∀ t,bV (aE2 t)=true\/bF (aE2 t)=true:=λ_=>.inl rfl
abbrev Y214:=Int->Option Bool
def aS1:Args cxT.ty Int:=(Args.one (Arg.leaf (LArg.int .i64)))
def aE1:Bool->V cxT.ty:=λt=>(.inl (.inl (lv (.bool t))))
def aKJ:Bool:=false
abbrev aSG (m:Y214):=fT (cx:=cxT) aS1 aE1 aKJ m
theorem aPP:∀ t,bV (aE1 t)=true\/bF (aE1 t)=true:=λ_=>.inl rfl
abbrev Y215:=Int->Option Bool
def aS0:Args cxT.ty Int:=(Args.one (Arg.leaf (LArg.int .i64)))
def aE0:Bool->V cxT.ty:=λt=>(.inl (.inl (lv (.bool t))))
def aKI:Bool:=false
abbrev aSF (m:Y215):=fT (cx:=cxT) aS0 aE0 aKI m
theorem aPO:∀ t,bV (aE0 t)=true\/bF (aE0 t)=true:=λ_=>.inl rfl
abbrev Y216:=Int->Option Bool
def aSZ:Args cxT.ty Int:=(Args.one (Arg.leaf (LArg.int .i64)))
def aEZ:Bool->V cxT.ty:=λt=>(.inl (.inl (lv (.bool t))))
def aKH:Bool:=false
abbrev aSE (m:Y216):=fT (cx:=cxT) aSZ aEZ aKH m
theorem aPN:∀ t,bV (aEZ t)=true\/bF (aEZ t)=true:=λ_=>.inl rfl
abbrev Y219:=Int->Option Bool
def aSY:Args cxT.ty Int:=(Args.one (Arg.leaf (LArg.int .i64)))
def aEY:Bool->V cxT.ty:=λt=>(.inl (.inl (lv (.bool t))))
def aKG:Bool:=false
abbrev aSD (m:Y219):=fT (cx:=cxT) aSY aEY aKG m
theorem aPM:∀ t,bV (aEY t)=true\/bF (aEY t)=true:=λ_=>.inl rfl
abbrev Y222:=Int->Option Bool
def aSX:Args cxT.ty Int:=(Args.one (Arg.leaf (LArg.int .i64)))
def aEX:Bool->V cxT.ty:=λt=>(.inl (.inl (lv (.bool t))))
def aKF:Bool:=false
abbrev aSC (m:Y222):=fT (cx:=cxT) aSX aEX aKF m
theorem aPL:∀ t,bV (aEX t)=true\/bF (aEX t)=true:=λ_=>.inl rfl
abbrev Y223:=Int->Option Bool
def aSW:Args cxT.ty Int:=(Args.one (Arg.leaf (LArg.int .i64)))
def aEW:Bool->V cxT.ty:=λt=>(.inl (.inl (lv (.bool t))))
def aKE:Bool:=false
abbrev aSB (m:Y223):=fT (cx:=cxT) aSW aEW aKE m
theorem aPK:∀ t,bV (aEW t)=true\/bF (aEW t)=true:=λ_=>.inl rfl
abbrev Y228:=Int->Option Bool
def aSV:Args cxT.ty Int:=(Args.one (Arg.leaf (LArg.int .i64)))
def aEV:Bool->V cxT.ty:=λt=>(.inl (.inl (lv (.bool t))))
def aKD:Bool:=false
abbrev aSA (m:Y228):=fT (cx:=cxT) aSV aEV aKD m
theorem aPJ:∀ t,bV (aEV t)=true\/bF (aEV t)=true:=λ_=>.inl rfl
end Go.Proofs.Tryz
