/- A part of the proof of FnExactSameMachines: LnBase, LnCon. -/
import Derived.Test.YtchokegffjaihaaVmJ
import Derived.Test.YtchokegffjaihaaProg
set_option linter.unusedSimpArgs false
set_option linter.unusedVariables false
namespace Go.Proofs.Try
open Go Go.VM Go.RowKit
abbrev Bk:=Int×Int×Int×Int×Bool
abbrev Vp:=Int×Int×Int×List Int
abbrev Ss:=Int×Int×Int
def kA (e:Nat):Type:=if e=2 then Int else if e=3 then Int else if e=5 then Int else if e=94 then Int×Int×Int×Int×Bool else if e=75 then Int×Int×Int×Int×Bool else if e=91 then Int×Int×Int×List (Int)else if e=79 then Int×Int×Int×List (Int)else if e=55 then Int×Int×Int else if e=72 then Int×Int×Int else if e=25 then Int×List (Int×Int×Int×Int×Bool)×List (Int×Int×Int×List (Int))else if e=34 then Int×List (Int×Int×Int×Int×Bool)×List (Int×Int×Int×List (Int))else if e=28 then Int×List (Int×Int×Int×Int×Bool)×List (Int×Int×Int×List (Int))×List (Int×Int×Int)else if e=37 then Int×List (Int×Int×Int×Int×Bool)×List (Int×Int×Int×List (Int))×List (Int×Int×Int)else Unit
def aJ2 (e:Nat):kA e:=
 if h2:e=2 then h2.symm▸(((0:Int):Int):kA 2)else if h3:e=3 then h3.symm▸(((0:Int):Int):kA 3)else if h5:e=5 then h5.symm▸(((0:Int):Int):kA 5)else if h94:e=94 then h94.symm▸((((0:Int),(0:Int),(0:Int),(0:Int),false):Int×Int×Int×Int×Bool):kA 94)else if h75:e=75 then h75.symm▸((((0:Int),(0:Int),(0:Int),(0:Int),false):Int×Int×Int×Int×Bool):kA 75)else if h91:e=91 then h91.symm▸((((0:Int),(0:Int),(0:Int),[]):Int×Int×Int×List (Int)):kA 91)else if h79:e=79 then h79.symm▸((((0:Int),(0:Int),(0:Int),[]):Int×Int×Int×List (Int)):kA 79)else if h55:e=55 then h55.symm▸((((0:Int),(0:Int),(0:Int)):Int×Int×Int):kA 55)else if h72:e=72 then h72.symm▸((((0:Int),(0:Int),(0:Int)):Int×Int×Int):kA 72)else if h25:e=25 then h25.symm▸((((0:Int),[],[]):Int×List (Int×Int×Int×Int×Bool)×List (Int×Int×Int×List (Int))):kA 25)else if h34:e=34 then h34.symm▸((((0:Int),[],[]):Int×List (Int×Int×Int×Int×Bool)×List (Int×Int×Int×List (Int))):kA 34)else if h28:e=28 then h28.symm▸((((0:Int),[],[],[]):Int×List (Int×Int×Int×Int×Bool)×List (Int×Int×Int×List (Int))×List (Int×Int×Int)):kA 28)else if h37:e=37 then h37.symm▸((((0:Int),[],[],[]):Int×List (Int×Int×Int×Int×Bool)×List (Int×Int×Int×List (Int))×List (Int×Int×Int)):kA 37)else(by unfold kA;simp only[*,if_false];exact())
def cd2:Cd kA (kA 2):=fG .i64
def cd3:Cd kA (kA 3):=fG .i64
def cd5:Cd kA (kA 5):=fG .u8
def aKK:Cd kA (kA 94):=eA (fG .i64) (eA (fG .i64) (eA (fG .i64) (eA (fG .i64) aDC)))
def aKN:Cd kA (kA 75):=eA (fG .i64) (eA (fG .i64) (eA (fG .i64) (eA (fG .i64) aDC)))
def aKL:Cd kA (kA 91):=eA (fG .i64) (eA (fG .i64) (eA (fG .i64) (lV 2)))
def aKM:Cd kA (kA 79):=eA (fG .i64) (eA (fG .i64) (eA (fG .i64) (lV 2)))
def aKP:Cd kA (kA 55):=eA (fG .i64) (eA (fG .i64) (fG .i64))
def aKO:Cd kA (kA 72):=eA (fG .i64) (eA (fG .i64) (fG .i64))
def aKT:Cd kA (kA 25):=eA (fG .i64) (eA (lV 94) (lV 91))
def aKR:Cd kA (kA 34):=eA (fG .i64) (eA (lV 75) (lV 79))
def aKS:Cd kA (kA 28):=eA (fG .i64) (eA (lV 94) (eA (lV 91) (lV 72)))
def aKQ:Cd kA (kA 37):=eA (fG .i64) (eA (lV 75) (eA (lV 79) (lV 55)))
def cdT (e:Nat):Cd kA (kA e):=
 if h:e=2 then h.symm▸cd2 else if h:e=3 then h.symm▸cd3 else if h:e=5 then h.symm▸cd5 else if h:e=94 then h.symm▸aKK else if h:e=75 then h.symm▸aKN else if h:e=91 then h.symm▸aKL else if h:e=79 then h.symm▸aKM else if h:e=55 then h.symm▸aKP else if h:e=72 then h.symm▸aKO else if h:e=25 then h.symm▸aKT else if h:e=34 then h.symm▸aKR else if h:e=28 then h.symm▸aKS else if h:e=37 then h.symm▸aKQ else aFN (aJ2 e)
def cxT:Cx:=Cx.of cdT
theorem cS:cxT.Ok:=Cx.of_ok cdT
set_option maxRecDepth 100000 in
theorem wZ {e:Nat}(h:(cdT e).dom=true):e=2\/e=3\/e=5\/e=94\/e=75\/e=55\/e=72:=by
 by_cases h0:e=2
 ·exact .inl h0
 by_cases h1:e=3
 ·exact .inr (.inl h1)
 by_cases h2:e=5
 ·exact .inr (.inr (.inl h2))
 by_cases h3:e=94
 ·exact .inr (.inr (.inr (.inl h3)))
 by_cases h4:e=75
 ·exact .inr (.inr (.inr (.inr (.inl h4))))
 by_cases h5:e=91
 ·subst h5;exact absurd h (by intro hh;cases (show false=true from hh))
 by_cases h6:e=79
 ·subst h6;exact absurd h (by intro hh;cases (show false=true from hh))
 by_cases h7:e=55
 ·exact .inr (.inr (.inr (.inr (.inr (.inl h7)))))
 by_cases h8:e=72
 ·exact .inr (.inr (.inr (.inr (.inr (.inr (h8))))))
 by_cases h9:e=25
 ·subst h9;exact absurd h (by intro hh;cases (show false=true from hh))
 by_cases h10:e=34
 ·subst h10;exact absurd h (by intro hh;cases (show false=true from hh))
 by_cases h11:e=28
 ·subst h11;exact absurd h (by intro hh;cases (show false=true from hh))
 by_cases h12:e=37
 ·subst h12;exact absurd h (by intro hh;cases (show false=true from hh))
 ·unfold cdT at h;rw[dif_neg h0,dif_neg h1,dif_neg h2,dif_neg h3,dif_neg h4,dif_neg h5,dif_neg h6,dif_neg h7,dif_neg h8,dif_neg h9,dif_neg h10,dif_neg h11,dif_neg h12]at h;exact Bool.noConfusion h
set_option maxRecDepth 100000 in
theorem cK:cxT.POk prog:=by
  refine⟨λe he=>?_,λe he hu o x=>?_⟩
  · rcases wZ he with rfl | rfl | rfl | rfl | rfl | rfl | rfl <;>
    exact⟨_,_,rfl,rfl,rfl,by decide,rfl,by decide,rfl⟩
  · rcases wZ he with rfl | rfl | rfl | rfl | rfl | rfl | rfl
    · rw[show prog.underlying 2=_ from rfl]at hu;cases hu
    · rw[show prog.underlying 3=_ from rfl]at hu;cases hu
    · exact⟨x,rfl⟩
    · rw[show prog.underlying 94=_ from rfl]at hu;cases hu
    · rw[show prog.underlying 75=_ from rfl]at hu;cases hu
    · rw[show prog.underlying 55=_ from rfl]at hu;cases hu
    · rw[show prog.underlying 72=_ from rfl]at hu;cases hu
end Go.Proofs.Try
namespace Go.Proofs.Try
open Go Go.VM Go.RowKit
def a3:Args cxT.ty (Int×(List (Int×(Int×(Int×(Int×Bool)))))×(List (Int×(Int×(Int×(List Int)))))×(List (Int×(Int×Int)))):=(Args.one (Arg.agg (SArg.cons (LArg.int .i64) (SArg.cons (LArg.row 94) (SArg.cons (LArg.row 91) (SArg.one (LArg.row 72)))))))
def n3:Bool->V cxT.ty:=λt=>(.inl (.inl (lv (.bool t))))
def a4:Args cxT.ty ((Int×(List (Int×(Int×(Int×(Int×Bool)))))×(List (Int×(Int×(Int×(List Int)))))×(List (Int×(Int×Int))))×Int×Int):=(Args.cons (Arg.agg (SArg.cons (LArg.int .i64) (SArg.cons (LArg.row 94) (SArg.cons (LArg.row 91) (SArg.one (LArg.row 72)))))) (Args.cons (Arg.leaf (LArg.int .i64)) (Args.one (Arg.leaf (LArg.int .i64)))))
def n4:Bool->V cxT.ty:=λt=>(.inl (.inl (lv (.bool t))))
theorem hs4:∀ t,dB (n4 t)=true\/cQ (n4 t)=true:=λ_=>.inl rfl
def a5:Args cxT.ty ((Int×(List (Int×(Int×(Int×(Int×Bool)))))×(List (Int×(Int×(Int×(List Int)))))×(List (Int×(Int×Int))))×(Int×(List (Int×(Int×(Int×(Int×Bool)))))×(List (Int×(Int×(Int×(List Int)))))×(List (Int×(Int×Int))))):=(Args.cons (Arg.agg (SArg.cons (LArg.int .i64) (SArg.cons (LArg.row 94) (SArg.cons (LArg.row 91) (SArg.one (LArg.row 72)))))) (Args.one (Arg.agg (SArg.cons (LArg.int .i64) (SArg.cons (LArg.row 94) (SArg.cons (LArg.row 91) (SArg.one (LArg.row 72))))))))
def n5:Bool->V cxT.ty:=λt=>(.inl (.inl (lv (.bool t))))
def dd5:Bool:=false
abbrev c5 (m:((Int×(List (Int×(Int×(Int×(Int×Bool)))))×(List (Int×(Int×(Int×(List Int)))))×(List (Int×(Int×Int))))×(Int×(List (Int×(Int×(Int×(Int×Bool)))))×(List (Int×(Int×(Int×(List Int)))))×(List (Int×(Int×Int)))))->Option Bool):=iX (cx:=cxT) a5 n5 dd5 m
theorem hs5:∀ t,dB (n5 t)=true\/cQ (n5 t)=true:=λ_=>.inl rfl
def a6:Args cxT.ty ((Int×(List (Int×(Int×(Int×(Int×Bool)))))×(List (Int×(Int×(Int×(List Int)))))×(List (Int×(Int×Int))))×Int):=(Args.cons (Arg.agg (SArg.cons (LArg.int .i64) (SArg.cons (LArg.row 94) (SArg.cons (LArg.row 91) (SArg.one (LArg.row 72)))))) (Args.one (Arg.leaf (LArg.int .i64))))
def n6:Int->V cxT.ty:=λt=>(.inl (.inl (lv (.int .i64 t))))
def dd6:Int:=(0:Int)
abbrev c6 (m:((Int×(List (Int×(Int×(Int×(Int×Bool)))))×(List (Int×(Int×(Int×(List Int)))))×(List (Int×(Int×Int))))×Int)->Option Int):=iX (cx:=cxT) a6 n6 dd6 m
theorem hs6:∀ t,dB (n6 t)=true\/cQ (n6 t)=true:=λ_=>.inl rfl
def a7:Args cxT.ty (Int×(List (Int×(Int×(Int×(Int×Bool)))))×(List (Int×(Int×(Int×(List Int)))))×(List (Int×(Int×Int)))):=(Args.one (Arg.agg (SArg.cons (LArg.int .i64) (SArg.cons (LArg.row 75) (SArg.cons (LArg.row 79) (SArg.one (LArg.row 55)))))))
def n7:Int->V cxT.ty:=λt=>(.inl (.inl (lv (.int .i64 t))))
def dd7:Int:=(0:Int)
abbrev c7 (m:(Int×(List (Int×(Int×(Int×(Int×Bool)))))×(List (Int×(Int×(Int×(List Int)))))×(List (Int×(Int×Int))))->Option Int):=iX (cx:=cxT) a7 n7 dd7 m
def a8:Args cxT.ty (Int×(List (Int×(Int×(Int×(Int×Bool)))))×(List (Int×(Int×(Int×(List Int)))))×(List (Int×(Int×Int)))):=(Args.one (Arg.agg (SArg.cons (LArg.int .i64) (SArg.cons (LArg.row 94) (SArg.cons (LArg.row 91) (SArg.one (LArg.row 72)))))))
def n8:(Int×(List (Int×(Int×(Int×(Int×Bool)))))×(List (Int×(Int×(Int×(List Int)))))×(List (Int×(Int×Int))))->V cxT.ty:=λt=>(.inl (.inr [(lv (.int .i64 t.1)),(ls { own:=2,nm:=0,e:=75,o:=true,xs:=t.2.1 }),(ls { own:=2,nm:=0,e:=79,o:=true,xs:=t.2.2.1 }),(ls { own:=2,nm:=0,e:=55,o:=true,xs:=t.2.2.2 })]))
def dd8:(Int×(List (Int×(Int×(Int×(Int×Bool)))))×(List (Int×(Int×(Int×(List Int)))))×(List (Int×(Int×Int)))):=((0:Int),[],[],[])
abbrev c8 (m:(Int×(List (Int×(Int×(Int×(Int×Bool)))))×(List (Int×(Int×(Int×(List Int)))))×(List (Int×(Int×Int))))->Option (Int×(List (Int×(Int×(Int×(Int×Bool)))))×(List (Int×(Int×(Int×(List Int)))))×(List (Int×(Int×Int))))):=iX (cx:=cxT) a8 n8 dd8 m
theorem hs8:∀ t,dB (n8 t)=true\/cQ (n8 t)=true:=λ_=>.inl rfl
def a9:Args cxT.ty (Int×(List (Int×(Int×(Int×(Int×Bool)))))×(List (Int×(Int×(Int×(List Int)))))×(List (Int×(Int×Int)))):=(Args.one (Arg.agg (SArg.cons (LArg.int .i64) (SArg.cons (LArg.row 75) (SArg.cons (LArg.row 79) (SArg.one (LArg.row 55)))))))
def n9:Int->V cxT.ty:=λt=>(.inl (.inl (lv (.int .i64 t))))
def dd9:Int:=(0:Int)
abbrev c9 (m:(Int×(List (Int×(Int×(Int×(Int×Bool)))))×(List (Int×(Int×(Int×(List Int)))))×(List (Int×(Int×Int))))->Option Int):=iX (cx:=cxT) a9 n9 dd9 m
def a10:Args cxT.ty ((Int×(List (Int×(Int×(Int×(Int×Bool)))))×(List (Int×(Int×(Int×(List Int)))))×(List (Int×(Int×Int))))×(Int×(List (Int×(Int×(Int×(Int×Bool)))))×(List (Int×(Int×(Int×(List Int)))))×(List (Int×(Int×Int))))):=(Args.cons (Arg.agg (SArg.cons (LArg.int .i64) (SArg.cons (LArg.row 75) (SArg.cons (LArg.row 79) (SArg.one (LArg.row 55)))))) (Args.one (Arg.agg (SArg.cons (LArg.int .i64) (SArg.cons (LArg.row 75) (SArg.cons (LArg.row 79) (SArg.one (LArg.row 55))))))))
def n10:Bool->V cxT.ty:=λt=>(.inl (.inl (lv (.bool t))))
def aIO:Bool:=false
abbrev c10 (m:((Int×(List (Int×(Int×(Int×(Int×Bool)))))×(List (Int×(Int×(Int×(List Int)))))×(List (Int×(Int×Int))))×(Int×(List (Int×(Int×(Int×(Int×Bool)))))×(List (Int×(Int×(Int×(List Int)))))×(List (Int×(Int×Int)))))->Option Bool):=iX (cx:=cxT) a10 n10 aIO m
theorem aKD:∀ t,dB (n10 t)=true\/cQ (n10 t)=true:=λ_=>.inl rfl
def a11:Args cxT.ty ((Int×(List (Int×(Int×(Int×(Int×Bool)))))×(List (Int×(Int×(Int×(List Int)))))×(List (Int×(Int×Int))))×Int×Int):=(Args.cons (Arg.agg (SArg.cons (LArg.int .i64) (SArg.cons (LArg.row 75) (SArg.cons (LArg.row 79) (SArg.one (LArg.row 55)))))) (Args.cons (Arg.leaf (LArg.int .i64)) (Args.one (Arg.leaf (LArg.int .i64)))))
def n11:(Int×Int)->V cxT.ty:=λt=>(.inl (.inr [(lv (.int .i64 t.1)),(lv (.int .i64 t.2))]))
def aKJ:(Int×Int):=((0:Int),(0:Int))
abbrev c11 (m:((Int×(List (Int×(Int×(Int×(Int×Bool)))))×(List (Int×(Int×(Int×(List Int)))))×(List (Int×(Int×Int))))×Int×Int)->Option (Int×Int)):=iX (cx:=cxT) a11 n11 aKJ m
def a12:Args cxT.ty ((Int×(List (Int×(Int×(Int×(Int×Bool)))))×(List (Int×(Int×(Int×(List Int)))))×(List (Int×(Int×Int))))×Int×Int):=(Args.cons (Arg.agg (SArg.cons (LArg.int .i64) (SArg.cons (LArg.row 75) (SArg.cons (LArg.row 79) (SArg.one (LArg.row 55)))))) (Args.cons (Arg.leaf (LArg.int .i64)) (Args.one (Arg.leaf (LArg.int .i64)))))
def n12:(Int×Int)->V cxT.ty:=λt=>(.inl (.inr [(lv (.int .i64 t.1)),(lv (.int .i64 t.2))]))
def aKI:(Int×Int):=((0:Int),(0:Int))
abbrev c12 (m:((Int×(List (Int×(Int×(Int×(Int×Bool)))))×(List (Int×(Int×(Int×(List Int)))))×(List (Int×(Int×Int))))×Int×Int)->Option (Int×Int)):=iX (cx:=cxT) a12 n12 aKI m
def a13:Args cxT.ty ((Int×Int)×(Int×Int)):=(Args.cons (Arg.agg (SArg.cons (LArg.int .i64) (SArg.one (LArg.int .i64)))) (Args.one (Arg.agg (SArg.cons (LArg.int .i64) (SArg.one (LArg.int .i64))))))
def n13:Bool->V cxT.ty:=λt=>(.inl (.inl (lv (.bool t))))
def aKH:Bool:=false
abbrev c13 (m:((Int×Int)×(Int×Int))->Option Bool):=iX (cx:=cxT) a13 n13 aKH m
def a14:Args cxT.ty ((Int×(List (Int×(Int×(Int×(Int×Bool)))))×(List (Int×(Int×(Int×(List Int)))))×(List (Int×(Int×Int))))×(Int×(List (Int×(Int×(Int×(Int×Bool)))))×(List (Int×(Int×(Int×(List Int)))))×(List (Int×(Int×Int))))):=(Args.cons (Arg.agg (SArg.cons (LArg.int .i64) (SArg.cons (LArg.row 75) (SArg.cons (LArg.row 79) (SArg.one (LArg.row 55)))))) (Args.one (Arg.agg (SArg.cons (LArg.int .i64) (SArg.cons (LArg.row 75) (SArg.cons (LArg.row 79) (SArg.one (LArg.row 55))))))))
def n14:Bool->V cxT.ty:=λt=>(.inl (.inl (lv (.bool t))))
def aIN:Bool:=false
abbrev c14 (m:((Int×(List (Int×(Int×(Int×(Int×Bool)))))×(List (Int×(Int×(Int×(List Int)))))×(List (Int×(Int×Int))))×(Int×(List (Int×(Int×(Int×(Int×Bool)))))×(List (Int×(Int×(Int×(List Int)))))×(List (Int×(Int×Int)))))->Option Bool):=iX (cx:=cxT) a14 n14 aIN m
theorem aKC:∀ t,dB (n14 t)=true\/cQ (n14 t)=true:=λ_=>.inl rfl
def a15:Args cxT.ty ((Int×(List (Int×(Int×(Int×(Int×Bool)))))×(List (Int×(Int×(Int×(List Int)))))×(List (Int×(Int×Int))))×(Int×(List (Int×(Int×(Int×(Int×Bool)))))×(List (Int×(Int×(Int×(List Int)))))×(List (Int×(Int×Int))))):=(Args.cons (Arg.agg (SArg.cons (LArg.int .i64) (SArg.cons (LArg.row 75) (SArg.cons (LArg.row 79) (SArg.one (LArg.row 55)))))) (Args.one (Arg.agg (SArg.cons (LArg.int .i64) (SArg.cons (LArg.row 75) (SArg.cons (LArg.row 79) (SArg.one (LArg.row 55))))))))
def n15:Bool->V cxT.ty:=λt=>(.inl (.inl (lv (.bool t))))
def aIM:Bool:=false
abbrev c15 (m:((Int×(List (Int×(Int×(Int×(Int×Bool)))))×(List (Int×(Int×(Int×(List Int)))))×(List (Int×(Int×Int))))×(Int×(List (Int×(Int×(Int×(Int×Bool)))))×(List (Int×(Int×(Int×(List Int)))))×(List (Int×(Int×Int)))))->Option Bool):=iX (cx:=cxT) a15 n15 aIM m
theorem aKB:∀ t,dB (n15 t)=true\/cQ (n15 t)=true:=λ_=>.inl rfl
def a16:Args cxT.ty ((Int×(List (Int×(Int×(Int×(Int×Bool)))))×(List (Int×(Int×(Int×(List Int))))))×Int):=(Args.cons (Arg.agg (SArg.cons (LArg.int .i64) (SArg.cons (LArg.row 94) (SArg.one (LArg.row 91))))) (Args.one (Arg.leaf (LArg.int .i64))))
def n16:Int->V cxT.ty:=λt=>(.inl (.inl (lv (.int .i64 t))))
def aIL:Int:=(0:Int)
abbrev c16 (m:((Int×(List (Int×(Int×(Int×(Int×Bool)))))×(List (Int×(Int×(Int×(List Int))))))×Int)->Option Int):=iX (cx:=cxT) a16 n16 aIL m
theorem aKA:∀ t,dB (n16 t)=true\/cQ (n16 t)=true:=λ_=>.inl rfl
def a17:Args cxT.ty ((List (Int×(Int×Int)))×Int):=(Args.cons (Arg.leaf (LArg.row 72)) (Args.one (Arg.leaf (LArg.int .i64))))
def n17:Int->V cxT.ty:=λt=>(.inl (.inl (lv (.int .i64 t))))
def aIK:Int:=(0:Int)
abbrev c17 (m:((List (Int×(Int×Int)))×Int)->Option Int):=iX (cx:=cxT) a17 n17 aIK m
theorem aKz:∀ t,dB (n17 t)=true\/cQ (n17 t)=true:=λ_=>.inl rfl
def a19:Args cxT.ty (Int×(List (Int×(Int×(Int×(Int×Bool)))))×(List (Int×(Int×(Int×(List Int)))))):=(Args.one (Arg.agg (SArg.cons (LArg.int .i64) (SArg.cons (LArg.row 94) (SArg.one (LArg.row 91))))))
def n19:(Int×(List (Int×(Int×(Int×(Int×Bool)))))×(List (Int×(Int×(Int×(List Int))))))->V cxT.ty:=λt=>(.inl (.inr [(lv (.int .i64 t.1)),(ls { own:=2,nm:=0,e:=75,o:=true,xs:=t.2.1 }),(ls { own:=2,nm:=0,e:=79,o:=true,xs:=t.2.2 })]))
def aIJ:(Int×(List (Int×(Int×(Int×(Int×Bool)))))×(List (Int×(Int×(Int×(List Int)))))):=((0:Int),[],[])
abbrev c19 (m:(Int×(List (Int×(Int×(Int×(Int×Bool)))))×(List (Int×(Int×(Int×(List Int))))))->Option (Int×(List (Int×(Int×(Int×(Int×Bool)))))×(List (Int×(Int×(Int×(List Int))))))):=iX (cx:=cxT) a19 n19 aIJ m
theorem aKy:∀ t,dB (n19 t)=true\/cQ (n19 t)=true:=λ_=>.inl rfl
def a20:Args cxT.ty (List (Int×(Int×Int))):=(Args.one (Arg.leaf (LArg.row 72)))
def n20:(List (Int×(Int×Int)))->V cxT.ty:=λt=>(.inl (.inl (ls { own:=2,nm:=0,e:=55,o:=true,xs:=t })))
def aII:(List (Int×(Int×Int))):=[]
abbrev c20 (m:(List (Int×(Int×Int)))->Option (List (Int×(Int×Int)))):=iX (cx:=cxT) a20 n20 aII m
theorem aKx:∀ t,dB (n20 t)=true\/cQ (n20 t)=true:=λ_=>.inl rfl
def a23:Args cxT.ty ((Int×(List (Int×(Int×(Int×(Int×Bool)))))×(List (Int×(Int×(Int×(List Int))))))×(Int×(List (Int×(Int×(Int×(Int×Bool)))))×(List (Int×(Int×(Int×(List Int))))))):=(Args.cons (Arg.agg (SArg.cons (LArg.int .i64) (SArg.cons (LArg.row 75) (SArg.one (LArg.row 79))))) (Args.one (Arg.agg (SArg.cons (LArg.int .i64) (SArg.cons (LArg.row 75) (SArg.one (LArg.row 79)))))))
def n23:Bool->V cxT.ty:=λt=>(.inl (.inl (lv (.bool t))))
def aIH:Bool:=false
abbrev c23 (m:((Int×(List (Int×(Int×(Int×(Int×Bool)))))×(List (Int×(Int×(Int×(List Int))))))×(Int×(List (Int×(Int×(Int×(Int×Bool)))))×(List (Int×(Int×(Int×(List Int)))))))->Option Bool):=iX (cx:=cxT) a23 n23 aIH m
theorem aKw:∀ t,dB (n23 t)=true\/cQ (n23 t)=true:=λ_=>.inl rfl
def a24:Args cxT.ty ((List (Int×(Int×Int)))×(List (Int×(Int×Int)))):=(Args.cons (Arg.leaf (LArg.row 55)) (Args.one (Arg.leaf (LArg.row 55))))
def n24:Bool->V cxT.ty:=λt=>(.inl (.inl (lv (.bool t))))
def aIG:Bool:=false
abbrev c24 (m:((List (Int×(Int×Int)))×(List (Int×(Int×Int))))->Option Bool):=iX (cx:=cxT) a24 n24 aIG m
theorem aKv:∀ t,dB (n24 t)=true\/cQ (n24 t)=true:=λ_=>.inl rfl
def a28:Args cxT.ty ((Int×(List (Int×(Int×(Int×(Int×Bool)))))×(List (Int×(Int×(Int×(List Int))))))×(Int×(List (Int×(Int×(Int×(Int×Bool)))))×(List (Int×(Int×(Int×(List Int))))))):=(Args.cons (Arg.agg (SArg.cons (LArg.int .i64) (SArg.cons (LArg.row 75) (SArg.one (LArg.row 79))))) (Args.one (Arg.agg (SArg.cons (LArg.int .i64) (SArg.cons (LArg.row 75) (SArg.one (LArg.row 79)))))))
def wP:Bool->V cxT.ty:=λt=>(.inl (.inl (lv (.bool t))))
def aIF:Bool:=false
abbrev c28 (m:((Int×(List (Int×(Int×(Int×(Int×Bool)))))×(List (Int×(Int×(Int×(List Int))))))×(Int×(List (Int×(Int×(Int×(Int×Bool)))))×(List (Int×(Int×(Int×(List Int)))))))->Option Bool):=iX (cx:=cxT) a28 wP aIF m
theorem aKu:∀ t,dB (wP t)=true\/cQ (wP t)=true:=λ_=>.inl rfl
def a29:Args cxT.ty ((Int×(List (Int×(Int×(Int×(Int×Bool)))))×(List (Int×(Int×(Int×(List Int))))))×(Int×(List (Int×(Int×(Int×(Int×Bool)))))×(List (Int×(Int×(Int×(List Int))))))):=(Args.cons (Arg.agg (SArg.cons (LArg.int .i64) (SArg.cons (LArg.row 75) (SArg.one (LArg.row 79))))) (Args.one (Arg.agg (SArg.cons (LArg.int .i64) (SArg.cons (LArg.row 75) (SArg.one (LArg.row 79)))))))
def n29:Bool->V cxT.ty:=λt=>(.inl (.inl (lv (.bool t))))
def aIE:Bool:=false
abbrev c29 (m:((Int×(List (Int×(Int×(Int×(Int×Bool)))))×(List (Int×(Int×(Int×(List Int))))))×(Int×(List (Int×(Int×(Int×(Int×Bool)))))×(List (Int×(Int×(Int×(List Int)))))))->Option Bool):=iX (cx:=cxT) a29 n29 aIE m
theorem aKt:∀ t,dB (n29 t)=true\/cQ (n29 t)=true:=λ_=>.inl rfl
def a30:Args cxT.ty ((List (Int×(Int×Int)))×(List (Int×(Int×Int)))):=(Args.cons (Arg.leaf (LArg.row 55)) (Args.one (Arg.leaf (LArg.row 55))))
def n30:Bool->V cxT.ty:=λt=>(.inl (.inl (lv (.bool t))))
def aID:Bool:=false
abbrev c30 (m:((List (Int×(Int×Int)))×(List (Int×(Int×Int))))->Option Bool):=iX (cx:=cxT) a30 n30 aID m
theorem aKs:∀ t,dB (n30 t)=true\/cQ (n30 t)=true:=λ_=>.inl rfl
def a31:Args cxT.ty ((List (Int×(Int×(Int×(Int×Bool)))))×Int):=(Args.cons (Arg.leaf (LArg.row 94)) (Args.one (Arg.leaf (LArg.int .i64))))
def n31:Int->V cxT.ty:=λt=>(.inl (.inl (lv (.int .i64 t))))
def aIC:Int:=(0:Int)
abbrev c31 (m:((List (Int×(Int×(Int×(Int×Bool)))))×Int)->Option Int):=iX (cx:=cxT) a31 n31 aIC m
theorem aKr:∀ t,dB (n31 t)=true\/cQ (n31 t)=true:=λ_=>.inl rfl
def a32:Args cxT.ty ((List (Int×(Int×(Int×(List Int)))))×Int):=(Args.cons (Arg.leaf (LArg.row 91)) (Args.one (Arg.leaf (LArg.int .i64))))
def n32:Int->V cxT.ty:=λt=>(.inl (.inl (lv (.int .i64 t))))
def aIB:Int:=(0:Int)
abbrev c32 (m:((List (Int×(Int×(Int×(List Int)))))×Int)->Option Int):=iX (cx:=cxT) a32 n32 aIB m
theorem aKq:∀ t,dB (n32 t)=true\/cQ (n32 t)=true:=λ_=>.inl rfl
def a35:Args cxT.ty (List (Int×(Int×(Int×(Int×Bool))))):=(Args.one (Arg.leaf (LArg.row 94)))
def n35:(List (Int×(Int×(Int×(Int×Bool)))))->V cxT.ty:=λt=>(.inl (.inl (ls { own:=2,nm:=0,e:=75,o:=true,xs:=t })))
def aIA:(List (Int×(Int×(Int×(Int×Bool))))):=[]
abbrev c35 (m:(List (Int×(Int×(Int×(Int×Bool)))))->Option (List (Int×(Int×(Int×(Int×Bool)))))):=iX (cx:=cxT) a35 n35 aIA m
theorem aKp:∀ t,dB (n35 t)=true\/cQ (n35 t)=true:=λ_=>.inl rfl
def a36:Args cxT.ty (List (Int×(Int×(Int×(List Int))))):=(Args.one (Arg.leaf (LArg.row 91)))
def n36:(List (Int×(Int×(Int×(List Int)))))->V cxT.ty:=λt=>(.inl (.inl (ls { own:=2,nm:=0,e:=79,o:=true,xs:=t })))
def aIz:(List (Int×(Int×(Int×(List Int))))):=[]
abbrev c36 (m:(List (Int×(Int×(Int×(List Int)))))->Option (List (Int×(Int×(Int×(List Int)))))):=iX (cx:=cxT) a36 n36 aIz m
theorem aKo:∀ t,dB (n36 t)=true\/cQ (n36 t)=true:=λ_=>.inl rfl
def a37:Args cxT.ty (Int×Int×Int):=(Args.one (Arg.agg (SArg.cons (LArg.int .i64) (SArg.cons (LArg.int .i64) (SArg.one (LArg.int .i64))))))
def n37:(Int×Int×Int)->V cxT.ty:=λt=>(.inl (.inr [(lv (.int .i64 t.1)),(lv (.int .i64 t.2.1)),(lv (.int .i64 t.2.2))]))
def aIy:(Int×Int×Int):=((0:Int),(0:Int),(0:Int))
abbrev c37 (m:(Int×Int×Int)->Option (Int×Int×Int)):=iX (cx:=cxT) a37 n37 aIy m
theorem aKn:∀ t,dB (n37 t)=true\/cQ (n37 t)=true:=λ_=>.inl rfl
def a41:Args cxT.ty ((Int×Int×Int×(List Int))×(Int×Int×Int×(List Int))):=(Args.cons (Arg.agg (SArg.cons (LArg.int .i64) (SArg.cons (LArg.int .i64) (SArg.cons (LArg.int .i64) (SArg.one (LArg.row 2)))))) (Args.one (Arg.agg (SArg.cons (LArg.int .i64) (SArg.cons (LArg.int .i64) (SArg.cons (LArg.int .i64) (SArg.one (LArg.row 2))))))))
def n41:Int->V cxT.ty:=λt=>(.inl (.inl (lv (.int .i64 t))))
def aIx:Int:=(0:Int)
abbrev c41 (m:((Int×Int×Int×(List Int))×(Int×Int×Int×(List Int)))->Option Int):=iX (cx:=cxT) a41 n41 aIx m
theorem aKm:∀ t,dB (n41 t)=true\/cQ (n41 t)=true:=λ_=>.inl rfl
def a46:Args cxT.ty ((List (Int×(Int×(Int×(Int×Bool)))))×(List (Int×(Int×(Int×(Int×Bool)))))):=(Args.cons (Arg.leaf (LArg.row 75)) (Args.one (Arg.leaf (LArg.row 75))))
def n46:Bool->V cxT.ty:=λt=>(.inl (.inl (lv (.bool t))))
def aIw:Bool:=false
abbrev c46 (m:((List (Int×(Int×(Int×(Int×Bool)))))×(List (Int×(Int×(Int×(Int×Bool))))))->Option Bool):=iX (cx:=cxT) a46 n46 aIw m
theorem aKl:∀ t,dB (n46 t)=true\/cQ (n46 t)=true:=λ_=>.inl rfl
def a47:Args cxT.ty ((List (Int×(Int×(Int×(List Int)))))×(List (Int×(Int×(Int×(List Int)))))):=(Args.cons (Arg.leaf (LArg.row 79)) (Args.one (Arg.leaf (LArg.row 79))))
def n47:Bool->V cxT.ty:=λt=>(.inl (.inl (lv (.bool t))))
def aIv:Bool:=false
abbrev c47 (m:((List (Int×(Int×(Int×(List Int)))))×(List (Int×(Int×(Int×(List Int))))))->Option Bool):=iX (cx:=cxT) a47 n47 aIv m
theorem aKk:∀ t,dB (n47 t)=true\/cQ (n47 t)=true:=λ_=>.inl rfl
def a48:Args cxT.ty ((Int×Int×Int)×(Int×Int×Int)):=(Args.cons (Arg.agg (SArg.cons (LArg.int .i64) (SArg.cons (LArg.int .i64) (SArg.one (LArg.int .i64))))) (Args.one (Arg.agg (SArg.cons (LArg.int .i64) (SArg.cons (LArg.int .i64) (SArg.one (LArg.int .i64)))))))
def n48:Bool->V cxT.ty:=λt=>(.inl (.inl (lv (.bool t))))
def aIu:Bool:=false
abbrev c48 (m:((Int×Int×Int)×(Int×Int×Int))->Option Bool):=iX (cx:=cxT) a48 n48 aIu m
theorem aKj:∀ t,dB (n48 t)=true\/cQ (n48 t)=true:=λ_=>.inl rfl
def a49:Args cxT.ty ((List Int)×(List Int)):=(Args.cons (Arg.leaf (LArg.row 2)) (Args.one (Arg.leaf (LArg.row 2))))
def n49:Bool->V cxT.ty:=λt=>(.inl (.inl (lv (.bool t))))
def aIt:Bool:=false
abbrev c49 (m:((List Int)×(List Int))->Option Bool):=iX (cx:=cxT) a49 n49 aIt m
theorem aKi:∀ t,dB (n49 t)=true\/cQ (n49 t)=true:=λ_=>.inl rfl
def a50:Args cxT.ty ((List (Int×(Int×(Int×(Int×Bool)))))×(List (Int×(Int×(Int×(Int×Bool)))))):=(Args.cons (Arg.leaf (LArg.row 75)) (Args.one (Arg.leaf (LArg.row 75))))
def n50:Bool->V cxT.ty:=λt=>(.inl (.inl (lv (.bool t))))
def aIs:Bool:=false
abbrev c50 (m:((List (Int×(Int×(Int×(Int×Bool)))))×(List (Int×(Int×(Int×(Int×Bool))))))->Option Bool):=iX (cx:=cxT) a50 n50 aIs m
theorem aKh:∀ t,dB (n50 t)=true\/cQ (n50 t)=true:=λ_=>.inl rfl
def a51:Args cxT.ty ((List (Int×(Int×(Int×(List Int)))))×(List (Int×(Int×(Int×(List Int)))))×Unit):=(Args.cons (Arg.leaf (LArg.row 79)) (Args.cons (Arg.leaf (LArg.row 79)) (Args.one (Arg.leaf (LArg.fn 52)))))
def n51:Bool->V cxT.ty:=λt=>(.inl (.inl (lv (.bool t))))
def aIr:Bool:=false
abbrev c51 (m:((List (Int×(Int×(Int×(List Int)))))×(List (Int×(Int×(Int×(List Int)))))×Unit)->Option Bool):=iX (cx:=cxT) a51 n51 aIr m
theorem aKg:∀ t,dB (n51 t)=true\/cQ (n51 t)=true:=λ_=>.inl rfl
def a52:Args cxT.ty ((Int×Int×Int×(List Int))×(Int×Int×Int×(List Int))):=(Args.cons (Arg.agg (SArg.cons (LArg.int .i64) (SArg.cons (LArg.int .i64) (SArg.cons (LArg.int .i64) (SArg.one (LArg.row 2)))))) (Args.one (Arg.agg (SArg.cons (LArg.int .i64) (SArg.cons (LArg.int .i64) (SArg.cons (LArg.int .i64) (SArg.one (LArg.row 2))))))))
def n52:Bool->V cxT.ty:=λt=>(.inl (.inl (lv (.bool t))))
def aIq:Bool:=false
abbrev c52 (m:((Int×Int×Int×(List Int))×(Int×Int×Int×(List Int)))->Option Bool):=iX (cx:=cxT) a52 n52 aIq m
theorem aKf:∀ t,dB (n52 t)=true\/cQ (n52 t)=true:=λ_=>.inl rfl
def a53:Args cxT.ty ((Int×Int×Int×(List Int))×Int):=(Args.cons (Arg.agg (SArg.cons (LArg.int .i64) (SArg.cons (LArg.int .i64) (SArg.cons (LArg.int .i64) (SArg.one (LArg.row 2)))))) (Args.one (Arg.leaf (LArg.int .i64))))
def n53:Int->V cxT.ty:=λt=>(.inl (.inl (lv (.int .i64 t))))
def aIp:Int:=(0:Int)
abbrev c53 (m:((Int×Int×Int×(List Int))×Int)->Option Int):=iX (cx:=cxT) a53 n53 aIp m
theorem aKe:∀ t,dB (n53 t)=true\/cQ (n53 t)=true:=λ_=>.inl rfl
def a57:Args cxT.ty (Int×Int×Int×Int×Bool):=(Args.one (Arg.agg (SArg.cons (LArg.int .i64) (SArg.cons (LArg.int .i64) (SArg.cons (LArg.int .i64) (SArg.cons (LArg.int .i64) (SArg.one LArg.bool)))))))
def n57:(Int×Int×Int×Int×Bool)->V cxT.ty:=λt=>(.inl (.inr [(lv (.int .i64 t.1)),(lv (.int .i64 t.2.1)),(lv (.int .i64 t.2.2.1)),(lv (.int .i64 t.2.2.2.1)),(lv (.bool t.2.2.2.2))]))
def aIo:(Int×Int×Int×Int×Bool):=((0:Int),(0:Int),(0:Int),(0:Int),false)
abbrev c57 (m:(Int×Int×Int×Int×Bool)->Option (Int×Int×Int×Int×Bool)):=iX (cx:=cxT) a57 n57 aIo m
theorem aKd:∀ t,dB (n57 t)=true\/cQ (n57 t)=true:=λ_=>.inl rfl
def a58:Args cxT.ty (Int×Int×Int×(List Int)):=(Args.one (Arg.agg (SArg.cons (LArg.int .i64) (SArg.cons (LArg.int .i64) (SArg.cons (LArg.int .i64) (SArg.one (LArg.row 2)))))))
def n58:(Int×Int×Int×(List Int))->V cxT.ty:=λt=>(.inl (.inr [(lv (.int .i64 t.1)),(lv (.int .i64 t.2.1)),(lv (.int .i64 t.2.2.1)),(ls { own:=2,nm:=0,e:=2,o:=true,xs:=t.2.2.2 })]))
def aIn:(Int×Int×Int×(List Int)):=((0:Int),(0:Int),(0:Int),[])
abbrev c58 (m:(Int×Int×Int×(List Int))->Option (Int×Int×Int×(List Int))):=iX (cx:=cxT) a58 n58 aIn m
theorem aKc:∀ t,dB (n58 t)=true\/cQ (n58 t)=true:=λ_=>.inl rfl
def a65:Args cxT.ty (List Int):=(Args.one (Arg.leaf (LArg.row 3)))
def n65:Int->V cxT.ty:=λt=>(.inl (.inl (lv (.int .i64 t))))
def aIm:Int:=(0:Int)
abbrev c65 (m:(List Int)->Option Int):=iX (cx:=cxT) a65 n65 aIm m
theorem aKb:∀ t,dB (n65 t)=true\/cQ (n65 t)=true:=λ_=>.inl rfl
def a66:Args cxT.ty (Int×Int):=(Args.cons (Arg.leaf (LArg.int .i64)) (Args.one (Arg.leaf (LArg.int .i64))))
def n66:Int->V cxT.ty:=λt=>(.inl (.inl (lv (.int .i64 t))))
def aIl:Int:=(0:Int)
abbrev c66 (m:(Int×Int)->Option Int):=iX (cx:=cxT) a66 n66 aIl m
theorem aKa:∀ t,dB (n66 t)=true\/cQ (n66 t)=true:=λ_=>.inl rfl
def a68:Args cxT.ty ((Int×Int×Int×Int×Bool)×(Int×Int×Int×Int×Bool)):=(Args.cons (Arg.agg (SArg.cons (LArg.int .i64) (SArg.cons (LArg.int .i64) (SArg.cons (LArg.int .i64) (SArg.cons (LArg.int .i64) (SArg.one LArg.bool)))))) (Args.one (Arg.agg (SArg.cons (LArg.int .i64) (SArg.cons (LArg.int .i64) (SArg.cons (LArg.int .i64) (SArg.cons (LArg.int .i64) (SArg.one LArg.bool))))))))
def n68:Bool->V cxT.ty:=λt=>(.inl (.inl (lv (.bool t))))
def aIk:Bool:=false
abbrev c68 (m:((Int×Int×Int×Int×Bool)×(Int×Int×Int×Int×Bool))->Option Bool):=iX (cx:=cxT) a68 n68 aIk m
theorem aJ9:∀ t,dB (n68 t)=true\/cQ (n68 t)=true:=λ_=>.inl rfl
def a69:Args cxT.ty ((Int×Int×Int×(List Int))×(Int×Int×Int×(List Int))):=(Args.cons (Arg.agg (SArg.cons (LArg.int .i64) (SArg.cons (LArg.int .i64) (SArg.cons (LArg.int .i64) (SArg.one (LArg.row 2)))))) (Args.one (Arg.agg (SArg.cons (LArg.int .i64) (SArg.cons (LArg.int .i64) (SArg.cons (LArg.int .i64) (SArg.one (LArg.row 2))))))))
def n69:Bool->V cxT.ty:=λt=>(.inl (.inl (lv (.bool t))))
def aIj:Bool:=false
abbrev c69 (m:((Int×Int×Int×(List Int))×(Int×Int×Int×(List Int)))->Option Bool):=iX (cx:=cxT) a69 n69 aIj m
theorem aJ8:∀ t,dB (n69 t)=true\/cQ (n69 t)=true:=λ_=>.inl rfl
def a70:Args cxT.ty ((List Int)×(List Int)):=(Args.cons (Arg.leaf (LArg.row 2)) (Args.one (Arg.leaf (LArg.row 2))))
def n70:Bool->V cxT.ty:=λt=>(.inl (.inl (lv (.bool t))))
def aIi:Bool:=false
abbrev c70 (m:((List Int)×(List Int))->Option Bool):=iX (cx:=cxT) a70 n70 aIi m
theorem aJ7:∀ t,dB (n70 t)=true\/cQ (n70 t)=true:=λ_=>.inl rfl
def a71:Args cxT.ty ((List Int)×Int):=(Args.cons (Arg.leaf (LArg.row 2)) (Args.one (Arg.leaf (LArg.int .i64))))
def n71:Int->V cxT.ty:=λt=>(.inl (.inl (lv (.int .i64 t))))
def aIh:Int:=(0:Int)
abbrev c71 (m:((List Int)×Int)->Option Int):=iX (cx:=cxT) a71 n71 aIh m
theorem aJ6:∀ t,dB (n71 t)=true\/cQ (n71 t)=true:=λ_=>.inl rfl
def a78:Args cxT.ty (List Int):=(Args.one (Arg.leaf (LArg.row 2)))
def n78:(List Int)->V cxT.ty:=λt=>(.inl (.inl (ls { own:=2,nm:=0,e:=2,o:=true,xs:=t })))
def aIg:(List Int):=[]
abbrev c78 (m:(List Int)->Option (List Int)):=iX (cx:=cxT) a78 n78 aIg m
theorem aJ5:∀ t,dB (n78 t)=true\/cQ (n78 t)=true:=λ_=>.inl rfl
def a79:Args cxT.ty Int:=(Args.one (Arg.leaf (LArg.int .i64)))
def n79:Bool->V cxT.ty:=λt=>(.inl (.inl (lv (.bool t))))
def aIf:Bool:=false
abbrev c79 (m:Int->Option Bool):=iX (cx:=cxT) a79 n79 aIf m
theorem aJ4:∀ t,dB (n79 t)=true\/cQ (n79 t)=true:=λ_=>.inl rfl
def a82:Args cxT.ty ((List Int)×(List Int)):=(Args.cons (Arg.leaf (LArg.row 2)) (Args.one (Arg.leaf (LArg.row 2))))
def n82:Bool->V cxT.ty:=λt=>(.inl (.inl (lv (.bool t))))
def aIe:Bool:=false
abbrev c82 (m:((List Int)×(List Int))->Option Bool):=iX (cx:=cxT) a82 n82 aIe m
theorem aJ3:∀ t,dB (n82 t)=true\/cQ (n82 t)=true:=λ_=>.inl rfl
end Go.Proofs.Try
