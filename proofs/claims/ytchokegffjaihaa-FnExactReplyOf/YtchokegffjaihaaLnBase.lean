/- A part of the proof of FnExactReplyOf: LnBase, LnCon. -/
import Derived.Test.YtchokegffjaihaaVmJ
import Derived.Test.YtchokegffjaihaaProg
set_option linter.unusedSimpArgs false
set_option linter.unusedVariables false
namespace Go.Proofs.Try
open Go Go.VM Go.RowKit
abbrev Bk:=Int×Int×Int×Int×Bool
abbrev Vp:=Int×Int×Int×List Int
abbrev Ss:=Int×Int×Int
def kU (e:Nat):Type:=if e=2 then Int else if e=3 then Int else if e=5 then Int else if e=94 then Int×Int×Int×Int×Bool else if e=75 then Int×Int×Int×Int×Bool else if e=91 then Int×Int×Int×List (Int)else if e=79 then Int×Int×Int×List (Int)else if e=55 then Int×Int×Int else if e=72 then Int×Int×Int else if e=25 then Int×List (Int×Int×Int×Int×Bool)×List (Int×Int×Int×List (Int))else if e=34 then Int×List (Int×Int×Int×Int×Bool)×List (Int×Int×Int×List (Int))else if e=28 then Int×List (Int×Int×Int×Int×Bool)×List (Int×Int×Int×List (Int))×List (Int×Int×Int)else if e=37 then Int×List (Int×Int×Int×Int×Bool)×List (Int×Int×Int×List (Int))×List (Int×Int×Int)else Unit
def aOj (e:Nat):kU e:=
 if h2:e=2 then h2.symm▸(((0:Int):Int):kU 2)else if h3:e=3 then h3.symm▸(((0:Int):Int):kU 3)else if h5:e=5 then h5.symm▸(((0:Int):Int):kU 5)else if h94:e=94 then h94.symm▸((((0:Int),(0:Int),(0:Int),(0:Int),false):Int×Int×Int×Int×Bool):kU 94)else if h75:e=75 then h75.symm▸((((0:Int),(0:Int),(0:Int),(0:Int),false):Int×Int×Int×Int×Bool):kU 75)else if h91:e=91 then h91.symm▸((((0:Int),(0:Int),(0:Int),[]):Int×Int×Int×List (Int)):kU 91)else if h79:e=79 then h79.symm▸((((0:Int),(0:Int),(0:Int),[]):Int×Int×Int×List (Int)):kU 79)else if h55:e=55 then h55.symm▸((((0:Int),(0:Int),(0:Int)):Int×Int×Int):kU 55)else if h72:e=72 then h72.symm▸((((0:Int),(0:Int),(0:Int)):Int×Int×Int):kU 72)else if h25:e=25 then h25.symm▸((((0:Int),[],[]):Int×List (Int×Int×Int×Int×Bool)×List (Int×Int×Int×List (Int))):kU 25)else if h34:e=34 then h34.symm▸((((0:Int),[],[]):Int×List (Int×Int×Int×Int×Bool)×List (Int×Int×Int×List (Int))):kU 34)else if h28:e=28 then h28.symm▸((((0:Int),[],[],[]):Int×List (Int×Int×Int×Int×Bool)×List (Int×Int×Int×List (Int))×List (Int×Int×Int)):kU 28)else if h37:e=37 then h37.symm▸((((0:Int),[],[],[]):Int×List (Int×Int×Int×Int×Bool)×List (Int×Int×Int×List (Int))×List (Int×Int×Int)):kU 37)else(by unfold kU;simp only[*,if_false];exact())
def cd2:Cd kU (kU 2):=fM .i64
def cd3:Cd kU (kU 3):=fM .i64
def cd5:Cd kU (kU 5):=fM .u8
def aPr:Cd kU (kU 94):=eI (fM .i64) (eI (fM .i64) (eI (fM .i64) (eI (fM .i64) aEX)))
def aPu:Cd kU (kU 75):=eI (fM .i64) (eI (fM .i64) (eI (fM .i64) (eI (fM .i64) aEX)))
def aPs:Cd kU (kU 91):=eI (fM .i64) (eI (fM .i64) (eI (fM .i64) (mZ 2)))
def aPt:Cd kU (kU 79):=eI (fM .i64) (eI (fM .i64) (eI (fM .i64) (mZ 2)))
def aPw:Cd kU (kU 55):=eI (fM .i64) (eI (fM .i64) (fM .i64))
def aPv:Cd kU (kU 72):=eI (fM .i64) (eI (fM .i64) (fM .i64))
def aPA:Cd kU (kU 25):=eI (fM .i64) (eI (mZ 94) (mZ 91))
def aPy:Cd kU (kU 34):=eI (fM .i64) (eI (mZ 75) (mZ 79))
def aPz:Cd kU (kU 28):=eI (fM .i64) (eI (mZ 94) (eI (mZ 91) (mZ 72)))
def aPx:Cd kU (kU 37):=eI (fM .i64) (eI (mZ 75) (eI (mZ 79) (mZ 55)))
def cdT (e:Nat):Cd kU (kU e):=
 if h:e=2 then h.symm▸cd2 else if h:e=3 then h.symm▸cd3 else if h:e=5 then h.symm▸cd5 else if h:e=94 then h.symm▸aPr else if h:e=75 then h.symm▸aPu else if h:e=91 then h.symm▸aPs else if h:e=79 then h.symm▸aPt else if h:e=55 then h.symm▸aPw else if h:e=72 then h.symm▸aPv else if h:e=25 then h.symm▸aPA else if h:e=34 then h.symm▸aPy else if h:e=28 then h.symm▸aPz else if h:e=37 then h.symm▸aPx else aIm (aOj e)
def cxT:Cx:=Cx.of cdT
theorem cA:cxT.Ok:=Cx.of_ok cdT
set_option maxRecDepth 100000 in
theorem yX {e:Nat}(h:(cdT e).dom=true):e=2\/e=3\/e=5\/e=94\/e=75\/e=55\/e=72:=by
 by_cases h0:e=2
 ·exact .inl h0
 by_cases h1:e=3
 ·exact .inr (.inl h1)
 by_cases h2:e=5
 ·exact .inr (.inr (.inl h2))
 by_cases h3:e=94
 ·exact .inr (.inr (.inr (.inl h3)))
 by_cases h4:e=75
 ·exact .inr (.inr (.inr (.inr (.inl h4))))
 by_cases h5:e=91
 ·subst h5;exact absurd h (by intro hh;cases (show false=true from hh))
 by_cases h6:e=79
 ·subst h6;exact absurd h (by intro hh;cases (show false=true from hh))
 by_cases h7:e=55
 ·exact .inr (.inr (.inr (.inr (.inr (.inl h7)))))
 by_cases h8:e=72
 ·exact .inr (.inr (.inr (.inr (.inr (.inr (h8))))))
 by_cases h9:e=25
 ·subst h9;exact absurd h (by intro hh;cases (show false=true from hh))
 by_cases h10:e=34
 ·subst h10;exact absurd h (by intro hh;cases (show false=true from hh))
 by_cases h11:e=28
 ·subst h11;exact absurd h (by intro hh;cases (show false=true from hh))
 by_cases h12:e=37
 ·subst h12;exact absurd h (by intro hh;cases (show false=true from hh))
 ·unfold cdT at h;rw[dif_neg h0,dif_neg h1,dif_neg h2,dif_neg h3,dif_neg h4,dif_neg h5,dif_neg h6,dif_neg h7,dif_neg h8,dif_neg h9,dif_neg h10,dif_neg h11,dif_neg h12]at h;exact Bool.noConfusion h
set_option maxRecDepth 100000 in
theorem bP:cxT.POk prog:=by
  refine⟨λe he=>?_,λe he hu o x=>?_⟩
  · rcases yX he with rfl | rfl | rfl | rfl | rfl | rfl | rfl <;>
    exact⟨_,_,rfl,rfl,rfl,by decide,rfl,by decide,rfl⟩
  · rcases yX he with rfl | rfl | rfl | rfl | rfl | rfl | rfl
    · rw[show prog.underlying 2=_ from rfl]at hu;cases hu
    · rw[show prog.underlying 3=_ from rfl]at hu;cases hu
    · exact⟨x,rfl⟩
    · rw[show prog.underlying 94=_ from rfl]at hu;cases hu
    · rw[show prog.underlying 75=_ from rfl]at hu;cases hu
    · rw[show prog.underlying 55=_ from rfl]at hu;cases hu
    · rw[show prog.underlying 72=_ from rfl]at hu;cases hu
end Go.Proofs.Try
namespace Go.Proofs.Try
open Go Go.VM Go.RowKit
def a3:Args cxT.ty (Int×(List (Int×(Int×(Int×(Int×Bool)))))×(List (Int×(Int×(Int×(List Int)))))×(List (Int×(Int×Int)))):=(Args.one (Arg.agg (SArg.cons (LArg.int .i64) (SArg.cons (LArg.row 94) (SArg.cons (LArg.row 91) (SArg.one (LArg.row 72)))))))
def n3:Bool->V cxT.ty:=λt=>(.inl (.inl (lv (.bool t))))
def a4:Args cxT.ty ((Int×(List (Int×(Int×(Int×(Int×Bool)))))×(List (Int×(Int×(Int×(List Int)))))×(List (Int×(Int×Int))))×Int×Int):=(Args.cons (Arg.agg (SArg.cons (LArg.int .i64) (SArg.cons (LArg.row 94) (SArg.cons (LArg.row 91) (SArg.one (LArg.row 72)))))) (Args.cons (Arg.leaf (LArg.int .i64)) (Args.one (Arg.leaf (LArg.int .i64)))))
def n4:Bool->V cxT.ty:=λt=>(.inl (.inl (lv (.bool t))))
def dd4:Bool:=false
abbrev c4 (m:((Int×(List (Int×(Int×(Int×(Int×Bool)))))×(List (Int×(Int×(Int×(List Int)))))×(List (Int×(Int×Int))))×Int×Int)->Option Bool):=gD (cx:=cxT) a4 n4 dd4 m
theorem hs4:∀ t,cQ (n4 t)=true\/bZ (n4 t)=true:=λ_=>.inl rfl
def a5:Args cxT.ty ((Int×(List (Int×(Int×(Int×(Int×Bool)))))×(List (Int×(Int×(Int×(List Int)))))×(List (Int×(Int×Int))))×(Int×(List (Int×(Int×(Int×(Int×Bool)))))×(List (Int×(Int×(Int×(List Int)))))×(List (Int×(Int×Int))))):=(Args.cons (Arg.agg (SArg.cons (LArg.int .i64) (SArg.cons (LArg.row 94) (SArg.cons (LArg.row 91) (SArg.one (LArg.row 72)))))) (Args.one (Arg.agg (SArg.cons (LArg.int .i64) (SArg.cons (LArg.row 94) (SArg.cons (LArg.row 91) (SArg.one (LArg.row 72))))))))
def n5:Bool->V cxT.ty:=λt=>(.inl (.inl (lv (.bool t))))
def a6:Args cxT.ty ((Int×(List (Int×(Int×(Int×(Int×Bool)))))×(List (Int×(Int×(Int×(List Int)))))×(List (Int×(Int×Int))))×Int):=(Args.cons (Arg.agg (SArg.cons (LArg.int .i64) (SArg.cons (LArg.row 94) (SArg.cons (LArg.row 91) (SArg.one (LArg.row 72)))))) (Args.one (Arg.leaf (LArg.int .i64))))
def n6:Int->V cxT.ty:=λt=>(.inl (.inl (lv (.int .i64 t))))
def dd6:Int:=(0:Int)
abbrev c6 (m:((Int×(List (Int×(Int×(Int×(Int×Bool)))))×(List (Int×(Int×(Int×(List Int)))))×(List (Int×(Int×Int))))×Int)->Option Int):=gD (cx:=cxT) a6 n6 dd6 m
theorem hs6:∀ t,cQ (n6 t)=true\/bZ (n6 t)=true:=λ_=>.inl rfl
def a7:Args cxT.ty (Int×(List (Int×(Int×(Int×(Int×Bool)))))×(List (Int×(Int×(Int×(List Int)))))×(List (Int×(Int×Int)))):=(Args.one (Arg.agg (SArg.cons (LArg.int .i64) (SArg.cons (LArg.row 75) (SArg.cons (LArg.row 79) (SArg.one (LArg.row 55)))))))
def n7:Int->V cxT.ty:=λt=>(.inl (.inl (lv (.int .i64 t))))
def dd7:Int:=(0:Int)
abbrev c7 (m:(Int×(List (Int×(Int×(Int×(Int×Bool)))))×(List (Int×(Int×(Int×(List Int)))))×(List (Int×(Int×Int))))->Option Int):=gD (cx:=cxT) a7 n7 dd7 m
def a8:Args cxT.ty (Int×(List (Int×(Int×(Int×(Int×Bool)))))×(List (Int×(Int×(Int×(List Int)))))×(List (Int×(Int×Int)))):=(Args.one (Arg.agg (SArg.cons (LArg.int .i64) (SArg.cons (LArg.row 94) (SArg.cons (LArg.row 91) (SArg.one (LArg.row 72)))))))
def n8:(Int×(List (Int×(Int×(Int×(Int×Bool)))))×(List (Int×(Int×(Int×(List Int)))))×(List (Int×(Int×Int))))->V cxT.ty:=λt=>(.inl (.inr [(lv (.int .i64 t.1)),(ls { own:=2,nm:=0,e:=75,o:=true,xs:=t.2.1 }),(ls { own:=2,nm:=0,e:=79,o:=true,xs:=t.2.2.1 }),(ls { own:=2,nm:=0,e:=55,o:=true,xs:=t.2.2.2 })]))
def dd8:(Int×(List (Int×(Int×(Int×(Int×Bool)))))×(List (Int×(Int×(Int×(List Int)))))×(List (Int×(Int×Int)))):=((0:Int),[],[],[])
abbrev c8 (m:(Int×(List (Int×(Int×(Int×(Int×Bool)))))×(List (Int×(Int×(Int×(List Int)))))×(List (Int×(Int×Int))))->Option (Int×(List (Int×(Int×(Int×(Int×Bool)))))×(List (Int×(Int×(Int×(List Int)))))×(List (Int×(Int×Int))))):=gD (cx:=cxT) a8 n8 dd8 m
theorem hs8:∀ t,cQ (n8 t)=true\/bZ (n8 t)=true:=λ_=>.inl rfl
def a9:Args cxT.ty (Int×(List (Int×(Int×(Int×(Int×Bool)))))×(List (Int×(Int×(Int×(List Int)))))×(List (Int×(Int×Int)))):=(Args.one (Arg.agg (SArg.cons (LArg.int .i64) (SArg.cons (LArg.row 75) (SArg.cons (LArg.row 79) (SArg.one (LArg.row 55)))))))
def n9:Int->V cxT.ty:=λt=>(.inl (.inl (lv (.int .i64 t))))
def dd9:Int:=(0:Int)
abbrev c9 (m:(Int×(List (Int×(Int×(Int×(Int×Bool)))))×(List (Int×(Int×(Int×(List Int)))))×(List (Int×(Int×Int))))->Option Int):=gD (cx:=cxT) a9 n9 dd9 m
theorem hs9:∀ t,cQ (n9 t)=true\/bZ (n9 t)=true:=λ_=>.inl rfl
def a10:Args cxT.ty ((Int×(List (Int×(Int×(Int×(Int×Bool)))))×(List (Int×(Int×(Int×(List Int)))))×(List (Int×(Int×Int))))×(Int×(List (Int×(Int×(Int×(Int×Bool)))))×(List (Int×(Int×(Int×(List Int)))))×(List (Int×(Int×Int))))):=(Args.cons (Arg.agg (SArg.cons (LArg.int .i64) (SArg.cons (LArg.row 75) (SArg.cons (LArg.row 79) (SArg.one (LArg.row 55)))))) (Args.one (Arg.agg (SArg.cons (LArg.int .i64) (SArg.cons (LArg.row 75) (SArg.cons (LArg.row 79) (SArg.one (LArg.row 55))))))))
def n10:Bool->V cxT.ty:=λt=>(.inl (.inl (lv (.bool t))))
def aMx:Bool:=false
abbrev c10 (m:((Int×(List (Int×(Int×(Int×(Int×Bool)))))×(List (Int×(Int×(Int×(List Int)))))×(List (Int×(Int×Int))))×(Int×(List (Int×(Int×(Int×(Int×Bool)))))×(List (Int×(Int×(Int×(List Int)))))×(List (Int×(Int×Int)))))->Option Bool):=gD (cx:=cxT) a10 n10 aMx m
theorem aPh:∀ t,cQ (n10 t)=true\/bZ (n10 t)=true:=λ_=>.inl rfl
def a11:Args cxT.ty ((Int×(List (Int×(Int×(Int×(Int×Bool)))))×(List (Int×(Int×(Int×(List Int)))))×(List (Int×(Int×Int))))×Int×Int):=(Args.cons (Arg.agg (SArg.cons (LArg.int .i64) (SArg.cons (LArg.row 75) (SArg.cons (LArg.row 79) (SArg.one (LArg.row 55)))))) (Args.cons (Arg.leaf (LArg.int .i64)) (Args.one (Arg.leaf (LArg.int .i64)))))
def n11:(Int×Int)->V cxT.ty:=λt=>(.inl (.inr [(lv (.int .i64 t.1)),(lv (.int .i64 t.2))]))
def aMw:(Int×Int):=((0:Int),(0:Int))
abbrev c11 (m:((Int×(List (Int×(Int×(Int×(Int×Bool)))))×(List (Int×(Int×(Int×(List Int)))))×(List (Int×(Int×Int))))×Int×Int)->Option (Int×Int)):=gD (cx:=cxT) a11 n11 aMw m
theorem aPg:∀ t,cQ (n11 t)=true\/bZ (n11 t)=true:=λ_=>.inl rfl
def a12:Args cxT.ty ((Int×(List (Int×(Int×(Int×(Int×Bool)))))×(List (Int×(Int×(Int×(List Int)))))×(List (Int×(Int×Int))))×Int×Int):=(Args.cons (Arg.agg (SArg.cons (LArg.int .i64) (SArg.cons (LArg.row 75) (SArg.cons (LArg.row 79) (SArg.one (LArg.row 55)))))) (Args.cons (Arg.leaf (LArg.int .i64)) (Args.one (Arg.leaf (LArg.int .i64)))))
def n12:(Int×Int)->V cxT.ty:=λt=>(.inl (.inr [(lv (.int .i64 t.1)),(lv (.int .i64 t.2))]))
def aPq:(Int×Int):=((0:Int),(0:Int))
abbrev c12 (m:((Int×(List (Int×(Int×(Int×(Int×Bool)))))×(List (Int×(Int×(Int×(List Int)))))×(List (Int×(Int×Int))))×Int×Int)->Option (Int×Int)):=gD (cx:=cxT) a12 n12 aPq m
def a13:Args cxT.ty ((Int×Int)×(Int×Int)):=(Args.cons (Arg.agg (SArg.cons (LArg.int .i64) (SArg.one (LArg.int .i64)))) (Args.one (Arg.agg (SArg.cons (LArg.int .i64) (SArg.one (LArg.int .i64))))))
def n13:Bool->V cxT.ty:=λt=>(.inl (.inl (lv (.bool t))))
def aMv:Bool:=false
abbrev c13 (m:((Int×Int)×(Int×Int))->Option Bool):=gD (cx:=cxT) a13 n13 aMv m
theorem aPf:∀ t,cQ (n13 t)=true\/bZ (n13 t)=true:=λ_=>.inl rfl
def a14:Args cxT.ty ((Int×(List (Int×(Int×(Int×(Int×Bool)))))×(List (Int×(Int×(Int×(List Int)))))×(List (Int×(Int×Int))))×(Int×(List (Int×(Int×(Int×(Int×Bool)))))×(List (Int×(Int×(Int×(List Int)))))×(List (Int×(Int×Int))))):=(Args.cons (Arg.agg (SArg.cons (LArg.int .i64) (SArg.cons (LArg.row 75) (SArg.cons (LArg.row 79) (SArg.one (LArg.row 55)))))) (Args.one (Arg.agg (SArg.cons (LArg.int .i64) (SArg.cons (LArg.row 75) (SArg.cons (LArg.row 79) (SArg.one (LArg.row 55))))))))
def n14:Bool->V cxT.ty:=λt=>(.inl (.inl (lv (.bool t))))
def aPp:Bool:=false
abbrev c14 (m:((Int×(List (Int×(Int×(Int×(Int×Bool)))))×(List (Int×(Int×(Int×(List Int)))))×(List (Int×(Int×Int))))×(Int×(List (Int×(Int×(Int×(Int×Bool)))))×(List (Int×(Int×(Int×(List Int)))))×(List (Int×(Int×Int)))))->Option Bool):=gD (cx:=cxT) a14 n14 aPp m
def a15:Args cxT.ty ((Int×(List (Int×(Int×(Int×(Int×Bool)))))×(List (Int×(Int×(Int×(List Int)))))×(List (Int×(Int×Int))))×(Int×(List (Int×(Int×(Int×(Int×Bool)))))×(List (Int×(Int×(Int×(List Int)))))×(List (Int×(Int×Int))))):=(Args.cons (Arg.agg (SArg.cons (LArg.int .i64) (SArg.cons (LArg.row 75) (SArg.cons (LArg.row 79) (SArg.one (LArg.row 55)))))) (Args.one (Arg.agg (SArg.cons (LArg.int .i64) (SArg.cons (LArg.row 75) (SArg.cons (LArg.row 79) (SArg.one (LArg.row 55))))))))
def n15:Bool->V cxT.ty:=λt=>(.inl (.inl (lv (.bool t))))
def aPo:Bool:=false
abbrev c15 (m:((Int×(List (Int×(Int×(Int×(Int×Bool)))))×(List (Int×(Int×(Int×(List Int)))))×(List (Int×(Int×Int))))×(Int×(List (Int×(Int×(Int×(Int×Bool)))))×(List (Int×(Int×(Int×(List Int)))))×(List (Int×(Int×Int)))))->Option Bool):=gD (cx:=cxT) a15 n15 aPo m
def a16:Args cxT.ty ((Int×(List (Int×(Int×(Int×(Int×Bool)))))×(List (Int×(Int×(Int×(List Int))))))×Int):=(Args.cons (Arg.agg (SArg.cons (LArg.int .i64) (SArg.cons (LArg.row 94) (SArg.one (LArg.row 91))))) (Args.one (Arg.leaf (LArg.int .i64))))
def n16:Int->V cxT.ty:=λt=>(.inl (.inl (lv (.int .i64 t))))
def aMu:Int:=(0:Int)
abbrev c16 (m:((Int×(List (Int×(Int×(Int×(Int×Bool)))))×(List (Int×(Int×(Int×(List Int))))))×Int)->Option Int):=gD (cx:=cxT) a16 n16 aMu m
theorem aPe:∀ t,cQ (n16 t)=true\/bZ (n16 t)=true:=λ_=>.inl rfl
def a17:Args cxT.ty ((List (Int×(Int×Int)))×Int):=(Args.cons (Arg.leaf (LArg.row 72)) (Args.one (Arg.leaf (LArg.int .i64))))
def n17:Int->V cxT.ty:=λt=>(.inl (.inl (lv (.int .i64 t))))
def aMt:Int:=(0:Int)
abbrev c17 (m:((List (Int×(Int×Int)))×Int)->Option Int):=gD (cx:=cxT) a17 n17 aMt m
theorem aPd:∀ t,cQ (n17 t)=true\/bZ (n17 t)=true:=λ_=>.inl rfl
def a18:Args cxT.ty (Int×((List (Int×(Int×(Int×(Int×Bool)))))×((List (Int×(Int×(Int×(List Int)))))×(List (Int×(Int×Int)))))):=(Args.one (Arg.leaf (LArg.ptr 37)))
def n18:Int->V cxT.ty:=λt=>(.inl (.inl (lv (.int .i64 t))))
def aMs:Int:=(0:Int)
abbrev c18 (m:(Int×((List (Int×(Int×(Int×(Int×Bool)))))×((List (Int×(Int×(Int×(List Int)))))×(List (Int×(Int×Int))))))->Option Int):=gD (cx:=cxT) a18 n18 aMs m
theorem aPc:∀ t,cQ (n18 t)=true\/bZ (n18 t)=true:=λ_=>.inl rfl
def a19:Args cxT.ty (Int×(List (Int×(Int×(Int×(Int×Bool)))))×(List (Int×(Int×(Int×(List Int)))))):=(Args.one (Arg.agg (SArg.cons (LArg.int .i64) (SArg.cons (LArg.row 94) (SArg.one (LArg.row 91))))))
def n19:(Int×(List (Int×(Int×(Int×(Int×Bool)))))×(List (Int×(Int×(Int×(List Int))))))->V cxT.ty:=λt=>(.inl (.inr [(lv (.int .i64 t.1)),(ls { own:=2,nm:=0,e:=75,o:=true,xs:=t.2.1 }),(ls { own:=2,nm:=0,e:=79,o:=true,xs:=t.2.2 })]))
def aMr:(Int×(List (Int×(Int×(Int×(Int×Bool)))))×(List (Int×(Int×(Int×(List Int)))))):=((0:Int),[],[])
abbrev c19 (m:(Int×(List (Int×(Int×(Int×(Int×Bool)))))×(List (Int×(Int×(Int×(List Int))))))->Option (Int×(List (Int×(Int×(Int×(Int×Bool)))))×(List (Int×(Int×(Int×(List Int))))))):=gD (cx:=cxT) a19 n19 aMr m
theorem aPb:∀ t,cQ (n19 t)=true\/bZ (n19 t)=true:=λ_=>.inl rfl
def a20:Args cxT.ty (List (Int×(Int×Int))):=(Args.one (Arg.leaf (LArg.row 72)))
def n20:(List (Int×(Int×Int)))->V cxT.ty:=λt=>(.inl (.inl (ls { own:=2,nm:=0,e:=55,o:=true,xs:=t })))
def aMq:(List (Int×(Int×Int))):=[]
abbrev c20 (m:(List (Int×(Int×Int)))->Option (List (Int×(Int×Int)))):=gD (cx:=cxT) a20 n20 aMq m
theorem aPa:∀ t,cQ (n20 t)=true\/bZ (n20 t)=true:=λ_=>.inl rfl
def a21:Args cxT.ty (Int×(List (Int×(Int×(Int×(Int×Bool)))))×(List (Int×(Int×(Int×(List Int)))))):=(Args.one (Arg.agg (SArg.cons (LArg.int .i64) (SArg.cons (LArg.row 75) (SArg.one (LArg.row 79))))))
def xI:Int->V cxT.ty:=λt=>(.inl (.inl (lv (.int .i64 t))))
def aMp:Int:=(0:Int)
abbrev c21 (m:(Int×(List (Int×(Int×(Int×(Int×Bool)))))×(List (Int×(Int×(Int×(List Int))))))->Option Int):=gD (cx:=cxT) a21 xI aMp m
theorem aO9:∀ t,cQ (xI t)=true\/bZ (xI t)=true:=λ_=>.inl rfl
def a22:Args cxT.ty (Int×Int×Int):=(Args.one (Arg.agg (SArg.cons (LArg.int .i64) (SArg.cons (LArg.int .i64) (SArg.one (LArg.int .i64))))))
def n22:Bool->V cxT.ty:=λt=>(.inl (.inl (lv (.bool t))))
def aMo:Bool:=false
abbrev c22 (m:(Int×Int×Int)->Option Bool):=gD (cx:=cxT) a22 n22 aMo m
theorem aO8:∀ t,cQ (n22 t)=true\/bZ (n22 t)=true:=λ_=>.inl rfl
def a23:Args cxT.ty ((Int×(List (Int×(Int×(Int×(Int×Bool)))))×(List (Int×(Int×(Int×(List Int))))))×(Int×(List (Int×(Int×(Int×(Int×Bool)))))×(List (Int×(Int×(Int×(List Int))))))):=(Args.cons (Arg.agg (SArg.cons (LArg.int .i64) (SArg.cons (LArg.row 75) (SArg.one (LArg.row 79))))) (Args.one (Arg.agg (SArg.cons (LArg.int .i64) (SArg.cons (LArg.row 75) (SArg.one (LArg.row 79)))))))
def n23:Bool->V cxT.ty:=λt=>(.inl (.inl (lv (.bool t))))
def aMn:Bool:=false
abbrev c23 (m:((Int×(List (Int×(Int×(Int×(Int×Bool)))))×(List (Int×(Int×(Int×(List Int))))))×(Int×(List (Int×(Int×(Int×(Int×Bool)))))×(List (Int×(Int×(Int×(List Int)))))))->Option Bool):=gD (cx:=cxT) a23 n23 aMn m
theorem aO7:∀ t,cQ (n23 t)=true\/bZ (n23 t)=true:=λ_=>.inl rfl
def a24:Args cxT.ty ((List (Int×(Int×Int)))×(List (Int×(Int×Int)))):=(Args.cons (Arg.leaf (LArg.row 55)) (Args.one (Arg.leaf (LArg.row 55))))
def n24:Bool->V cxT.ty:=λt=>(.inl (.inl (lv (.bool t))))
def aMm:Bool:=false
abbrev c24 (m:((List (Int×(Int×Int)))×(List (Int×(Int×Int))))->Option Bool):=gD (cx:=cxT) a24 n24 aMm m
theorem aO6:∀ t,cQ (n24 t)=true\/bZ (n24 t)=true:=λ_=>.inl rfl
def a25:Args cxT.ty ((Int×((List (Int×(Int×(Int×(Int×Bool)))))×((List (Int×(Int×(Int×(List Int)))))×(List (Int×(Int×Int))))))×Int):=(Args.cons (Arg.leaf (LArg.ptr 37)) (Args.one (Arg.leaf (LArg.int .i64))))
def n25:Int->V cxT.ty:=λt=>(.inl (.inl (lv (.int .i64 t))))
def aMl:Int:=(0:Int)
abbrev c25 (m:((Int×((List (Int×(Int×(Int×(Int×Bool)))))×((List (Int×(Int×(Int×(List Int)))))×(List (Int×(Int×Int))))))×Int)->Option Int):=gD (cx:=cxT) a25 n25 aMl m
theorem aO5:∀ t,cQ (n25 t)=true\/bZ (n25 t)=true:=λ_=>.inl rfl
def a31:Args cxT.ty ((List (Int×(Int×(Int×(Int×Bool)))))×Int):=(Args.cons (Arg.leaf (LArg.row 94)) (Args.one (Arg.leaf (LArg.int .i64))))
def n31:Int->V cxT.ty:=λt=>(.inl (.inl (lv (.int .i64 t))))
def aMk:Int:=(0:Int)
abbrev c31 (m:((List (Int×(Int×(Int×(Int×Bool)))))×Int)->Option Int):=gD (cx:=cxT) a31 n31 aMk m
theorem aO4:∀ t,cQ (n31 t)=true\/bZ (n31 t)=true:=λ_=>.inl rfl
def a32:Args cxT.ty ((List (Int×(Int×(Int×(List Int)))))×Int):=(Args.cons (Arg.leaf (LArg.row 91)) (Args.one (Arg.leaf (LArg.int .i64))))
def n32:Int->V cxT.ty:=λt=>(.inl (.inl (lv (.int .i64 t))))
def aMj:Int:=(0:Int)
abbrev c32 (m:((List (Int×(Int×(Int×(List Int)))))×Int)->Option Int):=gD (cx:=cxT) a32 n32 aMj m
theorem aO3:∀ t,cQ (n32 t)=true\/bZ (n32 t)=true:=λ_=>.inl rfl
def a33:Args cxT.ty (Int×((List (Int×(Int×(Int×(Int×Bool)))))×(List (Int×(Int×(Int×(List Int))))))):=(Args.one (Arg.leaf (LArg.ptr 34)))
def n33:Int->V cxT.ty:=λt=>(.inl (.inl (lv (.int .i64 t))))
def aMi:Int:=(0:Int)
abbrev c33 (m:(Int×((List (Int×(Int×(Int×(Int×Bool)))))×(List (Int×(Int×(Int×(List Int)))))))->Option Int):=gD (cx:=cxT) a33 n33 aMi m
theorem aO2:∀ t,cQ (n33 t)=true\/bZ (n33 t)=true:=λ_=>.inl rfl
def a34:Args cxT.ty (Int×Int×Int):=(Args.cons (Arg.leaf (LArg.int .i64)) (Args.cons (Arg.leaf (LArg.int .i64)) (Args.one (Arg.leaf (LArg.int .i64)))))
def n34:Bool->V cxT.ty:=λt=>(.inl (.inl (lv (.bool t))))
def aMh:Bool:=false
abbrev c34 (m:(Int×Int×Int)->Option Bool):=gD (cx:=cxT) a34 n34 aMh m
theorem aO1:∀ t,cQ (n34 t)=true\/bZ (n34 t)=true:=λ_=>.inl rfl
def a35:Args cxT.ty (List (Int×(Int×(Int×(Int×Bool))))):=(Args.one (Arg.leaf (LArg.row 94)))
def n35:(List (Int×(Int×(Int×(Int×Bool)))))->V cxT.ty:=λt=>(.inl (.inl (ls { own:=2,nm:=0,e:=75,o:=true,xs:=t })))
def aMg:(List (Int×(Int×(Int×(Int×Bool))))):=[]
abbrev c35 (m:(List (Int×(Int×(Int×(Int×Bool)))))->Option (List (Int×(Int×(Int×(Int×Bool)))))):=gD (cx:=cxT) a35 n35 aMg m
theorem aO0:∀ t,cQ (n35 t)=true\/bZ (n35 t)=true:=λ_=>.inl rfl
def a36:Args cxT.ty (List (Int×(Int×(Int×(List Int))))):=(Args.one (Arg.leaf (LArg.row 91)))
def n36:(List (Int×(Int×(Int×(List Int)))))->V cxT.ty:=λt=>(.inl (.inl (ls { own:=2,nm:=0,e:=79,o:=true,xs:=t })))
def aMf:(List (Int×(Int×(Int×(List Int))))):=[]
abbrev c36 (m:(List (Int×(Int×(Int×(List Int)))))->Option (List (Int×(Int×(Int×(List Int)))))):=gD (cx:=cxT) a36 n36 aMf m
theorem aOZ:∀ t,cQ (n36 t)=true\/bZ (n36 t)=true:=λ_=>.inl rfl
def a37:Args cxT.ty (Int×Int×Int):=(Args.one (Arg.agg (SArg.cons (LArg.int .i64) (SArg.cons (LArg.int .i64) (SArg.one (LArg.int .i64))))))
def n37:(Int×Int×Int)->V cxT.ty:=λt=>(.inl (.inr [(lv (.int .i64 t.1)),(lv (.int .i64 t.2.1)),(lv (.int .i64 t.2.2))]))
def aMe:(Int×Int×Int):=((0:Int),(0:Int),(0:Int))
abbrev c37 (m:(Int×Int×Int)->Option (Int×Int×Int)):=gD (cx:=cxT) a37 n37 aMe m
theorem aOY:∀ t,cQ (n37 t)=true\/bZ (n37 t)=true:=λ_=>.inl rfl
def a38:Args cxT.ty Int:=(Args.one (Arg.leaf (LArg.int .i64)))
def n38:Bool->V cxT.ty:=λt=>(.inl (.inl (lv (.bool t))))
def aMd:Bool:=false
abbrev c38 (m:Int->Option Bool):=gD (cx:=cxT) a38 n38 aMd m
theorem aOX:∀ t,cQ (n38 t)=true\/bZ (n38 t)=true:=λ_=>.inl rfl
def a39:Args cxT.ty (Int×Int×Int×Int×Bool):=(Args.one (Arg.agg (SArg.cons (LArg.int .i64) (SArg.cons (LArg.int .i64) (SArg.cons (LArg.int .i64) (SArg.cons (LArg.int .i64) (SArg.one LArg.bool)))))))
def n39:Bool->V cxT.ty:=λt=>(.inl (.inl (lv (.bool t))))
def aMc:Bool:=false
abbrev c39 (m:(Int×Int×Int×Int×Bool)->Option Bool):=gD (cx:=cxT) a39 n39 aMc m
theorem aOW:∀ t,cQ (n39 t)=true\/bZ (n39 t)=true:=λ_=>.inl rfl
def a40:Args cxT.ty (Int×Int×Int×(List Int)):=(Args.one (Arg.agg (SArg.cons (LArg.int .i64) (SArg.cons (LArg.int .i64) (SArg.cons (LArg.int .i64) (SArg.one (LArg.row 2)))))))
def n40:Bool->V cxT.ty:=λt=>(.inl (.inl (lv (.bool t))))
def aMb:Bool:=false
abbrev c40 (m:(Int×Int×Int×(List Int))->Option Bool):=gD (cx:=cxT) a40 n40 aMb m
theorem aOV:∀ t,cQ (n40 t)=true\/bZ (n40 t)=true:=λ_=>.inl rfl
def a41:Args cxT.ty ((Int×Int×Int×(List Int))×(Int×Int×Int×(List Int))):=(Args.cons (Arg.agg (SArg.cons (LArg.int .i64) (SArg.cons (LArg.int .i64) (SArg.cons (LArg.int .i64) (SArg.one (LArg.row 2)))))) (Args.one (Arg.agg (SArg.cons (LArg.int .i64) (SArg.cons (LArg.int .i64) (SArg.cons (LArg.int .i64) (SArg.one (LArg.row 2))))))))
def n41:Int->V cxT.ty:=λt=>(.inl (.inl (lv (.int .i64 t))))
def aMa:Int:=(0:Int)
abbrev c41 (m:((Int×Int×Int×(List Int))×(Int×Int×Int×(List Int)))->Option Int):=gD (cx:=cxT) a41 n41 aMa m
theorem aOU:∀ t,cQ (n41 t)=true\/bZ (n41 t)=true:=λ_=>.inl rfl
def a42:Args cxT.ty ((List Int)×(List (Int×(Int×(Int×(Int×Bool)))))):=(Args.cons (Arg.leaf (LArg.row 2)) (Args.one (Arg.leaf (LArg.row 75))))
def n42:Int->V cxT.ty:=λt=>(.inl (.inl (lv (.int .i64 t))))
def aL9:Int:=(0:Int)
abbrev c42 (m:((List Int)×(List (Int×(Int×(Int×(Int×Bool))))))->Option Int):=gD (cx:=cxT) a42 n42 aL9 m
theorem aOT:∀ t,cQ (n42 t)=true\/bZ (n42 t)=true:=λ_=>.inl rfl
def a43:Args cxT.ty Int:=(Args.one (Arg.leaf (LArg.int .i64)))
def n43:Bool->V cxT.ty:=λt=>(.inl (.inl (lv (.bool t))))
def aL8:Bool:=false
abbrev c43 (m:Int->Option Bool):=gD (cx:=cxT) a43 n43 aL8 m
theorem aOS:∀ t,cQ (n43 t)=true\/bZ (n43 t)=true:=λ_=>.inl rfl
def a44:Args cxT.ty Int:=(Args.one (Arg.leaf (LArg.int .i64)))
def n44:Bool->V cxT.ty:=λt=>(.inl (.inl (lv (.bool t))))
def aL7:Bool:=false
abbrev c44 (m:Int->Option Bool):=gD (cx:=cxT) a44 n44 aL7 m
theorem aOR:∀ t,cQ (n44 t)=true\/bZ (n44 t)=true:=λ_=>.inl rfl
def a45:Args cxT.ty Int:=(Args.one (Arg.leaf (LArg.int .i64)))
def n45:Bool->V cxT.ty:=λt=>(.inl (.inl (lv (.bool t))))
def aL6:Bool:=false
abbrev c45 (m:Int->Option Bool):=gD (cx:=cxT) a45 n45 aL6 m
theorem aOQ:∀ t,cQ (n45 t)=true\/bZ (n45 t)=true:=λ_=>.inl rfl
def a46:Args cxT.ty ((List (Int×(Int×(Int×(Int×Bool)))))×(List (Int×(Int×(Int×(Int×Bool)))))):=(Args.cons (Arg.leaf (LArg.row 75)) (Args.one (Arg.leaf (LArg.row 75))))
def n46:Bool->V cxT.ty:=λt=>(.inl (.inl (lv (.bool t))))
def aL5:Bool:=false
abbrev c46 (m:((List (Int×(Int×(Int×(Int×Bool)))))×(List (Int×(Int×(Int×(Int×Bool))))))->Option Bool):=gD (cx:=cxT) a46 n46 aL5 m
theorem aOP:∀ t,cQ (n46 t)=true\/bZ (n46 t)=true:=λ_=>.inl rfl
def a47:Args cxT.ty ((List (Int×(Int×(Int×(List Int)))))×(List (Int×(Int×(Int×(List Int)))))):=(Args.cons (Arg.leaf (LArg.row 79)) (Args.one (Arg.leaf (LArg.row 79))))
def n47:Bool->V cxT.ty:=λt=>(.inl (.inl (lv (.bool t))))
def aL4:Bool:=false
abbrev c47 (m:((List (Int×(Int×(Int×(List Int)))))×(List (Int×(Int×(Int×(List Int))))))->Option Bool):=gD (cx:=cxT) a47 n47 aL4 m
theorem aOO:∀ t,cQ (n47 t)=true\/bZ (n47 t)=true:=λ_=>.inl rfl
def a48:Args cxT.ty ((Int×Int×Int)×(Int×Int×Int)):=(Args.cons (Arg.agg (SArg.cons (LArg.int .i64) (SArg.cons (LArg.int .i64) (SArg.one (LArg.int .i64))))) (Args.one (Arg.agg (SArg.cons (LArg.int .i64) (SArg.cons (LArg.int .i64) (SArg.one (LArg.int .i64)))))))
def n48:Bool->V cxT.ty:=λt=>(.inl (.inl (lv (.bool t))))
def aL3:Bool:=false
abbrev c48 (m:((Int×Int×Int)×(Int×Int×Int))->Option Bool):=gD (cx:=cxT) a48 n48 aL3 m
theorem aON:∀ t,cQ (n48 t)=true\/bZ (n48 t)=true:=λ_=>.inl rfl
def a53:Args cxT.ty ((Int×Int×Int×(List Int))×Int):=(Args.cons (Arg.agg (SArg.cons (LArg.int .i64) (SArg.cons (LArg.int .i64) (SArg.cons (LArg.int .i64) (SArg.one (LArg.row 2)))))) (Args.one (Arg.leaf (LArg.int .i64))))
def n53:Int->V cxT.ty:=λt=>(.inl (.inl (lv (.int .i64 t))))
def aL2:Int:=(0:Int)
abbrev c53 (m:((Int×Int×Int×(List Int))×Int)->Option Int):=gD (cx:=cxT) a53 n53 aL2 m
theorem aOM:∀ t,cQ (n53 t)=true\/bZ (n53 t)=true:=λ_=>.inl rfl
def a54:Args cxT.ty Int:=(Args.one (Arg.leaf (LArg.int .i64)))
def n54:Bool->V cxT.ty:=λt=>(.inl (.inl (lv (.bool t))))
def aL1:Bool:=false
abbrev c54 (m:Int->Option Bool):=gD (cx:=cxT) a54 n54 aL1 m
theorem aOL:∀ t,cQ (n54 t)=true\/bZ (n54 t)=true:=λ_=>.inl rfl
def a55:Args cxT.ty (Int×Int×Int×Int×Bool):=(Args.one (Arg.agg (SArg.cons (LArg.int .i64) (SArg.cons (LArg.int .i64) (SArg.cons (LArg.int .i64) (SArg.cons (LArg.int .i64) (SArg.one LArg.bool)))))))
def n55:Bool->V cxT.ty:=λt=>(.inl (.inl (lv (.bool t))))
def aL0:Bool:=false
abbrev c55 (m:(Int×Int×Int×Int×Bool)->Option Bool):=gD (cx:=cxT) a55 n55 aL0 m
theorem aOK:∀ t,cQ (n55 t)=true\/bZ (n55 t)=true:=λ_=>.inl rfl
def a56:Args cxT.ty ((Int×((List (Int×(Int×(Int×(Int×Bool)))))×(List (Int×(Int×(Int×(List Int)))))))×Int):=(Args.cons (Arg.leaf (LArg.ptr 34)) (Args.one (Arg.leaf (LArg.int .i64))))
def n56:Int->V cxT.ty:=λt=>(.inl (.inl (lv (.int .i64 t))))
def aLZ:Int:=(0:Int)
abbrev c56 (m:((Int×((List (Int×(Int×(Int×(Int×Bool)))))×(List (Int×(Int×(Int×(List Int)))))))×Int)->Option Int):=gD (cx:=cxT) a56 n56 aLZ m
theorem aOJ:∀ t,cQ (n56 t)=true\/bZ (n56 t)=true:=λ_=>.inl rfl
def a57:Args cxT.ty (Int×Int×Int×Int×Bool):=(Args.one (Arg.agg (SArg.cons (LArg.int .i64) (SArg.cons (LArg.int .i64) (SArg.cons (LArg.int .i64) (SArg.cons (LArg.int .i64) (SArg.one LArg.bool)))))))
def n57:(Int×Int×Int×Int×Bool)->V cxT.ty:=λt=>(.inl (.inr [(lv (.int .i64 t.1)),(lv (.int .i64 t.2.1)),(lv (.int .i64 t.2.2.1)),(lv (.int .i64 t.2.2.2.1)),(lv (.bool t.2.2.2.2))]))
def aLY:(Int×Int×Int×Int×Bool):=((0:Int),(0:Int),(0:Int),(0:Int),false)
abbrev c57 (m:(Int×Int×Int×Int×Bool)->Option (Int×Int×Int×Int×Bool)):=gD (cx:=cxT) a57 n57 aLY m
theorem aOI:∀ t,cQ (n57 t)=true\/bZ (n57 t)=true:=λ_=>.inl rfl
def a58:Args cxT.ty (Int×Int×Int×(List Int)):=(Args.one (Arg.agg (SArg.cons (LArg.int .i64) (SArg.cons (LArg.int .i64) (SArg.cons (LArg.int .i64) (SArg.one (LArg.row 2)))))))
def n58:(Int×Int×Int×(List Int))->V cxT.ty:=λt=>(.inl (.inr [(lv (.int .i64 t.1)),(lv (.int .i64 t.2.1)),(lv (.int .i64 t.2.2.1)),(ls { own:=2,nm:=0,e:=2,o:=true,xs:=t.2.2.2 })]))
def aLX:(Int×Int×Int×(List Int)):=((0:Int),(0:Int),(0:Int),[])
abbrev c58 (m:(Int×Int×Int×(List Int))->Option (Int×Int×Int×(List Int))):=gD (cx:=cxT) a58 n58 aLX m
theorem aOH:∀ t,cQ (n58 t)=true\/bZ (n58 t)=true:=λ_=>.inl rfl
def a59:Args cxT.ty Int:=(Args.one (Arg.leaf (LArg.int .i64)))
def n59:Bool->V cxT.ty:=λt=>(.inl (.inl (lv (.bool t))))
def aLW:Bool:=false
abbrev c59 (m:Int->Option Bool):=gD (cx:=cxT) a59 n59 aLW m
theorem aOG:∀ t,cQ (n59 t)=true\/bZ (n59 t)=true:=λ_=>.inl rfl
def a60:Args cxT.ty Int:=(Args.one (Arg.leaf (LArg.int .i64)))
def n60:Bool->V cxT.ty:=λt=>(.inl (.inl (lv (.bool t))))
def aLV:Bool:=false
abbrev c60 (m:Int->Option Bool):=gD (cx:=cxT) a60 n60 aLV m
theorem aOF:∀ t,cQ (n60 t)=true\/bZ (n60 t)=true:=λ_=>.inl rfl
def a61:Args cxT.ty Int:=(Args.one (Arg.leaf (LArg.int .i64)))
def n61:Bool->V cxT.ty:=λt=>(.inl (.inl (lv (.bool t))))
def aLU:Bool:=false
abbrev c61 (m:Int->Option Bool):=gD (cx:=cxT) a61 n61 aLU m
theorem aOE:∀ t,cQ (n61 t)=true\/bZ (n61 t)=true:=λ_=>.inl rfl
def a62:Args cxT.ty Int:=(Args.one (Arg.leaf (LArg.int .i64)))
def n62:Bool->V cxT.ty:=λt=>(.inl (.inl (lv (.bool t))))
def aLT:Bool:=false
abbrev c62 (m:Int->Option Bool):=gD (cx:=cxT) a62 n62 aLT m
theorem aOD:∀ t,cQ (n62 t)=true\/bZ (n62 t)=true:=λ_=>.inl rfl
def a63:Args cxT.ty Int:=(Args.one (Arg.leaf (LArg.int .i64)))
def n63:Bool->V cxT.ty:=λt=>(.inl (.inl (lv (.bool t))))
def aLS:Bool:=false
abbrev c63 (m:Int->Option Bool):=gD (cx:=cxT) a63 n63 aLS m
theorem aOC:∀ t,cQ (n63 t)=true\/bZ (n63 t)=true:=λ_=>.inl rfl
def a64:Args cxT.ty Int:=(Args.one (Arg.leaf (LArg.int .i64)))
def n64:Bool->V cxT.ty:=λt=>(.inl (.inl (lv (.bool t))))
def aLR:Bool:=false
abbrev c64 (m:Int->Option Bool):=gD (cx:=cxT) a64 n64 aLR m
theorem aOB:∀ t,cQ (n64 t)=true\/bZ (n64 t)=true:=λ_=>.inl rfl
def a65:Args cxT.ty (List Int):=(Args.one (Arg.leaf (LArg.row 3)))
def n65:Int->V cxT.ty:=λt=>(.inl (.inl (lv (.int .i64 t))))
def aLQ:Int:=(0:Int)
abbrev c65 (m:(List Int)->Option Int):=gD (cx:=cxT) a65 n65 aLQ m
theorem aOA:∀ t,cQ (n65 t)=true\/bZ (n65 t)=true:=λ_=>.inl rfl
def a66:Args cxT.ty (Int×Int):=(Args.cons (Arg.leaf (LArg.int .i64)) (Args.one (Arg.leaf (LArg.int .i64))))
def n66:Int->V cxT.ty:=λt=>(.inl (.inl (lv (.int .i64 t))))
def aLP:Int:=(0:Int)
abbrev c66 (m:(Int×Int)->Option Int):=gD (cx:=cxT) a66 n66 aLP m
theorem aOz:∀ t,cQ (n66 t)=true\/bZ (n66 t)=true:=λ_=>.inl rfl
def a67:Args cxT.ty ((List (Int×(Int×(Int×(Int×Bool)))))×Int):=(Args.cons (Arg.leaf (LArg.row 75)) (Args.one (Arg.leaf (LArg.int .i64))))
def n67:(Int×Bool)->V cxT.ty:=λt=>(.inr (.inl [(.inl (lv (.int .i64 t.1))),(.inl (lv (.bool t.2)))]))
def aLO:(Int×Bool):=((0:Int),false)
abbrev c67 (m:((List (Int×(Int×(Int×(Int×Bool)))))×Int)->Option (Int×Bool)):=gD (cx:=cxT) a67 n67 aLO m
theorem aOy:∀ t,cQ (n67 t)=true\/bZ (n67 t)=true:=λ_=>.inl rfl
def a68:Args cxT.ty ((Int×Int×Int×Int×Bool)×(Int×Int×Int×Int×Bool)):=(Args.cons (Arg.agg (SArg.cons (LArg.int .i64) (SArg.cons (LArg.int .i64) (SArg.cons (LArg.int .i64) (SArg.cons (LArg.int .i64) (SArg.one LArg.bool)))))) (Args.one (Arg.agg (SArg.cons (LArg.int .i64) (SArg.cons (LArg.int .i64) (SArg.cons (LArg.int .i64) (SArg.cons (LArg.int .i64) (SArg.one LArg.bool))))))))
def n68:Bool->V cxT.ty:=λt=>(.inl (.inl (lv (.bool t))))
def aLN:Bool:=false
abbrev c68 (m:((Int×Int×Int×Int×Bool)×(Int×Int×Int×Int×Bool))->Option Bool):=gD (cx:=cxT) a68 n68 aLN m
theorem aOx:∀ t,cQ (n68 t)=true\/bZ (n68 t)=true:=λ_=>.inl rfl
def a69:Args cxT.ty ((Int×Int×Int×(List Int))×(Int×Int×Int×(List Int))):=(Args.cons (Arg.agg (SArg.cons (LArg.int .i64) (SArg.cons (LArg.int .i64) (SArg.cons (LArg.int .i64) (SArg.one (LArg.row 2)))))) (Args.one (Arg.agg (SArg.cons (LArg.int .i64) (SArg.cons (LArg.int .i64) (SArg.cons (LArg.int .i64) (SArg.one (LArg.row 2))))))))
def n69:Bool->V cxT.ty:=λt=>(.inl (.inl (lv (.bool t))))
def aLM:Bool:=false
abbrev c69 (m:((Int×Int×Int×(List Int))×(Int×Int×Int×(List Int)))->Option Bool):=gD (cx:=cxT) a69 n69 aLM m
theorem aOw:∀ t,cQ (n69 t)=true\/bZ (n69 t)=true:=λ_=>.inl rfl
def a71:Args cxT.ty ((List Int)×Int):=(Args.cons (Arg.leaf (LArg.row 2)) (Args.one (Arg.leaf (LArg.int .i64))))
def n71:Int->V cxT.ty:=λt=>(.inl (.inl (lv (.int .i64 t))))
def aLL:Int:=(0:Int)
abbrev c71 (m:((List Int)×Int)->Option Int):=gD (cx:=cxT) a71 n71 aLL m
theorem aOv:∀ t,cQ (n71 t)=true\/bZ (n71 t)=true:=λ_=>.inl rfl
def a72:Args cxT.ty Int:=(Args.one (Arg.leaf (LArg.int .i64)))
def n72:Bool->V cxT.ty:=λt=>(.inl (.inl (lv (.bool t))))
def aLK:Bool:=false
abbrev c72 (m:Int->Option Bool):=gD (cx:=cxT) a72 n72 aLK m
theorem aOu:∀ t,cQ (n72 t)=true\/bZ (n72 t)=true:=λ_=>.inl rfl
def a73:Args cxT.ty Int:=(Args.one (Arg.leaf (LArg.int .i64)))
def n73:Bool->V cxT.ty:=λt=>(.inl (.inl (lv (.bool t))))
def aLJ:Bool:=false
abbrev c73 (m:Int->Option Bool):=gD (cx:=cxT) a73 n73 aLJ m
theorem aOt:∀ t,cQ (n73 t)=true\/bZ (n73 t)=true:=λ_=>.inl rfl
def a74:Args cxT.ty Int:=(Args.one (Arg.leaf (LArg.int .i64)))
def n74:Bool->V cxT.ty:=λt=>(.inl (.inl (lv (.bool t))))
def aLI:Bool:=false
abbrev c74 (m:Int->Option Bool):=gD (cx:=cxT) a74 n74 aLI m
theorem aOs:∀ t,cQ (n74 t)=true\/bZ (n74 t)=true:=λ_=>.inl rfl
def a75:Args cxT.ty Int:=(Args.one (Arg.leaf (LArg.int .i64)))
def n75:Bool->V cxT.ty:=λt=>(.inl (.inl (lv (.bool t))))
def aLH:Bool:=false
abbrev c75 (m:Int->Option Bool):=gD (cx:=cxT) a75 n75 aLH m
theorem aOr:∀ t,cQ (n75 t)=true\/bZ (n75 t)=true:=λ_=>.inl rfl
def a76:Args cxT.ty ((Int×Int×Int×(List Int))×(Int×Int×Int×(List Int))):=(Args.cons (Arg.agg (SArg.cons (LArg.int .i64) (SArg.cons (LArg.int .i64) (SArg.cons (LArg.int .i64) (SArg.one (LArg.row 2)))))) (Args.one (Arg.agg (SArg.cons (LArg.int .i64) (SArg.cons (LArg.int .i64) (SArg.cons (LArg.int .i64) (SArg.one (LArg.row 2))))))))
def n76:Bool->V cxT.ty:=λt=>(.inl (.inl (lv (.bool t))))
def aLG:Bool:=false
abbrev c76 (m:((Int×Int×Int×(List Int))×(Int×Int×Int×(List Int)))->Option Bool):=gD (cx:=cxT) a76 n76 aLG m
theorem aOq:∀ t,cQ (n76 t)=true\/bZ (n76 t)=true:=λ_=>.inl rfl
def a77:Args cxT.ty ((Int×((List (Int×(Int×(Int×(Int×Bool)))))×(List (Int×(Int×(Int×(List Int)))))))×Int):=(Args.cons (Arg.leaf (LArg.ptr 34)) (Args.one (Arg.leaf (LArg.int .i64))))
def n77:Int->V cxT.ty:=λt=>(.inl (.inl (lv (.int .i64 t))))
def aLF:Int:=(0:Int)
abbrev c77 (m:((Int×((List (Int×(Int×(Int×(Int×Bool)))))×(List (Int×(Int×(Int×(List Int)))))))×Int)->Option Int):=gD (cx:=cxT) a77 n77 aLF m
theorem aOp:∀ t,cQ (n77 t)=true\/bZ (n77 t)=true:=λ_=>.inl rfl
def a78:Args cxT.ty (List Int):=(Args.one (Arg.leaf (LArg.row 2)))
def n78:(List Int)->V cxT.ty:=λt=>(.inl (.inl (ls { own:=2,nm:=0,e:=2,o:=true,xs:=t })))
def aLE:(List Int):=[]
abbrev c78 (m:(List Int)->Option (List Int)):=gD (cx:=cxT) a78 n78 aLE m
theorem aOo:∀ t,cQ (n78 t)=true\/bZ (n78 t)=true:=λ_=>.inl rfl
def a79:Args cxT.ty Int:=(Args.one (Arg.leaf (LArg.int .i64)))
def n79:Bool->V cxT.ty:=λt=>(.inl (.inl (lv (.bool t))))
def aLD:Bool:=false
abbrev c79 (m:Int->Option Bool):=gD (cx:=cxT) a79 n79 aLD m
theorem aOn:∀ t,cQ (n79 t)=true\/bZ (n79 t)=true:=λ_=>.inl rfl
def a80:Args cxT.ty ((List (Int×(Int×(Int×(Int×Bool)))))×Int×Unit):=(Args.cons (Arg.leaf (LArg.row 75)) (Args.cons (Arg.leaf (LArg.int .i64)) (Args.one (Arg.leaf (LArg.fn 81)))))
def n80:(Int×Bool)->V cxT.ty:=λt=>(.inr (.inl [(.inl (lv (.int .i64 t.1))),(.inl (lv (.bool t.2)))]))
def aLC:(Int×Bool):=((0:Int),false)
abbrev c80 (m:((List (Int×(Int×(Int×(Int×Bool)))))×Int×Unit)->Option (Int×Bool)):=gD (cx:=cxT) a80 n80 aLC m
theorem aOm:∀ t,cQ (n80 t)=true\/bZ (n80 t)=true:=λ_=>.inl rfl
def a81:Args cxT.ty ((Int×Int×Int×Int×Bool)×Int):=(Args.cons (Arg.agg (SArg.cons (LArg.int .i64) (SArg.cons (LArg.int .i64) (SArg.cons (LArg.int .i64) (SArg.cons (LArg.int .i64) (SArg.one LArg.bool)))))) (Args.one (Arg.leaf (LArg.int .i64))))
def n81:Int->V cxT.ty:=λt=>(.inl (.inl (lv (.int .i64 t))))
def aLB:Int:=(0:Int)
abbrev c81 (m:((Int×Int×Int×Int×Bool)×Int)->Option Int):=gD (cx:=cxT) a81 n81 aLB m
theorem aOl:∀ t,cQ (n81 t)=true\/bZ (n81 t)=true:=λ_=>.inl rfl
def a82:Args cxT.ty ((List Int)×(List Int)):=(Args.cons (Arg.leaf (LArg.row 2)) (Args.one (Arg.leaf (LArg.row 2))))
def n82:Bool->V cxT.ty:=λt=>(.inl (.inl (lv (.bool t))))
def aLA:Bool:=false
abbrev c82 (m:((List Int)×(List Int))->Option Bool):=gD (cx:=cxT) a82 n82 aLA m
theorem aOk:∀ t,cQ (n82 t)=true\/bZ (n82 t)=true:=λ_=>.inl rfl
end Go.Proofs.Try
