/- A part of the proof of FnLogs: LkBase, LkCon. -/
import Derived.Test.YtlnabockdjjpbaaGreatVmJ
import Derived.Test.YtlnabockdjjpbaaGreatProg
set_option linter.unusedSimpArgs false
set_option linter.unusedVariables false
namespace Go.Proofs.Tryz
open Go Go.VM Go.RowKit
abbrev E9:Type:=Int×Int×Int×Int×Int×Int×Int×Int×Int
abbrev W2:Type:=Int×Int
def tyT (e:Nat):Type:=if e=2 then Int else if e=3 then Int else if e=5 then Int else if e=35 then E9 else if e=59 then List (Int)×Int else if e=52 then List (E9)else Unit
def aL2 (e:Nat):tyT e:=by
 unfold tyT
 repeat' split
 all_goals first | exact((0:Int):Int) | exact((0:Int):Int) | exact((0:Int):Int) | exact(((0:Int),(0:Int),(0:Int),(0:Int),(0:Int),(0:Int),(0:Int),(0:Int),(0:Int)):E9) | exact(([],(0:Int)):List (Int)×Int) | exact([]:List (E9)) | exact()
def cd2:Cd tyT (tyT 2):=lU .i64
def cd3:Cd tyT (tyT 3):=lU .i64
def cd5:Cd tyT (tyT 5):=lU .u8
def aM8:Cd tyT (tyT 35):=mS (lU .i64) (mS (lU .i64) (mS (lU .i64) (mS (lU .i64) (mS (lU .i64) (mS (lU .i64) (mS (lU .i64) (mS (lU .i64) (lU .i64))))))))
def aM6:Cd tyT (tyT 59):=mS (aF8 5) (lU .i64)
def aM7:Cd tyT (tyT 52):=aF8 35
def cdT (e:Nat):Cd tyT (tyT e):=
 if h:e=2 then h.symm▸cd2 else if h:e=3 then h.symm▸cd3 else if h:e=5 then h.symm▸cd5 else if h:e=35 then h.symm▸aM8 else if h:e=59 then h.symm▸aM6 else if h:e=52 then h.symm▸aM7 else aGF (aL2 e)
def bL:Cx:=Cx.of cdT
theorem cC:bL.Ok:=Cx.of_ok cdT
set_option maxRecDepth 100000 in
theorem yA {e:Nat}(h:(cdT e).dom=true):e=2\/e=3\/e=5\/e=35:=by
 by_cases h0:e=2
 ·exact .inl h0
 by_cases h1:e=3
 ·exact .inr (.inl h1)
 by_cases h2:e=5
 ·exact .inr (.inr (.inl h2))
 by_cases h3:e=35
 ·exact .inr (.inr (.inr (h3)))
 by_cases h4:e=59
 ·subst h4;exact absurd h (by intro hh;cases (show false=true from hh))
 by_cases h5:e=52
 ·subst h5;exact absurd h (by intro hh;cases (show false=true from hh))
 ·unfold cdT at h;rw[dif_neg h0,dif_neg h1,dif_neg h2,dif_neg h3,dif_neg h4,dif_neg h5]at h;exact Bool.noConfusion h
set_option maxRecDepth 100000 in
theorem bX:bL.POk prog:=by
  refine⟨λe he=>?_,λe he hu o x=>?_⟩
  · rcases yA he with rfl | rfl | rfl | rfl <;>
    exact⟨_,_,rfl,rfl,rfl,by decide,rfl,by decide,rfl⟩
  · rcases yA he with rfl | rfl | rfl | rfl
    · rw[show prog.underlying 2=_ from rfl]at hu;cases hu
    · rw[show prog.underlying 3=_ from rfl]at hu;cases hu
    · exact⟨x,rfl⟩
    · rw[show prog.underlying 35=_ from rfl]at hu;cases hu
end Go.Proofs.Tryz
namespace Go.Proofs.Tryz
open Go Go.VM Go.RowKit
abbrev Y3:=(List Int)->Option Bool
def a3:Args bL.ty (List Int):=(Args.one (Arg.leaf (LArg.row 5)))
def n3:Bool->V bL.ty:=λt=>(.inl (.inl (lv (.bool t))))
def dd3:Bool:=false
abbrev c3 (m:Y3):=jB (cx:=bL) a3 n3 dd3 m
theorem hs3:∀ t,dE (n3 t)=true\/cP (n3 t)=true:=λ_=>.inl rfl
abbrev Y4:=(List Int)->Option Bool
def a4:Args bL.ty (List Int):=(Args.one (Arg.leaf (LArg.row 5)))
def n4:Bool->V bL.ty:=λt=>(.inl (.inl (lv (.bool t))))
def dd4:Bool:=false
abbrev c4 (m:Y4):=jB (cx:=bL) a4 n4 dd4 m
theorem hs4:∀ t,dE (n4 t)=true\/cP (n4 t)=true:=λ_=>.inl rfl
abbrev Y5:=(List Int)->Option ((List E9)×Int×Int×(List E9))
def a5:Args bL.ty (List Int):=(Args.one (Arg.leaf (LArg.row 5)))
def n5:((List E9)×Int×Int×(List E9))->V bL.ty:=λt=>(.inr (.inl [(.inl (ls (ro 35 t.1))),(.inl (lv (.int .i64 t.2.1))),(.inl (lv (.int .i64 t.2.2.1))),(.inl (ls (ro 35 t.2.2.2)))]))
def dd5:((List E9)×Int×Int×(List E9)):=([],(0:Int),(0:Int),[])
abbrev c5 (m:Y5):=jB (cx:=bL) a5 n5 dd5 m
theorem hs5:∀ t,dE (n5 t)=true\/cP (n5 t)=true:=λ_=>.inr rfl
abbrev Y6:=((List E9)×Int×Int×(List E9))->Option (Int×(List E9))
def a6:Args bL.ty ((List E9)×Int×Int×(List E9)):=(Args.cons (Arg.leaf (LArg.row 35)) (Args.cons (Arg.leaf (LArg.int .i64)) (Args.cons (Arg.leaf (LArg.int .i64)) (Args.one (Arg.leaf (LArg.row 35))))))
def n6:(Int×(List E9))->V bL.ty:=λt=>(.inl (.inr [(lv (.int .i64 t.1)),(ls { own:=2,nm:=0,e:=35,o:=true,xs:=t.2 })]))
def dd6:(Int×(List E9)):=((0:Int),[])
abbrev c6 (m:Y6):=jB (cx:=bL) a6 n6 dd6 m
theorem hs6:∀ t,dE (n6 t)=true\/cP (n6 t)=true:=λ_=>.inl rfl
abbrev Y7:=((List E9)×Int×Int×(List E9))->Option (Int×(List E9))
def a7:Args bL.ty ((List E9)×Int×Int×(List E9)):=(Args.cons (Arg.leaf (LArg.row 35)) (Args.cons (Arg.leaf (LArg.int .i64)) (Args.cons (Arg.leaf (LArg.int .i64)) (Args.one (Arg.leaf (LArg.row 35))))))
def n7:(Int×(List E9))->V bL.ty:=λt=>(.inl (.inr [(lv (.int .i64 t.1)),(ls { own:=2,nm:=0,e:=35,o:=true,xs:=t.2 })]))
def dd7:(Int×(List E9)):=((0:Int),[])
abbrev c7 (m:Y7):=jB (cx:=bL) a7 n7 dd7 m
theorem hs7:∀ t,dE (n7 t)=true\/cP (n7 t)=true:=λ_=>.inl rfl
abbrev Y8:=(List E9)->Option Int
def a8:Args bL.ty (List E9):=(Args.one (Arg.leaf (LArg.row 35)))
def n8:Int->V bL.ty:=λt=>(.inl (.inl (lv (.int .i64 t))))
def dd8:Int:=(0:Int)
abbrev c8 (m:Y8):=jB (cx:=bL) a8 n8 dd8 m
theorem hs8:∀ t,dE (n8 t)=true\/cP (n8 t)=true:=λ_=>.inl rfl
abbrev Y9:=((List E9)×(List E9))->Option Int
def a9:Args bL.ty ((List E9)×(List E9)):=(Args.cons (Arg.leaf (LArg.row 35)) (Args.one (Arg.leaf (LArg.row 35))))
def n9:Int->V bL.ty:=λt=>(.inl (.inl (lv (.int .i64 t))))
def dd9:Int:=(0:Int)
abbrev c9 (m:Y9):=jB (cx:=bL) a9 n9 dd9 m
theorem hs9:∀ t,dE (n9 t)=true\/cP (n9 t)=true:=λ_=>.inl rfl
abbrev Y10:=((List E9)×Int×Int)->Option Bool
def a10:Args bL.ty ((List E9)×Int×Int):=(Args.cons (Arg.leaf (LArg.row 35)) (Args.cons (Arg.leaf (LArg.int .i64)) (Args.one (Arg.leaf (LArg.int .i64)))))
def n10:Bool->V bL.ty:=λt=>(.inl (.inl (lv (.bool t))))
def aKD:Bool:=false
abbrev c10 (m:Y10):=jB (cx:=bL) a10 n10 aKD m
theorem aME:∀ t,dE (n10 t)=true\/cP (n10 t)=true:=λ_=>.inl rfl
abbrev Y11:=((List E9)×(List E9))->Option Bool
def a11:Args bL.ty ((List E9)×(List E9)):=(Args.cons (Arg.leaf (LArg.row 35)) (Args.one (Arg.leaf (LArg.row 35))))
def n11:Bool->V bL.ty:=λt=>(.inl (.inl (lv (.bool t))))
def aKC:Bool:=false
abbrev c11 (m:Y11):=jB (cx:=bL) a11 n11 aKC m
theorem aMD:∀ t,dE (n11 t)=true\/cP (n11 t)=true:=λ_=>.inl rfl
abbrev Y12:=((List E9)×Int×Int)->Option Bool
def a12:Args bL.ty ((List E9)×Int×Int):=(Args.cons (Arg.leaf (LArg.row 35)) (Args.cons (Arg.leaf (LArg.int .i64)) (Args.one (Arg.leaf (LArg.int .i64)))))
def n12:Bool->V bL.ty:=λt=>(.inl (.inl (lv (.bool t))))
def aKB:Bool:=false
abbrev c12 (m:Y12):=jB (cx:=bL) a12 n12 aKB m
theorem aMC:∀ t,dE (n12 t)=true\/cP (n12 t)=true:=λ_=>.inl rfl
abbrev Y13:=(List E9)->Option E9
def a13:Args bL.ty (List E9):=(Args.one (Arg.leaf (LArg.row 35)))
def n13:E9->V bL.ty:=λt=>(.inl (.inr [(lv (.int .i64 t.1)),(lv (.int .i64 t.2.1)),(lv (.int .i64 t.2.2.1)),(lv (.int .i64 t.2.2.2.1)),(lv (.int .i64 t.2.2.2.2.1)),(lv (.int .i64 t.2.2.2.2.2.1)),(lv (.int .i64 t.2.2.2.2.2.2.1)),(lv (.int .i64 t.2.2.2.2.2.2.2.1)),(lv (.int .i64 t.2.2.2.2.2.2.2.2))]))
def aKA:E9:=((0:Int),(0:Int),(0:Int),(0:Int),(0:Int),(0:Int),(0:Int),(0:Int),(0:Int))
abbrev c13 (m:Y13):=jB (cx:=bL) a13 n13 aKA m
theorem aMB:∀ t,dE (n13 t)=true\/cP (n13 t)=true:=λ_=>.inl rfl
abbrev Y14:=(List Int)->Option ((List Int)×Int)
def a14:Args bL.ty (List Int):=(Args.one (Arg.leaf (LArg.row 5)))
def n14:((List Int)×Int)->List (A bL.ty):=λt=>[(.inr [(ls (ro 5 t.1)),(lv (.int .i64 t.2))])]
def aKz:((List Int)×Int):=([],(0:Int))
abbrev c14 (m:Y14):WFn bL:={ nres:=1,n:=0,F:=fnW (cx:=bL) a14 n14 aKz m,p:=2 }
abbrev Y15:=((List Int)×Int)->Option ((List E9)×(List Int)×Int)
def a15:Args bL.ty ((List Int)×Int):=(Args.one (Arg.agg (SArg.cons (LArg.row 5) (SArg.one (LArg.int .i64)))))
def n15:((List E9)×(List Int)×Int)->List (A bL.ty):=λt=>[(.inl (ls { own:=2,nm:=0,e:=35,o:=true,xs:=t.1 })),(.inr [(ls (ro 5 t.2.1)),(lv (.int .i64 t.2.2))])]
def aKy:((List E9)×(List Int)×Int):=([],[],(0:Int))
abbrev c15 (m:Y15):WFn bL:={ nres:=1,n:=0,F:=fnW (cx:=bL) a15 n15 aKy m,p:=1 }
abbrev Y16:=(((List Int)×Int)×(List E9))->Option (Int×Int×(List Int)×Int)
def a16:Args bL.ty (((List Int)×Int)×(List E9)):=(Args.cons (Arg.agg (SArg.cons (LArg.row 5) (SArg.one (LArg.int .i64)))) (Args.one (Arg.leaf (LArg.row 35))))
def n16:(Int×Int×(List Int)×Int)->List (A bL.ty):=λt=>[(.inl (lv (.int .i64 t.1))),(.inl (lv (.int .i64 t.2.1))),(.inr [(ls (ro 5 t.2.2.1)),(lv (.int .i64 t.2.2.2))])]
def aKx:(Int×Int×(List Int)×Int):=((0:Int),(0:Int),[],(0:Int))
abbrev c16 (m:Y16):WFn bL:={ nres:=2,n:=0,F:=fnW (cx:=bL) a16 n16 aKx m,p:=1 }
abbrev Y17:=(((List Int)×Int)×Int)->Option (Bool×(List Int)×Int)
def a17:Args bL.ty (((List Int)×Int)×Int):=(Args.cons (Arg.agg (SArg.cons (LArg.row 5) (SArg.one (LArg.int .i64)))) (Args.one (Arg.leaf (LArg.int .i64))))
def n17:(Bool×(List Int)×Int)->List (A bL.ty):=λt=>[(.inl (lv (.bool t.1))),(.inr [(ls (ro 5 t.2.1)),(lv (.int .i64 t.2.2))])]
def aKw:(Bool×(List Int)×Int):=(false,[],(0:Int))
abbrev c17 (m:Y17):WFn bL:={ nres:=1,n:=0,F:=fnW (cx:=bL) a17 n17 aKw m,p:=1 }
abbrev Y18:=(Int×Int×Int)->Option Bool
def a18:Args bL.ty (Int×Int×Int):=(Args.cons (Arg.leaf (LArg.int .i64)) (Args.cons (Arg.leaf (LArg.int .i64)) (Args.one (Arg.leaf (LArg.int .i64)))))
def n18:Bool->V bL.ty:=λt=>(.inl (.inl (lv (.bool t))))
def aKv:Bool:=false
abbrev yC (m:Y18):=jB (cx:=bL) a18 n18 aKv m
theorem aMA:∀ t,dE (n18 t)=true\/cP (n18 t)=true:=λ_=>.inl rfl
abbrev Y19:=(List E9)->Option (List E9)
def a19:Args bL.ty (List E9):=(Args.one (Arg.leaf (LArg.row 35)))
def n19:(List E9)->V bL.ty:=λt=>(.inl (.inl (ls { own:=2,nm:=0,e:=35,o:=true,xs:=t })))
def aKu:(List E9):=[]
abbrev c19 (m:Y19):=jB (cx:=bL) a19 n19 aKu m
theorem aMz:∀ t,dE (n19 t)=true\/cP (n19 t)=true:=λ_=>.inl rfl
abbrev Y20:=(((List Int)×Int)×Int)->Option (Int×(List Int)×Int)
def a20:Args bL.ty (((List Int)×Int)×Int):=(Args.cons (Arg.agg (SArg.cons (LArg.row 5) (SArg.one (LArg.int .i64)))) (Args.one (Arg.leaf (LArg.int .i64))))
def n20:(Int×(List Int)×Int)->List (A bL.ty):=λt=>[(.inl (lv (.int .i64 t.1))),(.inr [(ls (ro 5 t.2.1)),(lv (.int .i64 t.2.2))])]
def aKt:(Int×(List Int)×Int):=((0:Int),[],(0:Int))
abbrev qD (m:Y20):WFn bL:={ nres:=1,n:=0,F:=fnW (cx:=bL) a20 n20 aKt m,p:=1 }
abbrev Y21:=(((List Int)×Int)×Int)->Option (Int×Int×Int×Int×Int×Int×Int×Int×Int×(List Int)×Int)
def a21:Args bL.ty (((List Int)×Int)×Int):=(Args.cons (Arg.agg (SArg.cons (LArg.row 5) (SArg.one (LArg.int .i64)))) (Args.one (Arg.leaf (LArg.int .i64))))
def n21:(Int×Int×Int×Int×Int×Int×Int×Int×Int×(List Int)×Int)->List (A bL.ty):=λt=>[(.inr [(lv (.int .i64 t.1)),(lv (.int .i64 t.2.1)),(lv (.int .i64 t.2.2.1)),(lv (.int .i64 t.2.2.2.1)),(lv (.int .i64 t.2.2.2.2.1)),(lv (.int .i64 t.2.2.2.2.2.1)),(lv (.int .i64 t.2.2.2.2.2.2.1)),(lv (.int .i64 t.2.2.2.2.2.2.2.1)),(lv (.int .i64 t.2.2.2.2.2.2.2.2.1))]),(.inr [(ls (ro 5 t.2.2.2.2.2.2.2.2.2.1)),(lv (.int .i64 t.2.2.2.2.2.2.2.2.2.2))])]
def aKs:(Int×Int×Int×Int×Int×Int×Int×Int×Int×(List Int)×Int):=((0:Int),(0:Int),(0:Int),(0:Int),(0:Int),(0:Int),(0:Int),(0:Int),(0:Int),[],(0:Int))
abbrev c21 (m:Y21):WFn bL:={ nres:=1,n:=0,F:=fnW (cx:=bL) a21 n21 aKs m,p:=1 }
abbrev Y22:=((List E9)×Int×(List E9))->Option (Int×(List E9))
def a22:Args bL.ty ((List E9)×Int×(List E9)):=(Args.cons (Arg.leaf (LArg.row 35)) (Args.cons (Arg.leaf (LArg.int .i64)) (Args.one (Arg.leaf (LArg.row 35)))))
def n22:(Int×(List E9))->V bL.ty:=λt=>(.inl (.inr [(lv (.int .i64 t.1)),(ls { own:=2,nm:=0,e:=35,o:=true,xs:=t.2 })]))
def aKr:(Int×(List E9)):=((0:Int),[])
abbrev c22 (m:Y22):=jB (cx:=bL) a22 n22 aKr m
theorem aMy:∀ t,dE (n22 t)=true\/cP (n22 t)=true:=λ_=>.inl rfl
abbrev Y23:=(List E9)->Option Int
def a23:Args bL.ty (List E9):=(Args.one (Arg.leaf (LArg.row 35)))
def n23:Int->V bL.ty:=λt=>(.inl (.inl (lv (.int .i64 t))))
def aKq:Int:=(0:Int)
abbrev c23 (m:Y23):=jB (cx:=bL) a23 n23 aKq m
theorem aMx:∀ t,dE (n23 t)=true\/cP (n23 t)=true:=λ_=>.inl rfl
abbrev Y24:=((List E9)×Int×Int)->Option Bool
def a24:Args bL.ty ((List E9)×Int×Int):=(Args.cons (Arg.leaf (LArg.row 35)) (Args.cons (Arg.leaf (LArg.int .i64)) (Args.one (Arg.leaf (LArg.int .i64)))))
def n24:Bool->V bL.ty:=λt=>(.inl (.inl (lv (.bool t))))
def aKp:Bool:=false
abbrev c24 (m:Y24):=jB (cx:=bL) a24 n24 aKp m
theorem aMw:∀ t,dE (n24 t)=true\/cP (n24 t)=true:=λ_=>.inl rfl
abbrev Y25:=((List E9)×Int×(List E9))->Option (List E9)
def a25:Args bL.ty ((List E9)×Int×(List E9)):=(Args.cons (Arg.leaf (LArg.row 35)) (Args.cons (Arg.leaf (LArg.int .i64)) (Args.one (Arg.leaf (LArg.row 35)))))
def n25:(List E9)->V bL.ty:=λt=>(.inl (.inl (ls { own:=2,nm:=0,e:=35,o:=true,xs:=t })))
def aKo:(List E9):=[]
abbrev c25 (m:Y25):=jB (cx:=bL) a25 n25 aKo m
theorem aMv:∀ t,dE (n25 t)=true\/cP (n25 t)=true:=λ_=>.inl rfl
abbrev Y26:=E9->Option Int
def a26:Args bL.ty E9:=(Args.one (Arg.agg (SArg.cons (LArg.int .i64) (SArg.cons (LArg.int .i64) (SArg.cons (LArg.int .i64) (SArg.cons (LArg.int .i64) (SArg.cons (LArg.int .i64) (SArg.cons (LArg.int .i64) (SArg.cons (LArg.int .i64) (SArg.cons (LArg.int .i64) (SArg.one (LArg.int .i64))))))))))))
def n26:Int->V bL.ty:=λt=>(.inl (.inl (lv (.int .i64 t))))
def aKn:Int:=(0:Int)
abbrev c26 (m:Y26):=jB (cx:=bL) a26 n26 aKn m
theorem aMu:∀ t,dE (n26 t)=true\/cP (n26 t)=true:=λ_=>.inl rfl
abbrev Y27:=((List E9)×(List E9)×Unit)->Option Int
def a27:Args bL.ty ((List E9)×(List E9)×Unit):=(Args.cons (Arg.leaf (LArg.row 35)) (Args.cons (Arg.leaf (LArg.row 35)) (Args.one (Arg.leaf (LArg.fn 28)))))
def n27:Int->V bL.ty:=λt=>(.inl (.inl (lv (.int .i64 t))))
def aKm:Int:=(0:Int)
abbrev c27 (m:Y27):=jB (cx:=bL) a27 n27 aKm m
theorem aMt:∀ t,dE (n27 t)=true\/cP (n27 t)=true:=λ_=>.inl rfl
abbrev Y28:=(E9×E9)->Option Bool
def a28:Args bL.ty (E9×E9):=(Args.cons (Arg.agg (SArg.cons (LArg.int .i64) (SArg.cons (LArg.int .i64) (SArg.cons (LArg.int .i64) (SArg.cons (LArg.int .i64) (SArg.cons (LArg.int .i64) (SArg.cons (LArg.int .i64) (SArg.cons (LArg.int .i64) (SArg.cons (LArg.int .i64) (SArg.one (LArg.int .i64))))))))))) (Args.one (Arg.agg (SArg.cons (LArg.int .i64) (SArg.cons (LArg.int .i64) (SArg.cons (LArg.int .i64) (SArg.cons (LArg.int .i64) (SArg.cons (LArg.int .i64) (SArg.cons (LArg.int .i64) (SArg.cons (LArg.int .i64) (SArg.cons (LArg.int .i64) (SArg.one (LArg.int .i64)))))))))))))
def n28:Bool->V bL.ty:=λt=>(.inl (.inl (lv (.bool t))))
def aKl:Bool:=false
abbrev c28 (m:Y28):=jB (cx:=bL) a28 n28 aKl m
theorem aMs:∀ t,dE (n28 t)=true\/cP (n28 t)=true:=λ_=>.inl rfl
abbrev Y29:=((List E9)×Int)->Option (Int×Int×Int×Int×Int×Int×Int×Int×Int×Bool)
def a29:Args bL.ty ((List E9)×Int):=(Args.cons (Arg.leaf (LArg.row 35)) (Args.one (Arg.leaf (LArg.int .i64))))
def n29:(Int×Int×Int×Int×Int×Int×Int×Int×Int×Bool)->V bL.ty:=λt=>(.inr (.inl [(.inr [(lv (.int .i64 t.1)),(lv (.int .i64 t.2.1)),(lv (.int .i64 t.2.2.1)),(lv (.int .i64 t.2.2.2.1)),(lv (.int .i64 t.2.2.2.2.1)),(lv (.int .i64 t.2.2.2.2.2.1)),(lv (.int .i64 t.2.2.2.2.2.2.1)),(lv (.int .i64 t.2.2.2.2.2.2.2.1)),(lv (.int .i64 t.2.2.2.2.2.2.2.2.1))]),(.inl (lv (.bool t.2.2.2.2.2.2.2.2.2)))]))
def aKk:(Int×Int×Int×Int×Int×Int×Int×Int×Int×Bool):=((0:Int),(0:Int),(0:Int),(0:Int),(0:Int),(0:Int),(0:Int),(0:Int),(0:Int),false)
abbrev c29 (m:Y29):=jB (cx:=bL) a29 n29 aKk m
theorem aMr:∀ t,dE (n29 t)=true\/cP (n29 t)=true:=λ_=>.inl rfl
abbrev Y30:=(List E9)->Option Int
def a30:Args bL.ty (List E9):=(Args.one (Arg.leaf (LArg.row 35)))
def n30:Int->V bL.ty:=λt=>(.inl (.inl (lv (.int .i64 t))))
def aKj:Int:=(0:Int)
abbrev c30 (m:Y30):=jB (cx:=bL) a30 n30 aKj m
theorem aMq:∀ t,dE (n30 t)=true\/cP (n30 t)=true:=λ_=>.inl rfl
abbrev Y31:=((List Int)×Int)->Option ((List E9)×(List Int)×Int)
def a31:Args bL.ty ((List Int)×Int):=(Args.one (Arg.agg (SArg.cons (LArg.row 5) (SArg.one (LArg.int .i64)))))
def n31:((List E9)×(List Int)×Int)->List (A bL.ty):=λt=>[(.inl (ls { own:=2,nm:=0,e:=35,o:=true,xs:=t.1 })),(.inr [(ls (ro 5 t.2.1)),(lv (.int .i64 t.2.2))])]
def aKi:((List E9)×(List Int)×Int):=([],[],(0:Int))
abbrev c31 (m:Y31):WFn bL:={ nres:=1,n:=0,F:=fnW (cx:=bL) a31 n31 aKi m,p:=1 }
abbrev Y32:=(((List Int)×Int)×(List Int))->Option (Int×(List Int)×Int)
def a32:Args bL.ty (((List Int)×Int)×(List Int)):=(Args.cons (Arg.agg (SArg.cons (LArg.row 5) (SArg.one (LArg.int .i64)))) (Args.one (Arg.leaf (LArg.row 2))))
def n32:(Int×(List Int)×Int)->List (A bL.ty):=λt=>[(.inl (lv (.int .i64 t.1))),(.inr [(ls (ro 5 t.2.1)),(lv (.int .i64 t.2.2))])]
def aKh:(Int×(List Int)×Int):=((0:Int),[],(0:Int))
abbrev c32 (m:Y32):WFn bL:={ nres:=1,n:=0,F:=fnW (cx:=bL) a32 n32 aKh m,p:=1 }
abbrev Y33:=((List Int)×Int)->Option (Int×Int×Int×Int×Int×Int×(List Int)×Int)
def a33:Args bL.ty ((List Int)×Int):=(Args.one (Arg.agg (SArg.cons (LArg.row 5) (SArg.one (LArg.int .i64)))))
def n33:(Int×Int×Int×Int×Int×Int×(List Int)×Int)->List (A bL.ty):=λt=>[(.inr [(lv (.int .i64 t.1)),(lv (.int .i64 t.2.1)),(lv (.int .i64 t.2.2.1)),(lv (.int .i64 t.2.2.2.1)),(lv (.int .i64 t.2.2.2.2.1)),(lv (.int .i64 t.2.2.2.2.2.1))]),(.inr [(ls (ro 5 t.2.2.2.2.2.2.1)),(lv (.int .i64 t.2.2.2.2.2.2.2))])]
def aKg:(Int×Int×Int×Int×Int×Int×(List Int)×Int):=((0:Int),(0:Int),(0:Int),(0:Int),(0:Int),(0:Int),[],(0:Int))
abbrev c33 (m:Y33):WFn bL:={ nres:=1,n:=0,F:=fnW (cx:=bL) a33 n33 aKg m,p:=1 }
abbrev Y34:=((List Int)×Int)->Option (Int×Int×Int×Int×Int×Int×(List Int)×Int)
def a34:Args bL.ty ((List Int)×Int):=(Args.one (Arg.agg (SArg.cons (LArg.row 5) (SArg.one (LArg.int .i64)))))
def n34:(Int×Int×Int×Int×Int×Int×(List Int)×Int)->List (A bL.ty):=λt=>[(.inr [(lv (.int .i64 t.1)),(lv (.int .i64 t.2.1)),(lv (.int .i64 t.2.2.1)),(lv (.int .i64 t.2.2.2.1)),(lv (.int .i64 t.2.2.2.2.1)),(lv (.int .i64 t.2.2.2.2.2.1))]),(.inr [(ls (ro 5 t.2.2.2.2.2.2.1)),(lv (.int .i64 t.2.2.2.2.2.2.2))])]
def aKf:(Int×Int×Int×Int×Int×Int×(List Int)×Int):=((0:Int),(0:Int),(0:Int),(0:Int),(0:Int),(0:Int),[],(0:Int))
abbrev c34 (m:Y34):WFn bL:={ nres:=1,n:=0,F:=fnW (cx:=bL) a34 n34 aKf m,p:=1 }
abbrev Y35:=((List E9)×Int)->Option (List E9)
def a35:Args bL.ty ((List E9)×Int):=(Args.cons (Arg.leaf (LArg.row 35)) (Args.one (Arg.leaf (LArg.int .i64))))
def n35:(List E9)->V bL.ty:=λt=>(.inl (.inl (ls (ro 35 t))))
def aKe:(List E9):=[]
abbrev c35 (m:Y35):=jB (cx:=bL) a35 n35 aKe m
theorem aMp:∀ t,dE (n35 t)=true\/cP (n35 t)=true:=λ_=>.inr rfl
abbrev Y36:=(E9×E9)->Option Bool
def a36:Args bL.ty (E9×E9):=(Args.cons (Arg.agg (SArg.cons (LArg.int .i64) (SArg.cons (LArg.int .i64) (SArg.cons (LArg.int .i64) (SArg.cons (LArg.int .i64) (SArg.cons (LArg.int .i64) (SArg.cons (LArg.int .i64) (SArg.cons (LArg.int .i64) (SArg.cons (LArg.int .i64) (SArg.one (LArg.int .i64))))))))))) (Args.one (Arg.agg (SArg.cons (LArg.int .i64) (SArg.cons (LArg.int .i64) (SArg.cons (LArg.int .i64) (SArg.cons (LArg.int .i64) (SArg.cons (LArg.int .i64) (SArg.cons (LArg.int .i64) (SArg.cons (LArg.int .i64) (SArg.cons (LArg.int .i64) (SArg.one (LArg.int .i64)))))))))))))
def n36:Bool->V bL.ty:=λt=>(.inl (.inl (lv (.bool t))))
def aKd:Bool:=false
abbrev c36 (m:Y36):=jB (cx:=bL) a36 n36 aKd m
theorem aMo:∀ t,dE (n36 t)=true\/cP (n36 t)=true:=λ_=>.inl rfl
abbrev Y37:=((List E9)×Int×(List E9))->Option (List E9)
def a37:Args bL.ty ((List E9)×Int×(List E9)):=(Args.cons (Arg.leaf (LArg.row 35)) (Args.cons (Arg.leaf (LArg.int .i64)) (Args.one (Arg.leaf (LArg.row 35)))))
def n37:(List E9)->V bL.ty:=λt=>(.inl (.inl (ls { own:=2,nm:=0,e:=35,o:=true,xs:=t })))
def aKc:(List E9):=[]
abbrev c37 (m:Y37):=jB (cx:=bL) a37 n37 aKc m
theorem aMn:∀ t,dE (n37 t)=true\/cP (n37 t)=true:=λ_=>.inl rfl
abbrev Y38:=E9->Option Int
def a38:Args bL.ty E9:=(Args.one (Arg.agg (SArg.cons (LArg.int .i64) (SArg.cons (LArg.int .i64) (SArg.cons (LArg.int .i64) (SArg.cons (LArg.int .i64) (SArg.cons (LArg.int .i64) (SArg.cons (LArg.int .i64) (SArg.cons (LArg.int .i64) (SArg.cons (LArg.int .i64) (SArg.one (LArg.int .i64))))))))))))
def n38:Int->V bL.ty:=λt=>(.inl (.inl (lv (.int .i64 t))))
def aKb:Int:=(0:Int)
abbrev c38 (m:Y38):=jB (cx:=bL) a38 n38 aKb m
theorem aMm:∀ t,dE (n38 t)=true\/cP (n38 t)=true:=λ_=>.inl rfl
abbrev Y39:=Int->Option Bool
def a39:Args bL.ty Int:=(Args.one (Arg.leaf (LArg.int .i64)))
def n39:Bool->V bL.ty:=λt=>(.inl (.inl (lv (.bool t))))
def aKa:Bool:=false
abbrev c39 (m:Y39):=jB (cx:=bL) a39 n39 aKa m
theorem aMl:∀ t,dE (n39 t)=true\/cP (n39 t)=true:=λ_=>.inl rfl
abbrev Y40:=Int->Option Bool
def a40:Args bL.ty Int:=(Args.one (Arg.leaf (LArg.int .i64)))
def n40:Bool->V bL.ty:=λt=>(.inl (.inl (lv (.bool t))))
def aJ9:Bool:=false
abbrev c40 (m:Y40):=jB (cx:=bL) a40 n40 aJ9 m
theorem aMk:∀ t,dE (n40 t)=true\/cP (n40 t)=true:=λ_=>.inl rfl
abbrev Y41:=Int->Option Bool
def a41:Args bL.ty Int:=(Args.one (Arg.leaf (LArg.int .i64)))
def n41:Bool->V bL.ty:=λt=>(.inl (.inl (lv (.bool t))))
def aJ8:Bool:=false
abbrev c41 (m:Y41):=jB (cx:=bL) a41 n41 aJ8 m
theorem aMj:∀ t,dE (n41 t)=true\/cP (n41 t)=true:=λ_=>.inl rfl
abbrev Y42:=(Int×Int×Int×Int×Int×Int)->Option Int
def a42:Args bL.ty (Int×Int×Int×Int×Int×Int):=(Args.one (Arg.agg (SArg.cons (LArg.int .i64) (SArg.cons (LArg.int .i64) (SArg.cons (LArg.int .i64) (SArg.cons (LArg.int .i64) (SArg.cons (LArg.int .i64) (SArg.one (LArg.int .i64)))))))))
def n42:Int->V bL.ty:=λt=>(.inl (.inl (lv (.int .i64 t))))
def aM5:Int:=(0:Int)
abbrev c42 (m:Y42):=jB (cx:=bL) a42 n42 aM5 m
abbrev Y43:=Int->Option (Bool×Bool×Bool×Bool)
def a43:Args bL.ty Int:=(Args.one (Arg.leaf (LArg.int .i64)))
def n43:(Bool×Bool×Bool×Bool)->V bL.ty:=λt=>(.inr (.inl [(.inl (lv (.bool t.1))),(.inl (lv (.bool t.2.1))),(.inl (lv (.bool t.2.2.1))),(.inl (lv (.bool t.2.2.2)))]))
def aJ7:(Bool×Bool×Bool×Bool):=(false,false,false,false)
abbrev c43 (m:Y43):=jB (cx:=bL) a43 n43 aJ7 m
theorem aMi:∀ t,dE (n43 t)=true\/cP (n43 t)=true:=λ_=>.inl rfl
abbrev Y44:=(List (List E9))->Option (List E9)
def a44:Args bL.ty (List (List E9)):=(Args.one (Arg.leaf (LArg.row 52)))
def n44:(List E9)->V bL.ty:=λt=>(.inl (.inl (ls { own:=2,nm:=0,e:=35,o:=true,xs:=t })))
def aM4:(List E9):=[]
abbrev c44 (m:Y44):=jB (cx:=bL) a44 n44 aM4 m
abbrev Y45:=(Int×Int×Int×Int×Int×Int)->Option Int
def a45:Args bL.ty (Int×Int×Int×Int×Int×Int):=(Args.one (Arg.agg (SArg.cons (LArg.int .i64) (SArg.cons (LArg.int .i64) (SArg.cons (LArg.int .i64) (SArg.cons (LArg.int .i64) (SArg.cons (LArg.int .i64) (SArg.one (LArg.int .i64)))))))))
def n45:Int->V bL.ty:=λt=>(.inl (.inl (lv (.int .i64 t))))
def aM3:Int:=(0:Int)
abbrev c45 (m:Y45):=jB (cx:=bL) a45 n45 aM3 m
abbrev Y46:=Int->Option Bool
def a46:Args bL.ty Int:=(Args.one (Arg.leaf (LArg.int .i64)))
def n46:Bool->V bL.ty:=λt=>(.inl (.inl (lv (.bool t))))
def aJ6:Bool:=false
abbrev c46 (m:Y46):=jB (cx:=bL) a46 n46 aJ6 m
theorem aMh:∀ t,dE (n46 t)=true\/cP (n46 t)=true:=λ_=>.inl rfl
abbrev Y49:=Int->Option Bool
def a49:Args bL.ty Int:=(Args.one (Arg.leaf (LArg.int .i64)))
def n49:Bool->V bL.ty:=λt=>(.inl (.inl (lv (.bool t))))
def aJ5:Bool:=false
abbrev c49 (m:Y49):=jB (cx:=bL) a49 n49 aJ5 m
theorem aMg:∀ t,dE (n49 t)=true\/cP (n49 t)=true:=λ_=>.inl rfl
abbrev Y50:=Int->Option Bool
def a50:Args bL.ty Int:=(Args.one (Arg.leaf (LArg.int .i64)))
def n50:Bool->V bL.ty:=λt=>(.inl (.inl (lv (.bool t))))
def aJ4:Bool:=false
abbrev c50 (m:Y50):=jB (cx:=bL) a50 n50 aJ4 m
theorem aMf:∀ t,dE (n50 t)=true\/cP (n50 t)=true:=λ_=>.inl rfl
abbrev Y51:=Int->Option Bool
def a51:Args bL.ty Int:=(Args.one (Arg.leaf (LArg.int .i64)))
def n51:Bool->V bL.ty:=λt=>(.inl (.inl (lv (.bool t))))
def aJ3:Bool:=false
abbrev c51 (m:Y51):=jB (cx:=bL) a51 n51 aJ3 m
theorem aMe:∀ t,dE (n51 t)=true\/cP (n51 t)=true:=λ_=>.inl rfl
abbrev Y52:=(Int×Int×Int×Int×Int×Int)->Option Bool
def a52:Args bL.ty (Int×Int×Int×Int×Int×Int):=(Args.one (Arg.agg (SArg.cons (LArg.int .i64) (SArg.cons (LArg.int .i64) (SArg.cons (LArg.int .i64) (SArg.cons (LArg.int .i64) (SArg.cons (LArg.int .i64) (SArg.one (LArg.int .i64)))))))))
def n52:Bool->V bL.ty:=λt=>(.inl (.inl (lv (.bool t))))
def aJ2:Bool:=false
abbrev c52 (m:Y52):=jB (cx:=bL) a52 n52 aJ2 m
theorem aMd:∀ t,dE (n52 t)=true\/cP (n52 t)=true:=λ_=>.inl rfl
abbrev Y53:=Int->Option Bool
def a53:Args bL.ty Int:=(Args.one (Arg.leaf (LArg.int .i64)))
def n53:Bool->V bL.ty:=λt=>(.inl (.inl (lv (.bool t))))
def aJ1:Bool:=false
abbrev c53 (m:Y53):=jB (cx:=bL) a53 n53 aJ1 m
theorem aMc:∀ t,dE (n53 t)=true\/cP (n53 t)=true:=λ_=>.inl rfl
abbrev Y54:=Int->Option Bool
def a54:Args bL.ty Int:=(Args.one (Arg.leaf (LArg.int .i64)))
def n54:Bool->V bL.ty:=λt=>(.inl (.inl (lv (.bool t))))
def aJ0:Bool:=false
abbrev c54 (m:Y54):=jB (cx:=bL) a54 n54 aJ0 m
theorem aMb:∀ t,dE (n54 t)=true\/cP (n54 t)=true:=λ_=>.inl rfl
abbrev Y55:=Int->Option Bool
def a55:Args bL.ty Int:=(Args.one (Arg.leaf (LArg.int .i64)))
def n55:Bool->V bL.ty:=λt=>(.inl (.inl (lv (.bool t))))
def aJZ:Bool:=false
abbrev c55 (m:Y55):=jB (cx:=bL) a55 n55 aJZ m
theorem aMa:∀ t,dE (n55 t)=true\/cP (n55 t)=true:=λ_=>.inl rfl
abbrev Y56:=Int->Option Bool
def a56:Args bL.ty Int:=(Args.one (Arg.leaf (LArg.int .i64)))
def n56:Bool->V bL.ty:=λt=>(.inl (.inl (lv (.bool t))))
def aJY:Bool:=false
abbrev c56 (m:Y56):=jB (cx:=bL) a56 n56 aJY m
theorem aL9:∀ t,dE (n56 t)=true\/cP (n56 t)=true:=λ_=>.inl rfl
abbrev Y59:=Int->Option Bool
def a59:Args bL.ty Int:=(Args.one (Arg.leaf (LArg.int .i64)))
def n59:Bool->V bL.ty:=λt=>(.inl (.inl (lv (.bool t))))
def aJX:Bool:=false
abbrev c59 (m:Y59):=jB (cx:=bL) a59 n59 aJX m
theorem aL8:∀ t,dE (n59 t)=true\/cP (n59 t)=true:=λ_=>.inl rfl
abbrev Y62:=Int->Option Bool
def a62:Args bL.ty Int:=(Args.one (Arg.leaf (LArg.int .i64)))
def n62:Bool->V bL.ty:=λt=>(.inl (.inl (lv (.bool t))))
def aJW:Bool:=false
abbrev c62 (m:Y62):=jB (cx:=bL) a62 n62 aJW m
theorem aL7:∀ t,dE (n62 t)=true\/cP (n62 t)=true:=λ_=>.inl rfl
abbrev Y63:=Int->Option Bool
def a63:Args bL.ty Int:=(Args.one (Arg.leaf (LArg.int .i64)))
def n63:Bool->V bL.ty:=λt=>(.inl (.inl (lv (.bool t))))
def aJV:Bool:=false
abbrev c63 (m:Y63):=jB (cx:=bL) a63 n63 aJV m
theorem aL6:∀ t,dE (n63 t)=true\/cP (n63 t)=true:=λ_=>.inl rfl
abbrev Y68:=Int->Option Bool
def a68:Args bL.ty Int:=(Args.one (Arg.leaf (LArg.int .i64)))
def n68:Bool->V bL.ty:=λt=>(.inl (.inl (lv (.bool t))))
def aJU:Bool:=false
abbrev c68 (m:Y68):=jB (cx:=bL) a68 n68 aJU m
theorem aL5:∀ t,dE (n68 t)=true\/cP (n68 t)=true:=λ_=>.inl rfl
abbrev Y70:=Int->Option Bool
def a70:Args bL.ty Int:=(Args.one (Arg.leaf (LArg.int .i64)))
def n70:Bool->V bL.ty:=λt=>(.inl (.inl (lv (.bool t))))
def aJT:Bool:=false
abbrev c70 (m:Y70):=jB (cx:=bL) a70 n70 aJT m
theorem aL4:∀ t,dE (n70 t)=true\/cP (n70 t)=true:=λ_=>.inl rfl
end Go.Proofs.Tryz
