/- A part of the proof of FnExactServeFrom: LtCon. -/
import Derived.Test.YtnmnomckcjihoaaGreatLtBase
set_option linter.unusedSimpArgs false
set_option linter.unusedVariables false
namespace Go.Proofs.Tryz
open Go Go.VM Go.RowKit
def a3:Args cxT.ty (Int×Int×Bool×Int×(List Bk)×(List Vp)×(List DZ)):=(Args.one (Arg.agg (SArg.cons (LArg.int .i64) (SArg.cons (LArg.int .i64) (SArg.cons LArg.bool (SArg.cons (LArg.int .i64) (SArg.cons (LArg.row 104) (SArg.cons (LArg.row 100) (SArg.one (LArg.row 72))))))))))
def n3:Bool->V cxT.ty:=λt=>(.inl (.inl (lv (.bool t))))
def dd3:Bool:=false
abbrev c3 (m:(Int×Int×Bool×Int×(List Bk)×(List Vp)×(List DZ))->Option Bool):=fP (cx:=cxT) a3 n3 dd3 m
theorem hs3:∀ t,cH (n3 t)=true\/bX (n3 t)=true:=λ_=>.inl rfl
def a4:Args cxT.ty ((List CZ)×(List DZ)×Int):=(Args.cons (Arg.leaf (LArg.row 25)) (Args.cons (Arg.leaf (LArg.row 72)) (Args.one (Arg.leaf (LArg.int .i64)))))
def n4:Bool->V cxT.ty:=λt=>(.inl (.inl (lv (.bool t))))
def dd4:Bool:=false
abbrev c4 (m:((List CZ)×(List DZ)×Int)->Option Bool):=fP (cx:=cxT) a4 n4 dd4 m
theorem hs4:∀ t,cH (n4 t)=true\/bX (n4 t)=true:=λ_=>.inl rfl
def a5:Args cxT.ty ((Int×Int×Bool×Int×(List Bk)×(List Vp)×(List DZ))×Int):=(Args.cons (Arg.agg (SArg.cons (LArg.int .i64) (SArg.cons (LArg.int .i64) (SArg.cons LArg.bool (SArg.cons (LArg.int .i64) (SArg.cons (LArg.row 104) (SArg.cons (LArg.row 100) (SArg.one (LArg.row 72))))))))) (Args.one (Arg.leaf (LArg.int .i64))))
def n5:Int->V cxT.ty:=λt=>(.inl (.inl (lv (.int .i64 t))))
def dd5:Int:=(0:Int)
abbrev c5 (m:((Int×Int×Bool×Int×(List Bk)×(List Vp)×(List DZ))×Int)->Option Int):=fP (cx:=cxT) a5 n5 dd5 m
def a6:Args cxT.ty (Int×Int×Bool×Int×(List Bk)×(List Vp)×(List DZ)):=(Args.one (Arg.agg (SArg.cons (LArg.int .i64) (SArg.cons (LArg.int .i64) (SArg.cons LArg.bool (SArg.cons (LArg.int .i64) (SArg.cons (LArg.row 83) (SArg.cons (LArg.row 96) (SArg.one (LArg.row 64))))))))))
def n6:Int->V cxT.ty:=λt=>(.inl (.inl (lv (.int .i64 t))))
def dd6:Int:=(0:Int)
abbrev c6 (m:(Int×Int×Bool×Int×(List Bk)×(List Vp)×(List DZ))->Option Int):=fP (cx:=cxT) a6 n6 dd6 m
def a7:Args cxT.ty (Int×Int×Bool×Int×(List Bk)×(List Vp)×(List DZ)):=(Args.one (Arg.agg (SArg.cons (LArg.int .i64) (SArg.cons (LArg.int .i64) (SArg.cons LArg.bool (SArg.cons (LArg.int .i64) (SArg.cons (LArg.row 104) (SArg.cons (LArg.row 100) (SArg.one (LArg.row 72))))))))))
def n7:(Int×Int×Bool×Int×(List Bk)×(List Vp)×(List DZ))->V cxT.ty:=λt=>(.inl (.inr [(lv (.int .i64 t.1)),(lv (.int .i64 t.2.1)),(lv (.bool t.2.2.1)),(lv (.int .i64 t.2.2.2.1)),(ls { own:=2,nm:=0,e:=83,o:=true,xs:=t.2.2.2.2.1 }),(ls { own:=2,nm:=0,e:=96,o:=true,xs:=t.2.2.2.2.2.1 }),(ls { own:=2,nm:=0,e:=64,o:=true,xs:=t.2.2.2.2.2.2 })]))
def dd7:(Int×Int×Bool×Int×(List Bk)×(List Vp)×(List DZ)):=((0:Int),(0:Int),false,(0:Int),[],[],[])
abbrev c7 (m:(Int×Int×Bool×Int×(List Bk)×(List Vp)×(List DZ))->Option (Int×Int×Bool×Int×(List Bk)×(List Vp)×(List DZ))):=fP (cx:=cxT) a7 n7 dd7 m
def a8:Args cxT.ty (Int×Int×Bool×Int×(List Bk)×(List Vp)×(List DZ)):=(Args.one (Arg.agg (SArg.cons (LArg.int .i64) (SArg.cons (LArg.int .i64) (SArg.cons LArg.bool (SArg.cons (LArg.int .i64) (SArg.cons (LArg.row 83) (SArg.cons (LArg.row 96) (SArg.one (LArg.row 64))))))))))
def n8:Int->V cxT.ty:=λt=>(.inl (.inl (lv (.int .i64 t))))
def dd8:Int:=(0:Int)
abbrev c8 (m:(Int×Int×Bool×Int×(List Bk)×(List Vp)×(List DZ))->Option Int):=fP (cx:=cxT) a8 n8 dd8 m
def a9:Args cxT.ty ((Int×Int×Bool×Int×(List Bk)×(List Vp)×(List DZ))×(Int×Int×Bool×Int×(List Bk)×(List Vp)×(List DZ))):=(Args.cons (Arg.agg (SArg.cons (LArg.int .i64) (SArg.cons (LArg.int .i64) (SArg.cons LArg.bool (SArg.cons (LArg.int .i64) (SArg.cons (LArg.row 83) (SArg.cons (LArg.row 96) (SArg.one (LArg.row 64))))))))) (Args.one (Arg.agg (SArg.cons (LArg.int .i64) (SArg.cons (LArg.int .i64) (SArg.cons LArg.bool (SArg.cons (LArg.int .i64) (SArg.cons (LArg.row 83) (SArg.cons (LArg.row 96) (SArg.one (LArg.row 64)))))))))))
def n9:Bool->V cxT.ty:=λt=>(.inl (.inl (lv (.bool t))))
def dd9:Bool:=false
abbrev c9 (m:((Int×Int×Bool×Int×(List Bk)×(List Vp)×(List DZ))×(Int×Int×Bool×Int×(List Bk)×(List Vp)×(List DZ)))->Option Bool):=fP (cx:=cxT) a9 n9 dd9 m
theorem hs9:∀ t,cH (n9 t)=true\/bX (n9 t)=true:=λ_=>.inl rfl
def a10:Args cxT.ty ((List CZ)×Int):=(Args.cons (Arg.leaf (LArg.row 25)) (Args.one (Arg.leaf (LArg.int .i64))))
def n10:Int->V cxT.ty:=λt=>(.inl (.inl (lv (.int .i64 t))))
def aRq:Int:=(0:Int)
abbrev c10 (m:((List CZ)×Int)->Option Int):=fP (cx:=cxT) a10 n10 aRq m
theorem aU1:∀ t,cH (n10 t)=true\/bX (n10 t)=true:=λ_=>.inl rfl
def a11:Args cxT.ty ((List DZ)×Int):=(Args.cons (Arg.leaf (LArg.row 72)) (Args.one (Arg.leaf (LArg.int .i64))))
def n11:Int->V cxT.ty:=λt=>(.inl (.inl (lv (.int .i64 t))))
def aRp:Int:=(0:Int)
abbrev c11 (m:((List DZ)×Int)->Option Int):=fP (cx:=cxT) a11 n11 aRp m
theorem aU0:∀ t,cH (n11 t)=true\/bX (n11 t)=true:=λ_=>.inl rfl
def a12:Args cxT.ty ((List CZ)×(List DZ)×Int):=(Args.cons (Arg.leaf (LArg.row 34)) (Args.cons (Arg.leaf (LArg.row 64)) (Args.one (Arg.leaf (LArg.int .i64)))))
def n12:(Int×Int×Int×Bool×Int×(List Bk)×(List Vp)×(List DZ))->V cxT.ty:=λt=>(.inl (.inr [(lv (.int .i64 t.1)),(lv (.int .i64 t.2.1)),(lv (.int .i64 t.2.2.1)),(lv (.bool t.2.2.2.1)),(lv (.int .i64 t.2.2.2.2.1)),(ls { own:=2,nm:=0,e:=83,o:=true,xs:=t.2.2.2.2.2.1 }),(ls { own:=2,nm:=0,e:=96,o:=true,xs:=t.2.2.2.2.2.2.1 }),(ls { own:=2,nm:=0,e:=64,o:=true,xs:=t.2.2.2.2.2.2.2 })]))
def aRo:(Int×Int×Int×Bool×Int×(List Bk)×(List Vp)×(List DZ)):=((0:Int),(0:Int),(0:Int),false,(0:Int),[],[],[])
abbrev c12 (m:((List CZ)×(List DZ)×Int)->Option (Int×Int×Int×Bool×Int×(List Bk)×(List Vp)×(List DZ))):=fP (cx:=cxT) a12 n12 aRo m
theorem aUZ:∀ t,cH (n12 t)=true\/bX (n12 t)=true:=λ_=>.inl rfl
def a13:Args cxT.ty (List CZ):=(Args.one (Arg.leaf (LArg.row 25)))
def n13:(List CZ)->V cxT.ty:=λt=>(.inl (.inl (ls { own:=2,nm:=0,e:=34,o:=true,xs:=t })))
def aRn:(List CZ):=[]
abbrev c13 (m:(List CZ)->Option (List CZ)):=fP (cx:=cxT) a13 n13 aRn m
theorem aUY:∀ t,cH (n13 t)=true\/bX (n13 t)=true:=λ_=>.inl rfl
def a14:Args cxT.ty (List DZ):=(Args.one (Arg.leaf (LArg.row 72)))
def n14:(List DZ)->V cxT.ty:=λt=>(.inl (.inl (ls { own:=2,nm:=0,e:=64,o:=true,xs:=t })))
def aRm:(List DZ):=[]
abbrev c14 (m:(List DZ)->Option (List DZ)):=fP (cx:=cxT) a14 n14 aRm m
theorem aUX:∀ t,cH (n14 t)=true\/bX (n14 t)=true:=λ_=>.inl rfl
def a15:Args cxT.ty ((List CZ)×(List DZ)×Int):=(Args.cons (Arg.leaf (LArg.row 34)) (Args.cons (Arg.leaf (LArg.row 64)) (Args.one (Arg.leaf (LArg.int .i64)))))
def n15:(Int×Int×Int×Bool×Int×(List Bk)×(List Vp)×(List DZ))->V cxT.ty:=λt=>(.inl (.inr [(lv (.int .i64 t.1)),(lv (.int .i64 t.2.1)),(lv (.int .i64 t.2.2.1)),(lv (.bool t.2.2.2.1)),(lv (.int .i64 t.2.2.2.2.1)),(ls { own:=2,nm:=0,e:=83,o:=true,xs:=t.2.2.2.2.2.1 }),(ls { own:=2,nm:=0,e:=96,o:=true,xs:=t.2.2.2.2.2.2.1 }),(ls { own:=2,nm:=0,e:=64,o:=true,xs:=t.2.2.2.2.2.2.2 })]))
def aRl:(Int×Int×Int×Bool×Int×(List Bk)×(List Vp)×(List DZ)):=((0:Int),(0:Int),(0:Int),false,(0:Int),[],[],[])
abbrev c15 (m:((List CZ)×(List DZ)×Int)->Option (Int×Int×Int×Bool×Int×(List Bk)×(List Vp)×(List DZ))):=fP (cx:=cxT) a15 n15 aRl m
theorem aUW:∀ t,cH (n15 t)=true\/bX (n15 t)=true:=λ_=>.inl rfl
def a16:Args cxT.ty ((Int×Int×Int×Bool×Int×(List Bk)×(List Vp)×(List DZ))×(Int×Int×Int×Bool×Int×(List Bk)×(List Vp)×(List DZ))):=(Args.cons (Arg.agg (SArg.cons (LArg.int .i64) (SArg.cons (LArg.int .i64) (SArg.cons (LArg.int .i64) (SArg.cons LArg.bool (SArg.cons (LArg.int .i64) (SArg.cons (LArg.row 83) (SArg.cons (LArg.row 96) (SArg.one (LArg.row 64)))))))))) (Args.one (Arg.agg (SArg.cons (LArg.int .i64) (SArg.cons (LArg.int .i64) (SArg.cons (LArg.int .i64) (SArg.cons LArg.bool (SArg.cons (LArg.int .i64) (SArg.cons (LArg.row 83) (SArg.cons (LArg.row 96) (SArg.one (LArg.row 64))))))))))))
def n16:Bool->V cxT.ty:=λt=>(.inl (.inl (lv (.bool t))))
def aRk:Bool:=false
abbrev c16 (m:((Int×Int×Int×Bool×Int×(List Bk)×(List Vp)×(List DZ))×(Int×Int×Int×Bool×Int×(List Bk)×(List Vp)×(List DZ)))->Option Bool):=fP (cx:=cxT) a16 n16 aRk m
theorem aUV:∀ t,cH (n16 t)=true\/bX (n16 t)=true:=λ_=>.inl rfl
def a17:Args cxT.ty ((List CZ)×(List CZ)):=(Args.cons (Arg.leaf (LArg.row 34)) (Args.one (Arg.leaf (LArg.row 34))))
def n17:Bool->V cxT.ty:=λt=>(.inl (.inl (lv (.bool t))))
def aRj:Bool:=false
abbrev c17 (m:((List CZ)×(List CZ))->Option Bool):=fP (cx:=cxT) a17 n17 aRj m
theorem aUU:∀ t,cH (n17 t)=true\/bX (n17 t)=true:=λ_=>.inl rfl
def a18:Args cxT.ty ((List DZ)×(List DZ)):=(Args.cons (Arg.leaf (LArg.row 64)) (Args.one (Arg.leaf (LArg.row 64))))
def n18:Bool->V cxT.ty:=λt=>(.inl (.inl (lv (.bool t))))
def aRi:Bool:=false
abbrev c18 (m:((List DZ)×(List DZ))->Option Bool):=fP (cx:=cxT) a18 n18 aRi m
theorem aUT:∀ t,cH (n18 t)=true\/bX (n18 t)=true:=λ_=>.inl rfl
def a19:Args cxT.ty ((List CZ)×Int):=(Args.cons (Arg.leaf (LArg.own 34)) (Args.one (Arg.leaf (LArg.int .i64))))
def n19:(Int×(List CZ))->List (A cxT.ty):=λt=>[(.inl (lv (.int .i64 t.1))),(.inl (ls { own:=2,nm:=0,e:=34,o:=true,xs:=t.2 }))]
def aRh:(Int×(List CZ)):=((0:Int),[])
abbrev c19 (m:((List CZ)×Int)->Option (Int×(List CZ))):WFn cxT:={ nres:=1,n:=1,F:=fnW (cx:=cxT) a19 n19 aRh m,p:=4 }
theorem aUS:∀ t,cH (.inr (.inl (n19 t)):V cxT.ty)=true:=λ_=>rfl
def a20:Args cxT.ty ((List DZ)×Int):=(Args.cons (Arg.leaf (LArg.own 64)) (Args.one (Arg.leaf (LArg.int .i64))))
def n20:(Int×(List DZ))->List (A cxT.ty):=λt=>[(.inl (lv (.int .i64 t.1))),(.inl (ls { own:=2,nm:=0,e:=64,o:=true,xs:=t.2 }))]
def aRg:(Int×(List DZ)):=((0:Int),[])
abbrev c20 (m:((List DZ)×Int)->Option (Int×(List DZ))):WFn cxT:={ nres:=1,n:=1,F:=fnW (cx:=cxT) a20 n20 aRg m }
theorem aUR:∀ t,cH (.inr (.inl (n20 t)):V cxT.ty)=true:=λ_=>rfl
def a21:Args cxT.ty ((Int×Int×Int×Bool×Int×(List Bk)×(List Vp)×(List DZ))×Int):=(Args.cons (Arg.agg (SArg.cons (LArg.int .i64) (SArg.cons (LArg.int .i64) (SArg.cons (LArg.int .i64) (SArg.cons LArg.bool (SArg.cons (LArg.int .i64) (SArg.cons (LArg.own 83) (SArg.cons (LArg.own 96) (SArg.one (LArg.own 64)))))))))) (Args.one (Arg.leaf (LArg.int .i64))))
def n21:(Int×Int×Int×Int×Bool×Int×(List Bk)×(List Vp)×(List DZ))->List (A cxT.ty):=λt=>[(.inl (lv (.int .i64 t.1))),(.inr [(lv (.int .i64 t.2.1)),(lv (.int .i64 t.2.2.1)),(lv (.int .i64 t.2.2.2.1)),(lv (.bool t.2.2.2.2.1)),(lv (.int .i64 t.2.2.2.2.2.1)),(ls { own:=2,nm:=0,e:=83,o:=true,xs:=t.2.2.2.2.2.2.1 }),(ls { own:=2,nm:=0,e:=96,o:=true,xs:=t.2.2.2.2.2.2.2.1 }),(ls { own:=2,nm:=0,e:=64,o:=true,xs:=t.2.2.2.2.2.2.2.2 })])]
def aRf:(Int×Int×Int×Int×Bool×Int×(List Bk)×(List Vp)×(List DZ)):=((0:Int),(0:Int),(0:Int),(0:Int),false,(0:Int),[],[],[])
abbrev c21 (m:((Int×Int×Int×Bool×Int×(List Bk)×(List Vp)×(List DZ))×Int)->Option (Int×Int×Int×Int×Bool×Int×(List Bk)×(List Vp)×(List DZ))):WFn cxT:={ nres:=1,n:=1,F:=fnW (cx:=cxT) a21 n21 aRf m,p:=4 }
theorem aUQ:∀ t,cH (.inr (.inl (n21 t)):V cxT.ty)=true:=λ_=>rfl
def a22:Args cxT.ty ((Int×Int×Int×Bool×Int×(List Bk)×(List Vp)×(List DZ))×Int):=(Args.cons (Arg.agg (SArg.cons (LArg.int .i64) (SArg.cons (LArg.int .i64) (SArg.cons (LArg.int .i64) (SArg.cons LArg.bool (SArg.cons (LArg.int .i64) (SArg.cons (LArg.row 83) (SArg.cons (LArg.row 96) (SArg.one (LArg.row 64)))))))))) (Args.one (Arg.leaf (LArg.int .i64))))
def n22:Int->V cxT.ty:=λt=>(.inl (.inl (lv (.int .i64 t))))
def aRe:Int:=(0:Int)
abbrev c22 (m:((Int×Int×Int×Bool×Int×(List Bk)×(List Vp)×(List DZ))×Int)->Option Int):=fP (cx:=cxT) a22 n22 aRe m
theorem aUP:∀ t,cH (n22 t)=true\/bX (n22 t)=true:=λ_=>.inl rfl
def a23:Args cxT.ty (CZ×Int):=(Args.cons (Arg.agg (SArg.cons (LArg.int .i64) (SArg.cons (LArg.row 104) (SArg.one (LArg.row 100))))) (Args.one (Arg.leaf (LArg.int .i64))))
def n23:Int->V cxT.ty:=λt=>(.inl (.inl (lv (.int .i64 t))))
def aRd:Int:=(0:Int)
abbrev c23 (m:(CZ×Int)->Option Int):=fP (cx:=cxT) a23 n23 aRd m
theorem aUO:∀ t,cH (n23 t)=true\/bX (n23 t)=true:=λ_=>.inl rfl
def a24:Args cxT.ty Int:=(Args.one (Arg.leaf (LArg.int .i64)))
def n24:Bool->V cxT.ty:=λt=>(.inl (.inl (lv (.bool t))))
def aRc:Bool:=false
abbrev c24 (m:Int->Option Bool):=fP (cx:=cxT) a24 n24 aRc m
theorem aUN:∀ t,cH (n24 t)=true\/bX (n24 t)=true:=λ_=>.inl rfl
def a25:Args cxT.ty CZ:=(Args.one (Arg.leaf (LArg.ptr 34)))
def n25:Int->V cxT.ty:=λt=>(.inl (.inl (lv (.int .i64 t))))
def aRb:Int:=(0:Int)
abbrev c25 (m:CZ->Option Int):=fP (cx:=cxT) a25 n25 aRb m
theorem aUM:∀ t,cH (n25 t)=true\/bX (n25 t)=true:=λ_=>.inl rfl
def a26:Args cxT.ty CZ:=(Args.one (Arg.leaf (LArg.ptr 34)))
def n26:Bool->V cxT.ty:=λt=>(.inl (.inl (lv (.bool t))))
def aVj:Bool:=false
abbrev c26 (m:CZ->Option Bool):=fP (cx:=cxT) a26 n26 aVj m
def a27:Args cxT.ty DZ:=(Args.one (Arg.agg (SArg.cons (LArg.int .i64) (SArg.cons (LArg.int .i64) (SArg.cons (LArg.int .i64) (SArg.cons (LArg.int .i64) (SArg.cons (LArg.int .i64) (SArg.one (LArg.int .i64)))))))))
def n27:Int->V cxT.ty:=λt=>(.inl (.inl (lv (.int .i64 t))))
def aVi:Int:=(0:Int)
abbrev c27 (m:DZ->Option Int):=fP (cx:=cxT) a27 n27 aVi m
def a28:Args cxT.ty CZ:=(Args.one (Arg.agg (SArg.cons (LArg.int .i64) (SArg.cons (LArg.row 104) (SArg.one (LArg.row 100))))))
def n28:CZ->V cxT.ty:=λt=>(.inl (.inr [(lv (.int .i64 t.1)),(ls { own:=2,nm:=0,e:=83,o:=true,xs:=t.2.1 }),(ls { own:=2,nm:=0,e:=96,o:=true,xs:=t.2.2 })]))
def aRa:CZ:=((0:Int),[],[])
abbrev c28 (m:CZ->Option CZ):=fP (cx:=cxT) a28 n28 aRa m
theorem aUL:∀ t,cH (n28 t)=true\/bX (n28 t)=true:=λ_=>.inl rfl
def a29:Args cxT.ty Int:=(Args.one (Arg.leaf (LArg.int .i64)))
def n29:Bool->V cxT.ty:=λt=>(.inl (.inl (lv (.bool t))))
def aQ9:Bool:=false
abbrev c29 (m:Int->Option Bool):=fP (cx:=cxT) a29 n29 aQ9 m
theorem aUK:∀ t,cH (n29 t)=true\/bX (n29 t)=true:=λ_=>.inl rfl
def a32:Args cxT.ty (CZ×CZ):=(Args.cons (Arg.agg (SArg.cons (LArg.int .i64) (SArg.cons (LArg.row 83) (SArg.one (LArg.row 96))))) (Args.one (Arg.agg (SArg.cons (LArg.int .i64) (SArg.cons (LArg.row 83) (SArg.one (LArg.row 96)))))))
def n32:Bool->V cxT.ty:=λt=>(.inl (.inl (lv (.bool t))))
def aQ8:Bool:=false
abbrev c32 (m:(CZ×CZ)->Option Bool):=fP (cx:=cxT) a32 n32 aQ8 m
theorem aUJ:∀ t,cH (n32 t)=true\/bX (n32 t)=true:=λ_=>.inl rfl
def a33:Args cxT.ty ((List CZ)×(List DZ)):=(Args.cons (Arg.leaf (LArg.row 34)) (Args.one (Arg.leaf (LArg.row 64))))
def n33:Int->V cxT.ty:=λt=>(.inl (.inl (lv (.int .i64 t))))
def aQ7:Int:=(0:Int)
abbrev c33 (m:((List CZ)×(List DZ))->Option Int):=fP (cx:=cxT) a33 n33 aQ7 m
theorem aUI:∀ t,cH (n33 t)=true\/bX (n33 t)=true:=λ_=>.inl rfl
def a34:Args cxT.ty (Int×Int×Int):=(Args.cons (Arg.leaf (LArg.int .i64)) (Args.cons (Arg.leaf (LArg.int .i64)) (Args.one (Arg.leaf (LArg.int .i64)))))
def n34:Bool->V cxT.ty:=λt=>(.inl (.inl (lv (.bool t))))
def aQ6:Bool:=false
abbrev c34 (m:(Int×Int×Int)->Option Bool):=fP (cx:=cxT) a34 n34 aQ6 m
theorem aUH:∀ t,cH (n34 t)=true\/bX (n34 t)=true:=λ_=>.inl rfl
def a35:Args cxT.ty (Int×Int):=(Args.cons (Arg.leaf (LArg.int .i64)) (Args.one (Arg.leaf (LArg.int .i64))))
def n35:Int->V cxT.ty:=λt=>(.inl (.inl (lv (.int .i64 t))))
def aQ5:Int:=(0:Int)
abbrev c35 (m:(Int×Int)->Option Int):=fP (cx:=cxT) a35 n35 aQ5 m
theorem aUG:∀ t,cH (n35 t)=true\/bX (n35 t)=true:=λ_=>.inl rfl
def a36:Args cxT.ty CZ:=(Args.one (Arg.agg (SArg.cons (LArg.int .i64) (SArg.cons (LArg.row 83) (SArg.one (LArg.row 96))))))
def n36:CZ->V cxT.ty:=λt=>(.inl (.inr [(lv (.int .i64 t.1)),(ls { own:=2,nm:=0,e:=83,o:=true,xs:=t.2.1 }),(ls { own:=2,nm:=0,e:=96,o:=true,xs:=t.2.2 })]))
def aQ4:CZ:=((0:Int),[],[])
abbrev c36 (m:CZ->Option CZ):=fP (cx:=cxT) a36 n36 aQ4 m
theorem aUF:∀ t,cH (n36 t)=true\/bX (n36 t)=true:=λ_=>.inl rfl
def a37:Args cxT.ty DZ:=(Args.one (Arg.agg (SArg.cons (LArg.int .i64) (SArg.cons (LArg.int .i64) (SArg.cons (LArg.int .i64) (SArg.cons (LArg.int .i64) (SArg.cons (LArg.int .i64) (SArg.one (LArg.int .i64)))))))))
def n37:DZ->V cxT.ty:=λt=>(.inl (.inr [(lv (.int .i64 t.1)),(lv (.int .i64 t.2.1)),(lv (.int .i64 t.2.2.1)),(lv (.int .i64 t.2.2.2.1)),(lv (.int .i64 t.2.2.2.2.1)),(lv (.int .i64 t.2.2.2.2.2))]))
def aQ3:DZ:=((0:Int),(0:Int),(0:Int),(0:Int),(0:Int),(0:Int))
abbrev c37 (m:DZ->Option DZ):=fP (cx:=cxT) a37 n37 aQ3 m
theorem aUE:∀ t,cH (n37 t)=true\/bX (n37 t)=true:=λ_=>.inl rfl
def a38:Args cxT.ty ((List CZ)×(List DZ)):=(Args.cons (Arg.leaf (LArg.row 34)) (Args.one (Arg.leaf (LArg.row 64))))
def n38:Int->V cxT.ty:=λt=>(.inl (.inl (lv (.int .i64 t))))
def aQ2:Int:=(0:Int)
abbrev c38 (m:((List CZ)×(List DZ))->Option Int):=fP (cx:=cxT) a38 n38 aQ2 m
theorem aUD:∀ t,cH (n38 t)=true\/bX (n38 t)=true:=λ_=>.inl rfl
def a39:Args cxT.ty CZ:=(Args.one (Arg.agg (SArg.cons (LArg.int .i64) (SArg.cons (LArg.row 83) (SArg.one (LArg.row 96))))))
def n39:(Int×Int×Int×Bool×Int×(List Bk)×(List Vp)×(List DZ))->V cxT.ty:=λt=>(.inl (.inr [(lv (.int .i64 t.1)),(lv (.int .i64 t.2.1)),(lv (.int .i64 t.2.2.1)),(lv (.bool t.2.2.2.1)),(lv (.int .i64 t.2.2.2.2.1)),(ls { own:=2,nm:=0,e:=83,o:=true,xs:=t.2.2.2.2.2.1 }),(ls { own:=2,nm:=0,e:=96,o:=true,xs:=t.2.2.2.2.2.2.1 }),(ls { own:=2,nm:=0,e:=64,o:=true,xs:=t.2.2.2.2.2.2.2 })]))
def aQ1:(Int×Int×Int×Bool×Int×(List Bk)×(List Vp)×(List DZ)):=((0:Int),(0:Int),(0:Int),false,(0:Int),[],[],[])
abbrev c39 (m:CZ->Option (Int×Int×Int×Bool×Int×(List Bk)×(List Vp)×(List DZ))):=fP (cx:=cxT) a39 n39 aQ1 m
theorem aUC:∀ t,cH (n39 t)=true\/bX (n39 t)=true:=λ_=>.inl rfl
def a40:Args cxT.ty (Int×Int×(List DZ)):=(Args.cons (Arg.leaf (LArg.int .i64)) (Args.cons (Arg.leaf (LArg.int .i64)) (Args.one (Arg.leaf (LArg.row 64)))))
def n40:(Int×Int×Bool×Int×(List Bk)×(List Vp)×(List DZ))->V cxT.ty:=λt=>(.inl (.inr [(lv (.int .i64 t.1)),(lv (.int .i64 t.2.1)),(lv (.bool t.2.2.1)),(lv (.int .i64 t.2.2.2.1)),(ls { own:=2,nm:=0,e:=83,o:=true,xs:=t.2.2.2.2.1 }),(ls { own:=2,nm:=0,e:=96,o:=true,xs:=t.2.2.2.2.2.1 }),(ls { own:=2,nm:=0,e:=64,o:=true,xs:=t.2.2.2.2.2.2 })]))
def aQ0:(Int×Int×Bool×Int×(List Bk)×(List Vp)×(List DZ)):=((0:Int),(0:Int),false,(0:Int),[],[],[])
abbrev c40 (m:(Int×Int×(List DZ))->Option (Int×Int×Bool×Int×(List Bk)×(List Vp)×(List DZ))):=fP (cx:=cxT) a40 n40 aQ0 m
theorem aUB:∀ t,cH (n40 t)=true\/bX (n40 t)=true:=λ_=>.inl rfl
def a41:Args cxT.ty (DZ×DZ):=(Args.cons (Arg.agg (SArg.cons (LArg.int .i64) (SArg.cons (LArg.int .i64) (SArg.cons (LArg.int .i64) (SArg.cons (LArg.int .i64) (SArg.cons (LArg.int .i64) (SArg.one (LArg.int .i64)))))))) (Args.one (Arg.agg (SArg.cons (LArg.int .i64) (SArg.cons (LArg.int .i64) (SArg.cons (LArg.int .i64) (SArg.cons (LArg.int .i64) (SArg.cons (LArg.int .i64) (SArg.one (LArg.int .i64))))))))))
def n41:Bool->V cxT.ty:=λt=>(.inl (.inl (lv (.bool t))))
def aQZ:Bool:=false
abbrev c41 (m:(DZ×DZ)->Option Bool):=fP (cx:=cxT) a41 n41 aQZ m
theorem aUA:∀ t,cH (n41 t)=true\/bX (n41 t)=true:=λ_=>.inl rfl
def a42:Args cxT.ty ((List Bk)×Int):=(Args.cons (Arg.leaf (LArg.own 83)) (Args.one (Arg.leaf (LArg.int .i64))))
def n42:(Int×(List Bk))->List (A cxT.ty):=λt=>[(.inl (lv (.int .i64 t.1))),(.inl (ls { own:=2,nm:=0,e:=83,o:=true,xs:=t.2 }))]
def aQY:(Int×(List Bk)):=((0:Int),[])
abbrev c42 (m:((List Bk)×Int)->Option (Int×(List Bk))):WFn cxT:={ nres:=1,n:=1,F:=fnW (cx:=cxT) a42 n42 aQY m }
theorem aUz:∀ t,cH (.inr (.inl (n42 t)):V cxT.ty)=true:=λ_=>rfl
def a43:Args cxT.ty ((List Vp)×Int):=(Args.cons (Arg.leaf (LArg.own 96)) (Args.one (Arg.leaf (LArg.int .i64))))
def n43:(Int×(List Vp))->List (A cxT.ty):=λt=>[(.inl (lv (.int .i64 t.1))),(.inl (ls { own:=2,nm:=0,e:=96,o:=true,xs:=t.2 }))]
def aQX:(Int×(List Vp)):=((0:Int),[])
abbrev c43 (m:((List Vp)×Int)->Option (Int×(List Vp))):WFn cxT:={ nres:=1,n:=1,F:=fnW (cx:=cxT) a43 n43 aQX m,p:=4 }
theorem aUy:∀ t,cH (.inr (.inl (n43 t)):V cxT.ty)=true:=λ_=>rfl
def a44:Args cxT.ty ((Int×Int×Bool×Int×(List Bk)×(List Vp)×(List DZ))×Int):=(Args.cons (Arg.agg (SArg.cons (LArg.int .i64) (SArg.cons (LArg.int .i64) (SArg.cons LArg.bool (SArg.cons (LArg.int .i64) (SArg.cons (LArg.own 83) (SArg.cons (LArg.own 96) (SArg.one (LArg.own 64))))))))) (Args.one (Arg.leaf (LArg.int .i64))))
def n44:(Int×Int×Int×Bool×Int×(List Bk)×(List Vp)×(List DZ))->List (A cxT.ty):=λt=>[(.inl (lv (.int .i64 t.1))),(.inr [(lv (.int .i64 t.2.1)),(lv (.int .i64 t.2.2.1)),(lv (.bool t.2.2.2.1)),(lv (.int .i64 t.2.2.2.2.1)),(ls { own:=2,nm:=0,e:=83,o:=true,xs:=t.2.2.2.2.2.1 }),(ls { own:=2,nm:=0,e:=96,o:=true,xs:=t.2.2.2.2.2.2.1 }),(ls { own:=2,nm:=0,e:=64,o:=true,xs:=t.2.2.2.2.2.2.2 })])]
def aQW:(Int×Int×Int×Bool×Int×(List Bk)×(List Vp)×(List DZ)):=((0:Int),(0:Int),(0:Int),false,(0:Int),[],[],[])
abbrev c44 (m:((Int×Int×Bool×Int×(List Bk)×(List Vp)×(List DZ))×Int)->Option (Int×Int×Int×Bool×Int×(List Bk)×(List Vp)×(List DZ))):WFn cxT:={ nres:=1,n:=1,F:=fnW (cx:=cxT) a44 n44 aQW m,p:=4 }
theorem aUx:∀ t,cH (.inr (.inl (n44 t)):V cxT.ty)=true:=λ_=>rfl
def a45:Args cxT.ty ((Int×Int×Bool×Int×(List Bk)×(List Vp)×(List DZ))×Int):=(Args.cons (Arg.agg (SArg.cons (LArg.int .i64) (SArg.cons (LArg.int .i64) (SArg.cons LArg.bool (SArg.cons (LArg.int .i64) (SArg.cons (LArg.row 83) (SArg.cons (LArg.row 96) (SArg.one (LArg.row 64))))))))) (Args.one (Arg.leaf (LArg.int .i64))))
def n45:Int->V cxT.ty:=λt=>(.inl (.inl (lv (.int .i64 t))))
def aQV:Int:=(0:Int)
abbrev c45 (m:((Int×Int×Bool×Int×(List Bk)×(List Vp)×(List DZ))×Int)->Option Int):=fP (cx:=cxT) a45 n45 aQV m
theorem aUw:∀ t,cH (n45 t)=true\/bX (n45 t)=true:=λ_=>.inl rfl
def a46:Args cxT.ty ((List Bk)×Int):=(Args.cons (Arg.leaf (LArg.row 104)) (Args.one (Arg.leaf (LArg.int .i64))))
def n46:Int->V cxT.ty:=λt=>(.inl (.inl (lv (.int .i64 t))))
def aQU:Int:=(0:Int)
abbrev c46 (m:((List Bk)×Int)->Option Int):=fP (cx:=cxT) a46 n46 aQU m
theorem aUv:∀ t,cH (n46 t)=true\/bX (n46 t)=true:=λ_=>.inl rfl
def a47:Args cxT.ty ((List Vp)×Int):=(Args.cons (Arg.leaf (LArg.row 100)) (Args.one (Arg.leaf (LArg.int .i64))))
def n47:Int->V cxT.ty:=λt=>(.inl (.inl (lv (.int .i64 t))))
def aQT:Int:=(0:Int)
abbrev c47 (m:((List Vp)×Int)->Option Int):=fP (cx:=cxT) a47 n47 aQT m
theorem aUu:∀ t,cH (n47 t)=true\/bX (n47 t)=true:=λ_=>.inl rfl
def a48:Args cxT.ty Bk:=(Args.one (Arg.agg (SArg.cons (LArg.int .i64) (SArg.cons (LArg.int .i64) (SArg.cons (LArg.int .i64) (SArg.cons (LArg.int .i64) (SArg.one LArg.bool)))))))
def n48:Bool->V cxT.ty:=λt=>(.inl (.inl (lv (.bool t))))
def aQS:Bool:=false
abbrev c48 (m:Bk->Option Bool):=fP (cx:=cxT) a48 n48 aQS m
theorem aUt:∀ t,cH (n48 t)=true\/bX (n48 t)=true:=λ_=>.inl rfl
def a49:Args cxT.ty (CZ×Int):=(Args.cons (Arg.leaf (LArg.ptr 34)) (Args.one (Arg.leaf (LArg.int .i64))))
def n49:Int->V cxT.ty:=λt=>(.inl (.inl (lv (.int .i64 t))))
def aQR:Int:=(0:Int)
abbrev c49 (m:(CZ×Int)->Option Int):=fP (cx:=cxT) a49 n49 aQR m
theorem aUs:∀ t,cH (n49 t)=true\/bX (n49 t)=true:=λ_=>.inl rfl
def a50:Args cxT.ty Int:=(Args.one (Arg.leaf (LArg.int .i64)))
def n50:(Bool×Bool×Bool×Bool)->V cxT.ty:=λt=>(.inr (.inl [(.inl (lv (.bool t.1))),(.inl (lv (.bool t.2.1))),(.inl (lv (.bool t.2.2.1))),(.inl (lv (.bool t.2.2.2)))]))
def aQQ:(Bool×Bool×Bool×Bool):=(false,false,false,false)
abbrev c50 (m:Int->Option (Bool×Bool×Bool×Bool)):=fP (cx:=cxT) a50 n50 aQQ m
theorem aUr:∀ t,cH (n50 t)=true\/bX (n50 t)=true:=λ_=>.inl rfl
def a51:Args cxT.ty Int:=(Args.one (Arg.leaf (LArg.int .i64)))
def n51:Bool->V cxT.ty:=λt=>(.inl (.inl (lv (.bool t))))
def aQP:Bool:=false
abbrev c51 (m:Int->Option Bool):=fP (cx:=cxT) a51 n51 aQP m
theorem aUq:∀ t,cH (n51 t)=true\/bX (n51 t)=true:=λ_=>.inl rfl
def a52:Args cxT.ty Int:=(Args.one (Arg.leaf (LArg.int .i64)))
def n52:Bool->V cxT.ty:=λt=>(.inl (.inl (lv (.bool t))))
def aQO:Bool:=false
abbrev c52 (m:Int->Option Bool):=fP (cx:=cxT) a52 n52 aQO m
theorem aUp:∀ t,cH (n52 t)=true\/bX (n52 t)=true:=λ_=>.inl rfl
def a53:Args cxT.ty DZ:=(Args.one (Arg.agg (SArg.cons (LArg.int .i64) (SArg.cons (LArg.int .i64) (SArg.cons (LArg.int .i64) (SArg.cons (LArg.int .i64) (SArg.cons (LArg.int .i64) (SArg.one (LArg.int .i64)))))))))
def n53:Bool->V cxT.ty:=λt=>(.inl (.inl (lv (.bool t))))
def aQN:Bool:=false
abbrev c53 (m:DZ->Option Bool):=fP (cx:=cxT) a53 n53 aQN m
theorem aUo:∀ t,cH (n53 t)=true\/bX (n53 t)=true:=λ_=>.inl rfl
def a54:Args cxT.ty Int:=(Args.one (Arg.leaf (LArg.int .i64)))
def n54:Bool->V cxT.ty:=λt=>(.inl (.inl (lv (.bool t))))
def aQM:Bool:=false
abbrev c54 (m:Int->Option Bool):=fP (cx:=cxT) a54 n54 aQM m
theorem aUn:∀ t,cH (n54 t)=true\/bX (n54 t)=true:=λ_=>.inl rfl
def a55:Args cxT.ty (List Bk):=(Args.one (Arg.leaf (LArg.row 104)))
def n55:(List Bk)->V cxT.ty:=λt=>(.inl (.inl (ls { own:=2,nm:=0,e:=83,o:=true,xs:=t })))
def aQL:(List Bk):=[]
abbrev c55 (m:(List Bk)->Option (List Bk)):=fP (cx:=cxT) a55 n55 aQL m
theorem aUm:∀ t,cH (n55 t)=true\/bX (n55 t)=true:=λ_=>.inl rfl
def a56:Args cxT.ty (List Vp):=(Args.one (Arg.leaf (LArg.row 100)))
def n56:(List Vp)->V cxT.ty:=λt=>(.inl (.inl (ls { own:=2,nm:=0,e:=96,o:=true,xs:=t })))
def aQK:(List Vp):=[]
abbrev c56 (m:(List Vp)->Option (List Vp)):=fP (cx:=cxT) a56 n56 aQK m
theorem aUl:∀ t,cH (n56 t)=true\/bX (n56 t)=true:=λ_=>.inl rfl
def a57:Args cxT.ty CZ:=(Args.one (Arg.agg (SArg.cons (LArg.int .i64) (SArg.cons (LArg.row 83) (SArg.one (LArg.row 96))))))
def n57:Int->V cxT.ty:=λt=>(.inl (.inl (lv (.int .i64 t))))
def aQJ:Int:=(0:Int)
abbrev c57 (m:CZ->Option Int):=fP (cx:=cxT) a57 n57 aQJ m
theorem aUk:∀ t,cH (n57 t)=true\/bX (n57 t)=true:=λ_=>.inl rfl
def a59:Args cxT.ty DZ:=(Args.one (Arg.agg (SArg.cons (LArg.int .i64) (SArg.cons (LArg.int .i64) (SArg.cons (LArg.int .i64) (SArg.cons (LArg.int .i64) (SArg.cons (LArg.int .i64) (SArg.one (LArg.int .i64)))))))))
def n59:Int->V cxT.ty:=λt=>(.inl (.inl (lv (.int .i64 t))))
def aVh:Int:=(0:Int)
abbrev c59 (m:DZ->Option Int):=fP (cx:=cxT) a59 n59 aVh m
def a60:Args cxT.ty ((List Bk)×(List Bk)):=(Args.cons (Arg.leaf (LArg.row 83)) (Args.one (Arg.leaf (LArg.row 83))))
def n60:Bool->V cxT.ty:=λt=>(.inl (.inl (lv (.bool t))))
def aQI:Bool:=false
abbrev c60 (m:((List Bk)×(List Bk))->Option Bool):=fP (cx:=cxT) a60 n60 aQI m
theorem aUj:∀ t,cH (n60 t)=true\/bX (n60 t)=true:=λ_=>.inl rfl
def a61:Args cxT.ty ((List Vp)×(List Vp)):=(Args.cons (Arg.leaf (LArg.row 96)) (Args.one (Arg.leaf (LArg.row 96))))
def n61:Bool->V cxT.ty:=λt=>(.inl (.inl (lv (.bool t))))
def aQH:Bool:=false
abbrev c61 (m:((List Vp)×(List Vp))->Option Bool):=fP (cx:=cxT) a61 n61 aQH m
theorem aUi:∀ t,cH (n61 t)=true\/bX (n61 t)=true:=λ_=>.inl rfl
def a62:Args cxT.ty CZ:=(Args.one (Arg.agg (SArg.cons (LArg.int .i64) (SArg.cons (LArg.row 83) (SArg.one (LArg.row 96))))))
def n62:CZ->V cxT.ty:=λt=>(.inl (.inr [(lv (.int .i64 t.1)),(ls { own:=2,nm:=0,e:=83,o:=true,xs:=t.2.1 }),(ls { own:=2,nm:=0,e:=96,o:=true,xs:=t.2.2 })]))
def aQG:CZ:=((0:Int),[],[])
abbrev c62 (m:CZ->Option CZ):=fP (cx:=cxT) a62 n62 aQG m
theorem aUh:∀ t,cH (n62 t)=true\/bX (n62 t)=true:=λ_=>.inl rfl
def a63:Args cxT.ty ((List Int)×Int):=(Args.cons (Arg.leaf (LArg.own 2)) (Args.one (Arg.leaf (LArg.int .i64))))
def n63:(Int×(List Int))->List (A cxT.ty):=λt=>[(.inl (lv (.int .i64 t.1))),(.inl (ls { own:=2,nm:=0,e:=2,o:=true,xs:=t.2 }))]
def aQF:(Int×(List Int)):=((0:Int),[])
abbrev c63 (m:((List Int)×Int)->Option (Int×(List Int))):WFn cxT:={ nres:=1,n:=1,F:=fnW (cx:=cxT) a63 n63 aQF m }
theorem aUg:∀ t,cH (.inr (.inl (n63 t)):V cxT.ty)=true:=λ_=>rfl
def a64:Args cxT.ty (CZ×Int):=(Args.cons (Arg.agg (SArg.cons (LArg.int .i64) (SArg.cons (LArg.own 83) (SArg.one (LArg.own 96))))) (Args.one (Arg.leaf (LArg.int .i64))))
def n64:(Int×Int×(List Bk)×(List Vp))->List (A cxT.ty):=λt=>[(.inl (lv (.int .i64 t.1))),(.inr [(lv (.int .i64 t.2.1)),(ls { own:=2,nm:=0,e:=83,o:=true,xs:=t.2.2.1 }),(ls { own:=2,nm:=0,e:=96,o:=true,xs:=t.2.2.2 })])]
def aQE:(Int×Int×(List Bk)×(List Vp)):=((0:Int),(0:Int),[],[])
abbrev c64 (m:(CZ×Int)->Option (Int×Int×(List Bk)×(List Vp))):WFn cxT:={ nres:=1,n:=1,F:=fnW (cx:=cxT) a64 n64 aQE m,p:=4 }
theorem aUf:∀ t,cH (.inr (.inl (n64 t)):V cxT.ty)=true:=λ_=>rfl
def a65:Args cxT.ty (CZ×Int):=(Args.cons (Arg.agg (SArg.cons (LArg.int .i64) (SArg.cons (LArg.row 83) (SArg.one (LArg.row 96))))) (Args.one (Arg.leaf (LArg.int .i64))))
def n65:Int->V cxT.ty:=λt=>(.inl (.inl (lv (.int .i64 t))))
def aQD:Int:=(0:Int)
abbrev c65 (m:(CZ×Int)->Option Int):=fP (cx:=cxT) a65 n65 aQD m
theorem aUe:∀ t,cH (n65 t)=true\/bX (n65 t)=true:=λ_=>.inl rfl
def a66:Args cxT.ty ((List DZ)×Int):=(Args.cons (Arg.leaf (LArg.row 64)) (Args.one (Arg.leaf (LArg.int .i64))))
def n66:Int->V cxT.ty:=λt=>(.inl (.inl (lv (.int .i64 t))))
def aQC:Int:=(0:Int)
abbrev c66 (m:((List DZ)×Int)->Option Int):=fP (cx:=cxT) a66 n66 aQC m
theorem aUd:∀ t,cH (n66 t)=true\/bX (n66 t)=true:=λ_=>.inl rfl
def a67:Args cxT.ty (Vp×Int):=(Args.cons (Arg.agg (SArg.cons (LArg.int .i64) (SArg.cons (LArg.int .i64) (SArg.cons (LArg.int .i64) (SArg.one (LArg.row 2)))))) (Args.one (Arg.leaf (LArg.int .i64))))
def n67:Int->V cxT.ty:=λt=>(.inl (.inl (lv (.int .i64 t))))
def aQB:Int:=(0:Int)
abbrev c67 (m:(Vp×Int)->Option Int):=fP (cx:=cxT) a67 n67 aQB m
theorem aUc:∀ t,cH (n67 t)=true\/bX (n67 t)=true:=λ_=>.inl rfl
def a68:Args cxT.ty Int:=(Args.one (Arg.leaf (LArg.int .i64)))
def n68:Bool->V cxT.ty:=λt=>(.inl (.inl (lv (.bool t))))
def aQA:Bool:=false
abbrev c68 (m:Int->Option Bool):=fP (cx:=cxT) a68 n68 aQA m
theorem aUb:∀ t,cH (n68 t)=true\/bX (n68 t)=true:=λ_=>.inl rfl
def a69:Args cxT.ty (Vp×Vp):=(Args.cons (Arg.agg (SArg.cons (LArg.int .i64) (SArg.cons (LArg.int .i64) (SArg.cons (LArg.int .i64) (SArg.one (LArg.row 2)))))) (Args.one (Arg.agg (SArg.cons (LArg.int .i64) (SArg.cons (LArg.int .i64) (SArg.cons (LArg.int .i64) (SArg.one (LArg.row 2))))))))
def n69:Bool->V cxT.ty:=λt=>(.inl (.inl (lv (.bool t))))
def aQz:Bool:=false
abbrev c69 (m:(Vp×Vp)->Option Bool):=fP (cx:=cxT) a69 n69 aQz m
theorem aUa:∀ t,cH (n69 t)=true\/bX (n69 t)=true:=λ_=>.inl rfl
def a70:Args cxT.ty (CZ×Int):=(Args.cons (Arg.leaf (LArg.ptr 34)) (Args.one (Arg.leaf (LArg.int .i64))))
def n70:Int->V cxT.ty:=λt=>(.inl (.inl (lv (.int .i64 t))))
def aQy:Int:=(0:Int)
abbrev c70 (m:(CZ×Int)->Option Int):=fP (cx:=cxT) a70 n70 aQy m
theorem aT9:∀ t,cH (n70 t)=true\/bX (n70 t)=true:=λ_=>.inl rfl
def a71:Args cxT.ty Bk:=(Args.one (Arg.agg (SArg.cons (LArg.int .i64) (SArg.cons (LArg.int .i64) (SArg.cons (LArg.int .i64) (SArg.cons (LArg.int .i64) (SArg.one LArg.bool)))))))
def n71:Bk->V cxT.ty:=λt=>(.inl (.inr [(lv (.int .i64 t.1)),(lv (.int .i64 t.2.1)),(lv (.int .i64 t.2.2.1)),(lv (.int .i64 t.2.2.2.1)),(lv (.bool t.2.2.2.2))]))
def aQx:Bk:=((0:Int),(0:Int),(0:Int),(0:Int),false)
abbrev c71 (m:Bk->Option Bk):=fP (cx:=cxT) a71 n71 aQx m
theorem aT8:∀ t,cH (n71 t)=true\/bX (n71 t)=true:=λ_=>.inl rfl
def a72:Args cxT.ty Vp:=(Args.one (Arg.agg (SArg.cons (LArg.int .i64) (SArg.cons (LArg.int .i64) (SArg.cons (LArg.int .i64) (SArg.one (LArg.row 2)))))))
def n72:Vp->V cxT.ty:=λt=>(.inl (.inr [(lv (.int .i64 t.1)),(lv (.int .i64 t.2.1)),(lv (.int .i64 t.2.2.1)),(ls { own:=2,nm:=0,e:=2,o:=true,xs:=t.2.2.2 })]))
def aQw:Vp:=((0:Int),(0:Int),(0:Int),[])
abbrev c72 (m:Vp->Option Vp):=fP (cx:=cxT) a72 n72 aQw m
theorem aT7:∀ t,cH (n72 t)=true\/bX (n72 t)=true:=λ_=>.inl rfl
def a73:Args cxT.ty Bk:=(Args.one (Arg.agg (SArg.cons (LArg.int .i64) (SArg.cons (LArg.int .i64) (SArg.cons (LArg.int .i64) (SArg.cons (LArg.int .i64) (SArg.one LArg.bool)))))))
def n73:Bool->V cxT.ty:=λt=>(.inl (.inl (lv (.bool t))))
def aQv:Bool:=false
abbrev c73 (m:Bk->Option Bool):=fP (cx:=cxT) a73 n73 aQv m
theorem aT6:∀ t,cH (n73 t)=true\/bX (n73 t)=true:=λ_=>.inl rfl
def a74:Args cxT.ty Vp:=(Args.one (Arg.agg (SArg.cons (LArg.int .i64) (SArg.cons (LArg.int .i64) (SArg.cons (LArg.int .i64) (SArg.one (LArg.row 2)))))))
def n74:Bool->V cxT.ty:=λt=>(.inl (.inl (lv (.bool t))))
def aQu:Bool:=false
abbrev c74 (m:Vp->Option Bool):=fP (cx:=cxT) a74 n74 aQu m
theorem aT5:∀ t,cH (n74 t)=true\/bX (n74 t)=true:=λ_=>.inl rfl
def a75:Args cxT.ty (Vp×Vp):=(Args.cons (Arg.agg (SArg.cons (LArg.int .i64) (SArg.cons (LArg.int .i64) (SArg.cons (LArg.int .i64) (SArg.one (LArg.row 2)))))) (Args.one (Arg.agg (SArg.cons (LArg.int .i64) (SArg.cons (LArg.int .i64) (SArg.cons (LArg.int .i64) (SArg.one (LArg.row 2))))))))
def n75:Int->V cxT.ty:=λt=>(.inl (.inl (lv (.int .i64 t))))
def aQt:Int:=(0:Int)
abbrev c75 (m:(Vp×Vp)->Option Int):=fP (cx:=cxT) a75 n75 aQt m
theorem aT4:∀ t,cH (n75 t)=true\/bX (n75 t)=true:=λ_=>.inl rfl
def a76:Args cxT.ty ((List Int)×(List Bk)):=(Args.cons (Arg.leaf (LArg.row 2)) (Args.one (Arg.leaf (LArg.row 83))))
def n76:Int->V cxT.ty:=λt=>(.inl (.inl (lv (.int .i64 t))))
def aQs:Int:=(0:Int)
abbrev c76 (m:((List Int)×(List Bk))->Option Int):=fP (cx:=cxT) a76 n76 aQs m
theorem aT3:∀ t,cH (n76 t)=true\/bX (n76 t)=true:=λ_=>.inl rfl
def a79:Args cxT.ty (Bk×Bk):=(Args.cons (Arg.agg (SArg.cons (LArg.int .i64) (SArg.cons (LArg.int .i64) (SArg.cons (LArg.int .i64) (SArg.cons (LArg.int .i64) (SArg.one LArg.bool)))))) (Args.one (Arg.agg (SArg.cons (LArg.int .i64) (SArg.cons (LArg.int .i64) (SArg.cons (LArg.int .i64) (SArg.cons (LArg.int .i64) (SArg.one LArg.bool))))))))
def n79:Bool->V cxT.ty:=λt=>(.inl (.inl (lv (.bool t))))
def aQr:Bool:=false
abbrev c79 (m:(Bk×Bk)->Option Bool):=fP (cx:=cxT) a79 n79 aQr m
theorem aT2:∀ t,cH (n79 t)=true\/bX (n79 t)=true:=λ_=>.inl rfl
def a80:Args cxT.ty (Vp×Vp):=(Args.cons (Arg.agg (SArg.cons (LArg.int .i64) (SArg.cons (LArg.int .i64) (SArg.cons (LArg.int .i64) (SArg.one (LArg.row 2)))))) (Args.one (Arg.agg (SArg.cons (LArg.int .i64) (SArg.cons (LArg.int .i64) (SArg.cons (LArg.int .i64) (SArg.one (LArg.row 2))))))))
def n80:Bool->V cxT.ty:=λt=>(.inl (.inl (lv (.bool t))))
def aQq:Bool:=false
abbrev c80 (m:(Vp×Vp)->Option Bool):=fP (cx:=cxT) a80 n80 aQq m
theorem aT1:∀ t,cH (n80 t)=true\/bX (n80 t)=true:=λ_=>.inl rfl
def a81:Args cxT.ty ((List Bk)×Int):=(Args.cons (Arg.leaf (LArg.row 83)) (Args.one (Arg.leaf (LArg.int .i64))))
def n81:Int->V cxT.ty:=λt=>(.inl (.inl (lv (.int .i64 t))))
def aQp:Int:=(0:Int)
abbrev c81 (m:((List Bk)×Int)->Option Int):=fP (cx:=cxT) a81 n81 aQp m
theorem aT0:∀ t,cH (n81 t)=true\/bX (n81 t)=true:=λ_=>.inl rfl
def a82:Args cxT.ty ((List Vp)×Int):=(Args.cons (Arg.leaf (LArg.row 96)) (Args.one (Arg.leaf (LArg.int .i64))))
def n82:Int->V cxT.ty:=λt=>(.inl (.inl (lv (.int .i64 t))))
def aQo:Int:=(0:Int)
abbrev c82 (m:((List Vp)×Int)->Option Int):=fP (cx:=cxT) a82 n82 aQo m
theorem aTZ:∀ t,cH (n82 t)=true\/bX (n82 t)=true:=λ_=>.inl rfl
def a83:Args cxT.ty ((List Int)×Int):=(Args.cons (Arg.leaf (LArg.row 2)) (Args.one (Arg.leaf (LArg.int .i64))))
def n83:Int->V cxT.ty:=λt=>(.inl (.inl (lv (.int .i64 t))))
def aQn:Int:=(0:Int)
abbrev c83 (m:((List Int)×Int)->Option Int):=fP (cx:=cxT) a83 n83 aQn m
theorem aTY:∀ t,cH (n83 t)=true\/bX (n83 t)=true:=λ_=>.inl rfl
def a84:Args cxT.ty (List Int):=(Args.one (Arg.leaf (LArg.row 2)))
def n84:(List Int)->V cxT.ty:=λt=>(.inl (.inl (ls { own:=2,nm:=0,e:=2,o:=true,xs:=t })))
def aQm:(List Int):=[]
abbrev c84 (m:(List Int)->Option (List Int)):=fP (cx:=cxT) a84 n84 aQm m
theorem aTX:∀ t,cH (n84 t)=true\/bX (n84 t)=true:=λ_=>.inl rfl
def a85:Args cxT.ty Int:=(Args.one (Arg.leaf (LArg.int .i64)))
def n85:Bool->V cxT.ty:=λt=>(.inl (.inl (lv (.bool t))))
def aQl:Bool:=false
abbrev c85 (m:Int->Option Bool):=fP (cx:=cxT) a85 n85 aQl m
theorem aTW:∀ t,cH (n85 t)=true\/bX (n85 t)=true:=λ_=>.inl rfl
def a86:Args cxT.ty Int:=(Args.one (Arg.leaf (LArg.int .i64)))
def n86:Bool->V cxT.ty:=λt=>(.inl (.inl (lv (.bool t))))
def aQk:Bool:=false
abbrev c86 (m:Int->Option Bool):=fP (cx:=cxT) a86 n86 aQk m
theorem aTV:∀ t,cH (n86 t)=true\/bX (n86 t)=true:=λ_=>.inl rfl
def a87:Args cxT.ty Int:=(Args.one (Arg.leaf (LArg.int .i64)))
def n87:Bool->V cxT.ty:=λt=>(.inl (.inl (lv (.bool t))))
def aQj:Bool:=false
abbrev c87 (m:Int->Option Bool):=fP (cx:=cxT) a87 n87 aQj m
theorem aTU:∀ t,cH (n87 t)=true\/bX (n87 t)=true:=λ_=>.inl rfl
def a88:Args cxT.ty Int:=(Args.one (Arg.leaf (LArg.int .i64)))
def n88:Bool->V cxT.ty:=λt=>(.inl (.inl (lv (.bool t))))
def aQi:Bool:=false
abbrev c88 (m:Int->Option Bool):=fP (cx:=cxT) a88 n88 aQi m
theorem aTT:∀ t,cH (n88 t)=true\/bX (n88 t)=true:=λ_=>.inl rfl
def a89:Args cxT.ty Int:=(Args.one (Arg.leaf (LArg.int .i64)))
def n89:Bool->V cxT.ty:=λt=>(.inl (.inl (lv (.bool t))))
def aQh:Bool:=false
abbrev c89 (m:Int->Option Bool):=fP (cx:=cxT) a89 n89 aQh m
theorem aTS:∀ t,cH (n89 t)=true\/bX (n89 t)=true:=λ_=>.inl rfl
def a90:Args cxT.ty Int:=(Args.one (Arg.leaf (LArg.int .i64)))
def n90:Bool->V cxT.ty:=λt=>(.inl (.inl (lv (.bool t))))
def aQg:Bool:=false
abbrev c90 (m:Int->Option Bool):=fP (cx:=cxT) a90 n90 aQg m
theorem aTR:∀ t,cH (n90 t)=true\/bX (n90 t)=true:=λ_=>.inl rfl
def a91:Args cxT.ty (List Int):=(Args.one (Arg.leaf (LArg.row 3)))
def n91:Int->V cxT.ty:=λt=>(.inl (.inl (lv (.int .i64 t))))
def aQf:Int:=(0:Int)
abbrev c91 (m:(List Int)->Option Int):=fP (cx:=cxT) a91 n91 aQf m
theorem aTQ:∀ t,cH (n91 t)=true\/bX (n91 t)=true:=λ_=>.inl rfl
def a92:Args cxT.ty (Int×Int):=(Args.cons (Arg.leaf (LArg.int .i64)) (Args.one (Arg.leaf (LArg.int .i64))))
def n92:Int->V cxT.ty:=λt=>(.inl (.inl (lv (.int .i64 t))))
def aQe:Int:=(0:Int)
abbrev c92 (m:(Int×Int)->Option Int):=fP (cx:=cxT) a92 n92 aQe m
theorem aTP:∀ t,cH (n92 t)=true\/bX (n92 t)=true:=λ_=>.inl rfl
def a93:Args cxT.ty ((List Bk)×Int):=(Args.cons (Arg.leaf (LArg.row 83)) (Args.one (Arg.leaf (LArg.int .i64))))
def n93:(Int×Bool)->V cxT.ty:=λt=>(.inr (.inl [(.inl (lv (.int .i64 t.1))),(.inl (lv (.bool t.2)))]))
def aQd:(Int×Bool):=((0:Int),false)
abbrev c93 (m:((List Bk)×Int)->Option (Int×Bool)):=fP (cx:=cxT) a93 n93 aQd m
theorem aTO:∀ t,cH (n93 t)=true\/bX (n93 t)=true:=λ_=>.inl rfl
def aRL:Args cxT.ty Int:=(Args.one (Arg.leaf (LArg.int .i64)))
def aDk:Bool->V cxT.ty:=λt=>(.inl (.inl (lv (.bool t))))
def aJ4:Bool:=false
abbrev aRz (m:Int->Option Bool):=fP (cx:=cxT) aRL aDk aJ4 m
theorem aPJ:∀ t,cH (aDk t)=true\/bX (aDk t)=true:=λ_=>.inl rfl
def aRK:Args cxT.ty ((List Int)×(List Int)):=(Args.cons (Arg.leaf (LArg.row 2)) (Args.one (Arg.leaf (LArg.row 2))))
def xH:Bool->V cxT.ty:=λt=>(.inl (.inl (lv (.bool t))))
def aJ3:Bool:=false
abbrev aIu (m:((List Int)×(List Int))->Option Bool):=fP (cx:=cxT) aRK xH aJ3 m
theorem aPI:∀ t,cH (xH t)=true\/bX (xH t)=true:=λ_=>.inl rfl
def aRJ:Args cxT.ty ((List Int)×Int):=(Args.cons (Arg.leaf (LArg.row 2)) (Args.one (Arg.leaf (LArg.int .i64))))
def aAl:Int->V cxT.ty:=λt=>(.inl (.inl (lv (.int .i64 t))))
def aJ2:Int:=(0:Int)
abbrev aIt (m:((List Int)×Int)->Option Int):=fP (cx:=cxT) aRJ aAl aJ2 m
theorem aPH:∀ t,cH (aAl t)=true\/bX (aAl t)=true:=λ_=>.inl rfl
def aRI:Args cxT.ty Int:=(Args.one (Arg.leaf (LArg.int .i64)))
def aFa:Bool->V cxT.ty:=λt=>(.inl (.inl (lv (.bool t))))
def aJ1:Bool:=false
abbrev aIs (m:Int->Option Bool):=fP (cx:=cxT) aRI aFa aJ1 m
theorem aPG:∀ t,cH (aFa t)=true\/bX (aFa t)=true:=λ_=>.inl rfl
def aRH:Args cxT.ty ((List Bk)×Int×Unit):=(Args.cons (Arg.leaf (LArg.row 83)) (Args.cons (Arg.leaf (LArg.int .i64)) (Args.one (Arg.leaf (LArg.fn 111)))))
def aAk:(Int×Bool)->V cxT.ty:=λt=>(.inr (.inl [(.inl (lv (.int .i64 t.1))),(.inl (lv (.bool t.2)))]))
def aJ0:(Int×Bool):=((0:Int),false)
abbrev aIr (m:((List Bk)×Int×Unit)->Option (Int×Bool)):=fP (cx:=cxT) aRH aAk aJ0 m
theorem aPF:∀ t,cH (aAk t)=true\/bX (aAk t)=true:=λ_=>.inl rfl
def aRG:Args cxT.ty (Bk×Int):=(Args.cons (Arg.agg (SArg.cons (LArg.int .i64) (SArg.cons (LArg.int .i64) (SArg.cons (LArg.int .i64) (SArg.cons (LArg.int .i64) (SArg.one LArg.bool)))))) (Args.one (Arg.leaf (LArg.int .i64))))
def aE9:Int->V cxT.ty:=λt=>(.inl (.inl (lv (.int .i64 t))))
def aJZ:Int:=(0:Int)
abbrev aIq (m:(Bk×Int)->Option Int):=fP (cx:=cxT) aRG aE9 aJZ m
theorem aPE:∀ t,cH (aE9 t)=true\/bX (aE9 t)=true:=λ_=>.inl rfl
end Go.Proofs.Tryz
