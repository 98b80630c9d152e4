/- A part of the proof of FnWraps: L2Base, L2Con. -/
import Derived.Test.YtaegcoihgnobiaaVmJ
import Derived.Test.YtaegcoihgnobiaaProg
set_option linter.unusedSimpArgs false
set_option linter.unusedVariables false
namespace Go.Proofs.Try
open Go Go.VM Go.RowKit
def tyT (e:Nat):Type:=if e=2 then Int else if e=5 then Int else if e=22 then List Int else Unit
def aLx (e:Nat):tyT e:=by unfold tyT;split<;>(try split)<;>(try split)<;>first | exact(0:Int) | exact([]:List Int) | exact()
def cd2:Cd tyT (tyT 2):=aGK .i64
def cd5:Cd tyT (tyT 5):=aGK .u8
def aMv:Cd tyT (tyT 22):=aKs 5
def cdT (e:Nat):Cd tyT (tyT e):=
 if h:e=2 then h.symm▸cd2 else if h:e=5 then h.symm▸cd5 else if h:e=22 then h.symm▸aMv else aH7 (aLx e)
def bH:Cx:=Cx.of cdT
theorem dG:bH.Ok:=Cx.of_ok cdT
theorem zB {e:Nat}(h:(cdT e).dom=true):e=2\/e=5:=by
 by_cases h1:e=2
 ·exact .inl h1
 by_cases h2:e=5
 ·exact .inr h2
 by_cases h3:e=22
 ·subst h3;unfold cdT at h;rw[dif_neg h1,dif_neg h2,dif_pos rfl]at h;exact Bool.noConfusion h
 ·unfold cdT at h;rw[dif_neg h1,dif_neg h2,dif_neg h3]at h;exact Bool.noConfusion h
theorem cS:bH.POk prog:=by
 refine⟨λe he=>?_,λe he hu o x=>?_⟩
 ·rcases zB he with rfl | rfl
  ·exact⟨_,_,rfl,rfl,rfl,by decide,rfl,by decide,rfl⟩
  ·exact⟨_,_,rfl,rfl,rfl,by decide,rfl,by decide,rfl⟩
 ·rcases zB he with rfl | rfl
  ·rw[underlying2]at hu;cases hu
  ·exact⟨x,rfl⟩
end Go.Proofs.Try
namespace Go.Proofs.Try
open Go Go.VM Go.RowKit
def a3:Args bH.ty (List Int):=(Args.one (Arg.leaf (LArg.row 5)))
def n3:Bool->V bH.ty:=λt=>(.inl (.inl (lv (.bool t))))
def dd3:Bool:=false
abbrev c3 (m:(List Int)->Option Bool):=kQ (cx:=bH) a3 n3 dd3 m
theorem hs3:∀ t,eH (n3 t)=true\/dO (n3 t)=true:=λ_=>.inl rfl
def a4:Args bH.ty (Int×Int×Int×Int×Int×(List Int)):=(Args.one (Arg.agg (SArg.cons (LArg.int .i64) (SArg.cons (LArg.int .i64) (SArg.cons (LArg.int .i64) (SArg.cons (LArg.int .i64) (SArg.cons (LArg.int .i64) (SArg.one (LArg.row 5)))))))))
def n4:Bool->V bH.ty:=λt=>(.inl (.inl (lv (.bool t))))
def dd4:Bool:=false
abbrev c4 (m:(Int×Int×Int×Int×Int×(List Int))->Option Bool):=kQ (cx:=bH) a4 n4 dd4 m
theorem hs4:∀ t,eH (n4 t)=true\/dO (n4 t)=true:=λ_=>.inl rfl
def a5:Args bH.ty (Int×Int×Int×Int×Int×(List Int)):=(Args.one (Arg.agg (SArg.cons (LArg.int .i64) (SArg.cons (LArg.int .i64) (SArg.cons (LArg.int .i64) (SArg.cons (LArg.int .i64) (SArg.cons (LArg.int .i64) (SArg.one (LArg.row 5)))))))))
def n5:Bool->V bH.ty:=λt=>(.inl (.inl (lv (.bool t))))
def dd5:Bool:=false
abbrev c5 (m:(Int×Int×Int×Int×Int×(List Int))->Option Bool):=kQ (cx:=bH) a5 n5 dd5 m
theorem hs5:∀ t,eH (n5 t)=true\/dO (n5 t)=true:=λ_=>.inl rfl
def a6:Args bH.ty (List Int):=(Args.one (Arg.leaf (LArg.row 5)))
def n6:Bool->V bH.ty:=λt=>(.inl (.inl (lv (.bool t))))
def a7:Args bH.ty (Int×Int×(List Int)):=(Args.cons (Arg.leaf (LArg.int .i64)) (Args.cons (Arg.leaf (LArg.int .i64)) (Args.one (Arg.leaf (LArg.row 5)))))
def n7:Bool->V bH.ty:=λt=>(.inl (.inl (lv (.bool t))))
def dd7:Bool:=false
abbrev c7 (m:(Int×Int×(List Int))->Option Bool):=kQ (cx:=bH) a7 n7 dd7 m
theorem hs7:∀ t,eH (n7 t)=true\/dO (n7 t)=true:=λ_=>.inl rfl
def a8:Args bH.ty (List Int):=(Args.one (Arg.leaf (LArg.row 5)))
def n8:Bool->V bH.ty:=λt=>(.inl (.inl (lv (.bool t))))
def a9:Args bH.ty ((Int×Int×Int×Int×Int×(List Int))×(Int×Int×Int×Int×Int×(List Int))):=(Args.cons (Arg.agg (SArg.cons (LArg.int .i64) (SArg.cons (LArg.int .i64) (SArg.cons (LArg.int .i64) (SArg.cons (LArg.int .i64) (SArg.cons (LArg.int .i64) (SArg.one (LArg.row 5)))))))) (Args.one (Arg.agg (SArg.cons (LArg.int .i64) (SArg.cons (LArg.int .i64) (SArg.cons (LArg.int .i64) (SArg.cons (LArg.int .i64) (SArg.cons (LArg.int .i64) (SArg.one (LArg.row 5))))))))))
def n9:Bool->V bH.ty:=λt=>(.inl (.inl (lv (.bool t))))
def a10:Args bH.ty (List Int):=(Args.one (Arg.leaf (LArg.row 5)))
def n10:Bool->V bH.ty:=λt=>(.inl (.inl (lv (.bool t))))
def aKq:Bool:=false
abbrev c10 (m:(List Int)->Option Bool):=kQ (cx:=bH) a10 n10 aKq m
theorem aLW:∀ t,eH (n10 t)=true\/dO (n10 t)=true:=λ_=>.inl rfl
def a11:Args bH.ty (List Int):=(Args.one (Arg.leaf (LArg.row 5)))
def n11:(List Int)->V bH.ty:=λt=>(.inl (.inl (ls { own:=2,nm:=0,e:=5,o:=true,xs:=t })))
def aMu:(List Int):=[]
abbrev c11 (m:(List Int)->Option (List Int)):=kQ (cx:=bH) a11 n11 aMu m
def a12:Args bH.ty (List Int):=(Args.one (Arg.leaf (LArg.row 5)))
def n12:(Int×Int×Int×(List Int))->V bH.ty:=λt=>(.inl (.inr [(lv (.int .i64 t.1)),(lv (.int .i64 t.2.1)),(lv (.int .i64 t.2.2.1)),(ls { own:=2,nm:=0,e:=5,o:=true,xs:=t.2.2.2 })]))
def aMt:(Int×Int×Int×(List Int)):=((0:Int),(0:Int),(0:Int),[])
abbrev c12 (m:(List Int)->Option (Int×Int×Int×(List Int))):=kQ (cx:=bH) a12 n12 aMt m
def a13:Args bH.ty (List Int):=(Args.one (Arg.leaf (LArg.row 5)))
def n13:(Int×Int×Int×(List Int))->V bH.ty:=λt=>(.inl (.inr [(lv (.int .i64 t.1)),(lv (.int .i64 t.2.1)),(lv (.int .i64 t.2.2.1)),(ls { own:=2,nm:=0,e:=5,o:=true,xs:=t.2.2.2 })]))
def aKp:(Int×Int×Int×(List Int)):=((0:Int),(0:Int),(0:Int),[])
abbrev c13 (m:(List Int)->Option (Int×Int×Int×(List Int))):=kQ (cx:=bH) a13 n13 aKp m
theorem aLV:∀ t,eH (n13 t)=true\/dO (n13 t)=true:=λ_=>.inl rfl
def a14:Args bH.ty (Int×Int×(List Int)):=(Args.cons (Arg.leaf (LArg.int .i64)) (Args.cons (Arg.leaf (LArg.int .i64)) (Args.one (Arg.leaf (LArg.row 5)))))
def n14:(Int×(List Int))->V bH.ty:=λt=>(.inl (.inr [(lv (.int .i64 t.1)),(ls { own:=2,nm:=0,e:=5,o:=true,xs:=t.2 })]))
def aKo:(Int×(List Int)):=((0:Int),[])
abbrev c14 (m:(Int×Int×(List Int))->Option (Int×(List Int))):=kQ (cx:=bH) a14 n14 aKo m
theorem aLU:∀ t,eH (n14 t)=true\/dO (n14 t)=true:=λ_=>.inl rfl
def a15:Args bH.ty (List Int):=(Args.one (Arg.leaf (LArg.row 5)))
def n15:(Int×Int×(List Int))->V bH.ty:=λt=>(.inr (.inl [(.inl (lv (.int .i64 t.1))),(.inl (lv (.int .i64 t.2.1))),(.inl (ls { own:=2,nm:=0,e:=5,o:=true,xs:=t.2.2 }))]))
def aKn:(Int×Int×(List Int)):=((0:Int),(0:Int),[])
abbrev c15 (m:(List Int)->Option (Int×Int×(List Int))):=kQ (cx:=bH) a15 n15 aKn m
theorem aLT:∀ t,eH (n15 t)=true\/dO (n15 t)=true:=λ_=>.inl rfl
def a16:Args bH.ty (Int×Int×(List Int)):=(Args.cons (Arg.leaf (LArg.int .i64)) (Args.cons (Arg.leaf (LArg.int .i64)) (Args.one (Arg.leaf (LArg.row 5)))))
def n16:(Int×(List Int))->V bH.ty:=λt=>(.inl (.inr [(lv (.int .i64 t.1)),(ls { own:=2,nm:=0,e:=5,o:=true,xs:=t.2 })]))
def aKm:(Int×(List Int)):=((0:Int),[])
abbrev c16 (m:(Int×Int×(List Int))->Option (Int×(List Int))):=kQ (cx:=bH) a16 n16 aKm m
theorem aLS:∀ t,eH (n16 t)=true\/dO (n16 t)=true:=λ_=>.inl rfl
def a17:Args bH.ty ((Int×Int×Int×Int×Int×(List Int))×Int):=(Args.cons (Arg.agg (SArg.cons (LArg.int .i64) (SArg.cons (LArg.int .i64) (SArg.cons (LArg.int .i64) (SArg.cons (LArg.int .i64) (SArg.cons (LArg.int .i64) (SArg.one (LArg.row 5)))))))) (Args.one (Arg.leaf (LArg.int .i64))))
def n17:Int->V bH.ty:=λt=>(.inl (.inl (lv (.int .i64 t))))
def aMs:Int:=(0:Int)
abbrev c17 (m:((Int×Int×Int×Int×Int×(List Int))×Int)->Option Int):=kQ (cx:=bH) a17 n17 aMs m
def a18:Args bH.ty (Int×Int×Int×Int×Int×(List Int)):=(Args.one (Arg.agg (SArg.cons (LArg.int .i64) (SArg.cons (LArg.int .i64) (SArg.cons (LArg.int .i64) (SArg.cons (LArg.int .i64) (SArg.cons (LArg.int .i64) (SArg.one (LArg.row 5)))))))))
def n18:Int->V bH.ty:=λt=>(.inl (.inl (lv (.int .i64 t))))
def aMr:Int:=(0:Int)
abbrev c18 (m:(Int×Int×Int×Int×Int×(List Int))->Option Int):=kQ (cx:=bH) a18 n18 aMr m
def a19:Args bH.ty (Int×Int×Int×Int×Int×(List Int)):=(Args.one (Arg.agg (SArg.cons (LArg.int .i64) (SArg.cons (LArg.int .i64) (SArg.cons (LArg.int .i64) (SArg.cons (LArg.int .i64) (SArg.cons (LArg.int .i64) (SArg.one (LArg.row 5)))))))))
def n19:(Int×Int×Int×Int×Int×(List Int))->V bH.ty:=λt=>(.inl (.inr [(lv (.int .i64 t.1)),(lv (.int .i64 t.2.1)),(lv (.int .i64 t.2.2.1)),(lv (.int .i64 t.2.2.2.1)),(lv (.int .i64 t.2.2.2.2.1)),(ls { own:=2,nm:=0,e:=5,o:=true,xs:=t.2.2.2.2.2 })]))
def aMq:(Int×Int×Int×Int×Int×(List Int)):=((0:Int),(0:Int),(0:Int),(0:Int),(0:Int),[])
abbrev c19 (m:(Int×Int×Int×Int×Int×(List Int))->Option (Int×Int×Int×Int×Int×(List Int))):=kQ (cx:=bH) a19 n19 aMq m
def a20:Args bH.ty (Int×Int×Int×Int×Int×(List Int)):=(Args.one (Arg.agg (SArg.cons (LArg.int .i64) (SArg.cons (LArg.int .i64) (SArg.cons (LArg.int .i64) (SArg.cons (LArg.int .i64) (SArg.cons (LArg.int .i64) (SArg.one (LArg.row 5)))))))))
def n20:Int->V bH.ty:=λt=>(.inl (.inl (lv (.int .i64 t))))
def aMp:Int:=(0:Int)
abbrev c20 (m:(Int×Int×Int×Int×Int×(List Int))->Option Int):=kQ (cx:=bH) a20 n20 aMp m
def a21:Args bH.ty ((Int×Int×Int×Int×Int×(List Int))×(Int×Int×Int×Int×Int×(List Int))):=(Args.cons (Arg.agg (SArg.cons (LArg.int .i64) (SArg.cons (LArg.int .i64) (SArg.cons (LArg.int .i64) (SArg.cons (LArg.int .i64) (SArg.cons (LArg.int .i64) (SArg.one (LArg.row 5)))))))) (Args.one (Arg.agg (SArg.cons (LArg.int .i64) (SArg.cons (LArg.int .i64) (SArg.cons (LArg.int .i64) (SArg.cons (LArg.int .i64) (SArg.cons (LArg.int .i64) (SArg.one (LArg.row 5))))))))))
def n21:Bool->V bH.ty:=λt=>(.inl (.inl (lv (.bool t))))
def aMo:Bool:=false
abbrev c21 (m:((Int×Int×Int×Int×Int×(List Int))×(Int×Int×Int×Int×Int×(List Int)))->Option Bool):=kQ (cx:=bH) a21 n21 aMo m
def a22:Args bH.ty (Int×Int×Int×Int×Int×(List Int)):=(Args.one (Arg.agg (SArg.cons (LArg.int .i64) (SArg.cons (LArg.int .i64) (SArg.cons (LArg.int .i64) (SArg.cons (LArg.int .i64) (SArg.cons (LArg.int .i64) (SArg.one (LArg.row 5)))))))))
def n22:(Int×(List Int))->V bH.ty:=λt=>(.inl (.inr [(lv (.int .i64 t.1)),(ls { own:=2,nm:=0,e:=5,o:=true,xs:=t.2 })]))
def aMn:(Int×(List Int)):=((0:Int),[])
abbrev c22 (m:(Int×Int×Int×Int×Int×(List Int))->Option (Int×(List Int))):=kQ (cx:=bH) a22 n22 aMn m
def a23:Args bH.ty (Int×Int×Int×Int×Int×(List Int)):=(Args.one (Arg.agg (SArg.cons (LArg.int .i64) (SArg.cons (LArg.int .i64) (SArg.cons (LArg.int .i64) (SArg.cons (LArg.int .i64) (SArg.cons (LArg.int .i64) (SArg.one (LArg.row 5)))))))))
def n23:(Int×(List Int))->V bH.ty:=λt=>(.inl (.inr [(lv (.int .i64 t.1)),(ls { own:=2,nm:=0,e:=5,o:=true,xs:=t.2 })]))
def aMm:(Int×(List Int)):=((0:Int),[])
abbrev c23 (m:(Int×Int×Int×Int×Int×(List Int))->Option (Int×(List Int))):=kQ (cx:=bH) a23 n23 aMm m
def a24:Args bH.ty ((Int×(List Int))×(Int×(List Int))):=(Args.cons (Arg.agg (SArg.cons (LArg.int .i64) (SArg.one (LArg.row 5)))) (Args.one (Arg.agg (SArg.cons (LArg.int .i64) (SArg.one (LArg.row 5))))))
def n24:Bool->V bH.ty:=λt=>(.inl (.inl (lv (.bool t))))
def aMl:Bool:=false
abbrev c24 (m:((Int×(List Int))×(Int×(List Int)))->Option Bool):=kQ (cx:=bH) a24 n24 aMl m
def a25:Args bH.ty ((Int×Int×Int×Int×Int×(List Int))×Int):=(Args.cons (Arg.agg (SArg.cons (LArg.int .i64) (SArg.cons (LArg.int .i64) (SArg.cons (LArg.int .i64) (SArg.cons (LArg.int .i64) (SArg.cons (LArg.int .i64) (SArg.one (LArg.own 5)))))))) (Args.one (Arg.leaf (LArg.int .i64))))
def n25:(Int×Int×Int×Int×Int×Int×(List Int))->List (A bH.ty):=λt=>[(.inl (lv (.int .i64 t.1))),(.inr [(lv (.int .i64 t.2.1)),(lv (.int .i64 t.2.2.1)),(lv (.int .i64 t.2.2.2.1)),(lv (.int .i64 t.2.2.2.2.1)),(lv (.int .i64 t.2.2.2.2.2.1)),(ls { own:=2,nm:=0,e:=5,o:=true,xs:=t.2.2.2.2.2.2 })])]
def aMk:(Int×Int×Int×Int×Int×Int×(List Int)):=((0:Int),(0:Int),(0:Int),(0:Int),(0:Int),(0:Int),[])
abbrev c25 (m:((Int×Int×Int×Int×Int×(List Int))×Int)->Option (Int×Int×Int×Int×Int×Int×(List Int))):WFn bH:={ nres:=1,n:=1,F:=fnW (cx:=bH) a25 n25 aMk m }
def a26:Args bH.ty ((Int×(List Int))×Int):=(Args.cons (Arg.agg (SArg.cons (LArg.int .i64) (SArg.one (LArg.own 5)))) (Args.one (Arg.leaf (LArg.int .i64))))
def n26:(Int×Int×(List Int))->List (A bH.ty):=λt=>[(.inl (lv (.int .i64 t.1))),(.inr [(lv (.int .i64 t.2.1)),(ls { own:=2,nm:=0,e:=5,o:=true,xs:=t.2.2 })])]
def aMj:(Int×Int×(List Int)):=((0:Int),(0:Int),[])
abbrev c26 (m:((Int×(List Int))×Int)->Option (Int×Int×(List Int))):WFn bH:={ nres:=1,n:=1,F:=fnW (cx:=bH) a26 n26 aMj m }
def a27:Args bH.ty ((Int×(List Int))×Int):=(Args.cons (Arg.agg (SArg.cons (LArg.int .i64) (SArg.one (LArg.row 5)))) (Args.one (Arg.leaf (LArg.int .i64))))
def n27:Int->V bH.ty:=λt=>(.inl (.inl (lv (.int .i64 t))))
def aMi:Int:=(0:Int)
abbrev c27 (m:((Int×(List Int))×Int)->Option Int):=kQ (cx:=bH) a27 n27 aMi m
def a29:Args bH.ty (List Int):=(Args.one (Arg.leaf (LArg.row 5)))
def n29:(List Int)->V bH.ty:=λt=>(.inl (.inl (ls { own:=2,nm:=0,e:=5,o:=true,xs:=t })))
def aMh:(List Int):=[]
abbrev c29 (m:(List Int)->Option (List Int)):=kQ (cx:=bH) a29 n29 aMh m
def a32:Args bH.ty ((List Int)×(List Int)):=(Args.cons (Arg.leaf (LArg.row 5)) (Args.one (Arg.leaf (LArg.row 5))))
def n32:Bool->V bH.ty:=λt=>(.inl (.inl (lv (.bool t))))
def aMg:Bool:=false
abbrev c32 (m:((List Int)×(List Int))->Option Bool):=kQ (cx:=bH) a32 n32 aMg m
def a33:Args bH.ty ((List Int)×Int):=(Args.cons (Arg.leaf (LArg.own 5)) (Args.one (Arg.leaf (LArg.int .i64))))
def n33:(Int×(List Int))->List (A bH.ty):=λt=>[(.inl (lv (.int .i64 t.1))),(.inl (ls { own:=2,nm:=0,e:=5,o:=true,xs:=t.2 }))]
def aMf:(Int×(List Int)):=((0:Int),[])
abbrev c33 (m:((List Int)×Int)->Option (Int×(List Int))):WFn bH:={ nres:=1,n:=1,F:=fnW (cx:=bH) a33 n33 aMf m }
def a39:Args bH.ty ((Int×Int×Int×Int×Int×(List Int))×(Int×Int×Int×Int×Int×(List Int))):=(Args.cons (Arg.agg (SArg.cons (LArg.int .i64) (SArg.cons (LArg.int .i64) (SArg.cons (LArg.int .i64) (SArg.cons (LArg.int .i64) (SArg.cons (LArg.int .i64) (SArg.one (LArg.row 5)))))))) (Args.one (Arg.agg (SArg.cons (LArg.int .i64) (SArg.cons (LArg.int .i64) (SArg.cons (LArg.int .i64) (SArg.cons (LArg.int .i64) (SArg.cons (LArg.int .i64) (SArg.one (LArg.row 5))))))))))
def n39:Bool->V bH.ty:=λt=>(.inl (.inl (lv (.bool t))))
def aMe:Bool:=false
abbrev c39 (m:((Int×Int×Int×Int×Int×(List Int))×(Int×Int×Int×Int×Int×(List Int)))->Option Bool):=kQ (cx:=bH) a39 n39 aMe m
def a40:Args bH.ty ((Int×Int×Int×Int×Int×(List Int))×(Int×Int×Int×Int×Int×(List Int))):=(Args.cons (Arg.agg (SArg.cons (LArg.int .i64) (SArg.cons (LArg.int .i64) (SArg.cons (LArg.int .i64) (SArg.cons (LArg.int .i64) (SArg.cons (LArg.int .i64) (SArg.one (LArg.row 5)))))))) (Args.one (Arg.agg (SArg.cons (LArg.int .i64) (SArg.cons (LArg.int .i64) (SArg.cons (LArg.int .i64) (SArg.cons (LArg.int .i64) (SArg.cons (LArg.int .i64) (SArg.one (LArg.row 5))))))))))
def n40:Bool->V bH.ty:=λt=>(.inl (.inl (lv (.bool t))))
def aMd:Bool:=false
abbrev c40 (m:((Int×Int×Int×Int×Int×(List Int))×(Int×Int×Int×Int×Int×(List Int)))->Option Bool):=kQ (cx:=bH) a40 n40 aMd m
def a41:Args bH.ty (List Int):=(Args.one (Arg.leaf (LArg.row 5)))
def n41:((List Int)×Int)->List (A bH.ty):=λt=>[(.inr [(ls (ro 5 t.1)),(lv (.int .i64 t.2))])]
def aKl:((List Int)×Int):=([],(0:Int))
abbrev c41 (m:(List Int)->Option ((List Int)×Int)):WFn bH:={ nres:=1,n:=0,F:=fnW (cx:=bH) a41 n41 aKl m,p:=2 }
def a43:Args bH.ty (Int×Int×(List Int)):=(Args.cons (Arg.leaf (LArg.int .i64)) (Args.cons (Arg.leaf (LArg.int .i64)) (Args.one (Arg.leaf (LArg.row 5)))))
def n43:(List Int)->V bH.ty:=λt=>(.inl (.inl (ls { own:=2,nm:=0,e:=5,o:=true,xs:=t })))
def aH5:(List Int):=[]
abbrev c43 (m:(Int×Int×(List Int))->Option (List Int)):=kQ (cx:=bH) a43 n43 aH5 m
theorem aLR:∀ t,eH (n43 t)=true\/dO (n43 t)=true:=λ_=>.inl rfl
def a44:Args bH.ty ((List Int)×Int):=(Args.one (Arg.agg (SArg.cons (LArg.row 5) (SArg.one (LArg.int .i64)))))
def n44:(Int×(List Int)×Int)->List (A bH.ty):=λt=>[(.inl (lv (.int .i64 t.1))),(.inr [(ls (ro 5 t.2.1)),(lv (.int .i64 t.2.2))])]
def aF1:(Int×(List Int)×Int):=((0:Int),[],(0:Int))
abbrev c44 (m:((List Int)×Int)->Option (Int×(List Int)×Int)):WFn bH:={ nres:=1,n:=0,F:=fnW (cx:=bH) a44 n44 aF1 m,p:=1 }
def a45:Args bH.ty ((List Int)×Int):=(Args.one (Arg.agg (SArg.cons (LArg.row 5) (SArg.one (LArg.int .i64)))))
def n45:((List Int)×(List Int)×Int)->List (A bH.ty):=λt=>[(.inl (ls { own:=2,nm:=0,e:=5,o:=true,xs:=t.1 })),(.inr [(ls (ro 5 t.2.1)),(lv (.int .i64 t.2.2))])]
def aKk:((List Int)×(List Int)×Int):=([],[],(0:Int))
abbrev c45 (m:((List Int)×Int)->Option ((List Int)×(List Int)×Int)):WFn bH:={ nres:=1,n:=0,F:=fnW (cx:=bH) a45 n45 aKk m,p:=1 }
def a48:Args bH.ty (List Int):=(Args.one (Arg.leaf (LArg.row 5)))
def n48:(Bool×Int×Int×Int×Int×(List Int))->List (A bH.ty):=λt=>[(.inl (lv (.bool t.1))),(.inl (lv (.iface 85 (.agg #[.int .i64 t.2.1])))),(.inr [(lv (.int .i64 t.2.2.1)),(lv (.int .i64 t.2.2.2.1)),(lv (.int .i64 t.2.2.2.2.1)),(ls { own:=2,nm:=0,e:=5,o:=true,xs:=t.2.2.2.2.2 })])]
def aDN:(Bool×Int×Int×Int×Int×(List Int)):=(false,(0:Int),(0:Int),(0:Int),(0:Int),[])
abbrev c48 (m:(List Int)->Option (Bool×Int×Int×Int×Int×(List Int))):WFn bH:={ nres:=1,n:=0,F:=fnW (cx:=bH) a48 n48 aDN m,p:=3 }
def a49:Args bH.ty (Int×Int×Int):=(Args.cons (Arg.leaf (LArg.int .i64)) (Args.cons (Arg.leaf (LArg.int .i64)) (Args.one (Arg.leaf (LArg.int .i64)))))
def n49:Bool->V bH.ty:=λt=>(.inl (.inl (lv (.bool t))))
def aKj:Bool:=false
abbrev c49 (m:(Int×Int×Int)->Option Bool):=kQ (cx:=bH) a49 n49 aKj m
theorem aLQ:∀ t,eH (n49 t)=true\/dO (n49 t)=true:=λ_=>.inl rfl
def a50:Args bH.ty ((List Int)×Int×Int):=(Args.cons (Arg.leaf (LArg.row 5)) (Args.cons (Arg.leaf (LArg.int .i64)) (Args.one (Arg.leaf (LArg.int .i64)))))
def n50:Int->V bH.ty:=λt=>(.inl (.inl (lv (.int .i64 t))))
def aKi:Int:=(0:Int)
abbrev c50 (m:((List Int)×Int×Int)->Option Int):=kQ (cx:=bH) a50 n50 aKi m
theorem aLP:∀ t,eH (n50 t)=true\/dO (n50 t)=true:=λ_=>.inl rfl
def a51:Args bH.ty Int:=(Args.one (Arg.leaf (LArg.int .i64)))
def n51:Bool->V bH.ty:=λt=>(.inl (.inl (lv (.bool t))))
def aKh:Bool:=false
abbrev c51 (m:Int->Option Bool):=kQ (cx:=bH) a51 n51 aKh m
theorem aLO:∀ t,eH (n51 t)=true\/dO (n51 t)=true:=λ_=>.inl rfl
def a52:Args bH.ty (Int×Int×Int×Int):=(Args.cons (Arg.leaf (LArg.int .i64)) (Args.cons (Arg.leaf (LArg.int .i64)) (Args.cons (Arg.leaf (LArg.int .i64)) (Args.one (Arg.leaf (LArg.int .i64))))))
def n52:(Int×Int×Int×Int×Int×Int×Int×Int×Int×Int×Int×Int×Int×Int×Int×Int×Int×Int×Int×Int)->V bH.ty:=λt=>(.inl (.inr [(lv (.int .u8 t.1)),(lv (.int .u8 t.2.1)),(lv (.int .u8 t.2.2.1)),(lv (.int .u8 t.2.2.2.1)),(lv (.int .u8 t.2.2.2.2.1)),(lv (.int .u8 t.2.2.2.2.2.1)),(lv (.int .u8 t.2.2.2.2.2.2.1)),(lv (.int .u8 t.2.2.2.2.2.2.2.1)),(lv (.int .u8 t.2.2.2.2.2.2.2.2.1)),(lv (.int .u8 t.2.2.2.2.2.2.2.2.2.1)),(lv (.int .u8 t.2.2.2.2.2.2.2.2.2.2.1)),(lv (.int .u8 t.2.2.2.2.2.2.2.2.2.2.2.1)),(lv (.int .u8 t.2.2.2.2.2.2.2.2.2.2.2.2.1)),(lv (.int .u8 t.2.2.2.2.2.2.2.2.2.2.2.2.2.1)),(lv (.int .u8 t.2.2.2.2.2.2.2.2.2.2.2.2.2.2.1)),(lv (.int .u8 t.2.2.2.2.2.2.2.2.2.2.2.2.2.2.2.1)),(lv (.int .u8 t.2.2.2.2.2.2.2.2.2.2.2.2.2.2.2.2.1)),(lv (.int .u8 t.2.2.2.2.2.2.2.2.2.2.2.2.2.2.2.2.2.1)),(lv (.int .u8 t.2.2.2.2.2.2.2.2.2.2.2.2.2.2.2.2.2.2.1)),(lv (.int .u8 t.2.2.2.2.2.2.2.2.2.2.2.2.2.2.2.2.2.2.2))]))
def aKg:(Int×Int×Int×Int×Int×Int×Int×Int×Int×Int×Int×Int×Int×Int×Int×Int×Int×Int×Int×Int):=((0:Int),(0:Int),(0:Int),(0:Int),(0:Int),(0:Int),(0:Int),(0:Int),(0:Int),(0:Int),(0:Int),(0:Int),(0:Int),(0:Int),(0:Int),(0:Int),(0:Int),(0:Int),(0:Int),(0:Int))
abbrev c52 (m:(Int×Int×Int×Int)->Option (Int×Int×Int×Int×Int×Int×Int×Int×Int×Int×Int×Int×Int×Int×Int×Int×Int×Int×Int×Int)):=kQ (cx:=bH) a52 n52 aKg m
theorem aLN:∀ t,eH (n52 t)=true\/dO (n52 t)=true:=λ_=>.inl rfl
def a53:Args bH.ty Unit:=Args.nil
def n53:(Int×Int×Int×Int)->V bH.ty:=λt=>(.inl (.inr [(lv (.int .u8 t.1)),(lv (.int .u8 t.2.1)),(lv (.int .u8 t.2.2.1)),(lv (.int .u8 t.2.2.2))]))
def aKf:(Int×Int×Int×Int):=((0:Int),(0:Int),(0:Int),(0:Int))
abbrev c53 (m:Unit->Option (Int×Int×Int×Int)):=kQ (cx:=bH) a53 n53 aKf m
theorem aLM:∀ t,eH (n53 t)=true\/dO (n53 t)=true:=λ_=>.inl rfl
def a54:Args bH.ty (List (List Int)):=(Args.one (Arg.leaf (LArg.row 22)))
def n54:(List Int)->V bH.ty:=λt=>(.inl (.inl (ls { own:=2,nm:=0,e:=5,o:=true,xs:=t })))
def aKe:(List Int):=[]
abbrev c54 (m:(List (List Int))->Option (List Int)):=kQ (cx:=bH) a54 n54 aKe m
theorem aLL:∀ t,eH (n54 t)=true\/dO (n54 t)=true:=λ_=>.inl rfl
def a55:Args bH.ty (((List Int)×Int)×Int):=(Args.cons (Arg.agg (SArg.cons (LArg.row 5) (SArg.one (LArg.int .i64)))) (Args.one (Arg.leaf (LArg.int .i64))))
def n55:(Bool×(List Int)×Int)->List (A bH.ty):=λt=>[(.inl (lv (.bool t.1))),(.inr [(ls (ro 5 t.2.1)),(lv (.int .i64 t.2.2))])]
def aH4:(Bool×(List Int)×Int):=(false,[],(0:Int))
abbrev c55 (m:(((List Int)×Int)×Int)->Option (Bool×(List Int)×Int)):WFn bH:={ nres:=1,n:=0,F:=fnW (cx:=bH) a55 n55 aH4 m,p:=1 }
def a56:Args bH.ty (((List Int)×Int)×Int):=(Args.cons (Arg.agg (SArg.cons (LArg.row 5) (SArg.one (LArg.int .i64)))) (Args.one (Arg.leaf (LArg.int .i64))))
def n56:(Int×(List Int)×Int)->List (A bH.ty):=λt=>[(.inl (lv (.int .i64 t.1))),(.inr [(ls (ro 5 t.2.1)),(lv (.int .i64 t.2.2))])]
def aH3:(Int×(List Int)×Int):=((0:Int),[],(0:Int))
abbrev xK (m:(((List Int)×Int)×Int)->Option (Int×(List Int)×Int)):WFn bH:={ nres:=1,n:=0,F:=fnW (cx:=bH) a56 n56 aH3 m,p:=1 }
def a57:Args bH.ty (((List Int)×Int)×(List Int)):=(Args.cons (Arg.agg (SArg.cons (LArg.row 5) (SArg.one (LArg.int .i64)))) (Args.one (Arg.leaf (LArg.row 2))))
def n57:(Int×(List Int)×Int)->List (A bH.ty):=λt=>[(.inl (lv (.int .i64 t.1))),(.inr [(ls (ro 5 t.2.1)),(lv (.int .i64 t.2.2))])]
def aH2:(Int×(List Int)×Int):=((0:Int),[],(0:Int))
abbrev c57 (m:(((List Int)×Int)×(List Int))->Option (Int×(List Int)×Int)):WFn bH:={ nres:=1,n:=0,F:=fnW (cx:=bH) a57 n57 aH2 m,p:=1 }
def a58:Args bH.ty Int:=(Args.one (Arg.leaf (LArg.int .i64)))
def n58:Bool->V bH.ty:=λt=>(.inl (.inl (lv (.bool t))))
def aKd:Bool:=false
abbrev c58 (m:Int->Option Bool):=kQ (cx:=bH) a58 n58 aKd m
theorem aLK:∀ t,eH (n58 t)=true\/dO (n58 t)=true:=λ_=>.inl rfl
def a63:Args bH.ty (Int×Int×Int×Int×Int×(List Int)):=(Args.one (Arg.agg (SArg.cons (LArg.int .i64) (SArg.cons (LArg.int .i64) (SArg.cons (LArg.int .i64) (SArg.cons (LArg.int .i64) (SArg.cons (LArg.int .i64) (SArg.one (LArg.row 5)))))))))
def n63:(List Int)->V bH.ty:=λt=>(.inl (.inl (ls { own:=2,nm:=0,e:=5,o:=true,xs:=t })))
def aH1:(List Int):=[]
abbrev c63 (m:(Int×Int×Int×Int×Int×(List Int))->Option (List Int)):=kQ (cx:=bH) a63 n63 aH1 m
theorem aLJ:∀ t,eH (n63 t)=true\/dO (n63 t)=true:=λ_=>.inl rfl
def a64:Args bH.ty (Int×Int):=(Args.cons (Arg.leaf (LArg.int .u64)) (Args.one (Arg.leaf (LArg.int .i64))))
def n64:(List Int)->V bH.ty:=λt=>(.inl (.inl (ls { own:=2,nm:=0,e:=5,o:=true,xs:=t })))
def aKc:(List Int):=[]
abbrev c64 (m:(Int×Int)->Option (List Int)):=kQ (cx:=bH) a64 n64 aKc m
theorem aLI:∀ t,eH (n64 t)=true\/dO (n64 t)=true:=λ_=>.inl rfl
def a70:Args bH.ty ((List Int)×(List Int)):=(Args.cons (Arg.leaf (LArg.row 5)) (Args.one (Arg.leaf (LArg.row 5))))
def n70:Bool->V bH.ty:=λt=>(.inl (.inl (lv (.bool t))))
def aKb:Bool:=false
abbrev c70 (m:((List Int)×(List Int))->Option Bool):=kQ (cx:=bH) a70 n70 aKb m
theorem aLH:∀ t,eH (n70 t)=true\/dO (n70 t)=true:=λ_=>.inl rfl
def a71:Args bH.ty (Int×Int×Int×Int):=(Args.cons (Arg.leaf (LArg.int .i64)) (Args.cons (Arg.leaf (LArg.int .i64)) (Args.cons (Arg.leaf (LArg.int .i64)) (Args.one (Arg.leaf (LArg.int .i64))))))
def n71:(List Int)->V bH.ty:=λt=>(.inl (.inl (ls { own:=2,nm:=0,e:=5,o:=true,xs:=t })))
def aKa:(List Int):=[]
abbrev c71 (m:(Int×Int×Int×Int)->Option (List Int)):=kQ (cx:=bH) a71 n71 aKa m
theorem aLG:∀ t,eH (n71 t)=true\/dO (n71 t)=true:=λ_=>.inl rfl
def a72:Args bH.ty ((List Int)×Int):=(Args.one (Arg.agg (SArg.cons (LArg.row 5) (SArg.one (LArg.int .i64)))))
def n72:(Int×Int×Int×Int×Int×(List Int)×(List Int)×Int)->List (A bH.ty):=λt=>[(.inr [(lv (.int .i64 t.1)),(lv (.int .i64 t.2.1)),(lv (.int .i64 t.2.2.1)),(lv (.int .i64 t.2.2.2.1)),(lv (.int .i64 t.2.2.2.2.1)),(ls { own:=2,nm:=0,e:=5,o:=true,xs:=t.2.2.2.2.2.1 })]),(.inr [(ls (ro 5 t.2.2.2.2.2.2.1)),(lv (.int .i64 t.2.2.2.2.2.2.2))])]
def aH0:(Int×Int×Int×Int×Int×(List Int)×(List Int)×Int):=((0:Int),(0:Int),(0:Int),(0:Int),(0:Int),[],[],(0:Int))
abbrev c72 (m:((List Int)×Int)->Option (Int×Int×Int×Int×Int×(List Int)×(List Int)×Int)):WFn bH:={ nres:=1,n:=0,F:=fnW (cx:=bH) a72 n72 aH0 m,p:=1 }
def a73:Args bH.ty (List Int):=(Args.one (Arg.leaf (LArg.row 5)))
def n73:Int->V bH.ty:=λt=>(.inl (.inl (lv (.int .i64 t))))
def aHZ:Int:=(0:Int)
abbrev c73 (m:(List Int)->Option Int):=kQ (cx:=bH) a73 n73 aHZ m
theorem aLF:∀ t,eH (n73 t)=true\/dO (n73 t)=true:=λ_=>.inl rfl
def a74:Args bH.ty ((List Int)×Int×Int):=(Args.cons (Arg.leaf (LArg.row 5)) (Args.cons (Arg.leaf (LArg.int .i64)) (Args.one (Arg.leaf (LArg.int .i64)))))
def n74:(Bool×Int×Int×Int×Int×Int×Int×Int×Int×Int×Int×Int×Int×Int×Int×Int×Int×Int×Int×Int×Int×Int)->List (A bH.ty):=λt=>[(.inl (lv (.bool t.1))),(.inl (lv (.iface 85 (.agg #[.int .i64 t.2.1])))),(.inr [(lv (.int .u8 t.2.2.1)),(lv (.int .u8 t.2.2.2.1)),(lv (.int .u8 t.2.2.2.2.1)),(lv (.int .u8 t.2.2.2.2.2.1)),(lv (.int .u8 t.2.2.2.2.2.2.1)),(lv (.int .u8 t.2.2.2.2.2.2.2.1)),(lv (.int .u8 t.2.2.2.2.2.2.2.2.1)),(lv (.int .u8 t.2.2.2.2.2.2.2.2.2.1)),(lv (.int .u8 t.2.2.2.2.2.2.2.2.2.2.1)),(lv (.int .u8 t.2.2.2.2.2.2.2.2.2.2.2.1)),(lv (.int .u8 t.2.2.2.2.2.2.2.2.2.2.2.2.1)),(lv (.int .u8 t.2.2.2.2.2.2.2.2.2.2.2.2.2.1)),(lv (.int .u8 t.2.2.2.2.2.2.2.2.2.2.2.2.2.2.1)),(lv (.int .u8 t.2.2.2.2.2.2.2.2.2.2.2.2.2.2.2.1)),(lv (.int .u8 t.2.2.2.2.2.2.2.2.2.2.2.2.2.2.2.2.1)),(lv (.int .u8 t.2.2.2.2.2.2.2.2.2.2.2.2.2.2.2.2.2.1)),(lv (.int .u8 t.2.2.2.2.2.2.2.2.2.2.2.2.2.2.2.2.2.2.1)),(lv (.int .u8 t.2.2.2.2.2.2.2.2.2.2.2.2.2.2.2.2.2.2.2.1)),(lv (.int .u8 t.2.2.2.2.2.2.2.2.2.2.2.2.2.2.2.2.2.2.2.2.1)),(lv (.int .u8 t.2.2.2.2.2.2.2.2.2.2.2.2.2.2.2.2.2.2.2.2.2))])]
def aF0:(Bool×Int×Int×Int×Int×Int×Int×Int×Int×Int×Int×Int×Int×Int×Int×Int×Int×Int×Int×Int×Int×Int):=(false,(0:Int),(0:Int),(0:Int),(0:Int),(0:Int),(0:Int),(0:Int),(0:Int),(0:Int),(0:Int),(0:Int),(0:Int),(0:Int),(0:Int),(0:Int),(0:Int),(0:Int),(0:Int),(0:Int),(0:Int),(0:Int))
abbrev c74 (m:((List Int)×Int×Int)->Option (Bool×Int×Int×Int×Int×Int×Int×Int×Int×Int×Int×Int×Int×Int×Int×Int×Int×Int×Int×Int×Int×Int)):WFn bH:={ nres:=1,n:=0,F:=fnW (cx:=bH) a74 n74 aF0 m,p:=3 }
def a75:Args bH.ty ((List Int)×Int×Int):=(Args.cons (Arg.leaf (LArg.row 5)) (Args.cons (Arg.leaf (LArg.int .i64)) (Args.one (Arg.leaf (LArg.int .i64)))))
def n75:(Int×Int)->V bH.ty:=λt=>(.inl (.inr [(lv (.int .i64 t.1)),(lv (.int .i64 t.2))]))
def aJ9:(Int×Int):=((0:Int),(0:Int))
abbrev c75 (m:((List Int)×Int×Int)->Option (Int×Int)):=kQ (cx:=bH) a75 n75 aJ9 m
theorem aLE:∀ t,eH (n75 t)=true\/dO (n75 t)=true:=λ_=>.inl rfl
def a76:Args bH.ty (Bool×Int):=(Args.cons (Arg.leaf LArg.bool) (Args.one (Arg.leaf (LArg.int .i64))))
def n76:(Bool×Int)->List (A bH.ty):=λt=>[(.inl (lv (.bool t.1))),(.inl (lv (.iface 85 (.agg #[.int .i64 t.2]))))]
def aMc:(Bool×Int):=(false,(0:Int))
abbrev c76 (m:(Bool×Int)->Option (Bool×Int)):WFn bH:={ nres:=0,n:=0,F:=fnW (cx:=bH) a76 n76 aMc m,p:=3 }
def a77:Args bH.ty ((List Int)×(List Int)):=(Args.cons (Arg.leaf (LArg.row 5)) (Args.one (Arg.leaf (LArg.row 5))))
def n77:Bool->V bH.ty:=λt=>(.inl (.inl (lv (.bool t))))
def aJ8:Bool:=false
abbrev c77 (m:((List Int)×(List Int))->Option Bool):=kQ (cx:=bH) a77 n77 aJ8 m
theorem aLD:∀ t,eH (n77 t)=true\/dO (n77 t)=true:=λ_=>.inl rfl
def a78:Args bH.ty (Int×Int×Int×Int×Int×Int×Int×Int×Int×Int×Int×Int×Int×Int×Int×Int×Int×Int×Int×Int):=(Args.one (Arg.agg (SArg.cons (LArg.int .u8) (SArg.cons (LArg.int .u8) (SArg.cons (LArg.int .u8) (SArg.cons (LArg.int .u8) (SArg.cons (LArg.int .u8) (SArg.cons (LArg.int .u8) (SArg.cons (LArg.int .u8) (SArg.cons (LArg.int .u8) (SArg.cons (LArg.int .u8) (SArg.cons (LArg.int .u8) (SArg.cons (LArg.int .u8) (SArg.cons (LArg.int .u8) (SArg.cons (LArg.int .u8) (SArg.cons (LArg.int .u8) (SArg.cons (LArg.int .u8) (SArg.cons (LArg.int .u8) (SArg.cons (LArg.int .u8) (SArg.cons (LArg.int .u8) (SArg.cons (LArg.int .u8) (SArg.one (LArg.int .u8)))))))))))))))))))))))
def n78:(Int×Int×Int×Int×Int×Int×Int×Int×Int×Int×Int×Int×Int×Int×Int×Int×Int×Int×Int×Int)->V bH.ty:=λt=>(.inl (.inr [(lv (.int .u8 t.1)),(lv (.int .u8 t.2.1)),(lv (.int .u8 t.2.2.1)),(lv (.int .u8 t.2.2.2.1)),(lv (.int .u8 t.2.2.2.2.1)),(lv (.int .u8 t.2.2.2.2.2.1)),(lv (.int .u8 t.2.2.2.2.2.2.1)),(lv (.int .u8 t.2.2.2.2.2.2.2.1)),(lv (.int .u8 t.2.2.2.2.2.2.2.2.1)),(lv (.int .u8 t.2.2.2.2.2.2.2.2.2.1)),(lv (.int .u8 t.2.2.2.2.2.2.2.2.2.2.1)),(lv (.int .u8 t.2.2.2.2.2.2.2.2.2.2.2.1)),(lv (.int .u8 t.2.2.2.2.2.2.2.2.2.2.2.2.1)),(lv (.int .u8 t.2.2.2.2.2.2.2.2.2.2.2.2.2.1)),(lv (.int .u8 t.2.2.2.2.2.2.2.2.2.2.2.2.2.2.1)),(lv (.int .u8 t.2.2.2.2.2.2.2.2.2.2.2.2.2.2.2.1)),(lv (.int .u8 t.2.2.2.2.2.2.2.2.2.2.2.2.2.2.2.2.1)),(lv (.int .u8 t.2.2.2.2.2.2.2.2.2.2.2.2.2.2.2.2.2.1)),(lv (.int .u8 t.2.2.2.2.2.2.2.2.2.2.2.2.2.2.2.2.2.2.1)),(lv (.int .u8 t.2.2.2.2.2.2.2.2.2.2.2.2.2.2.2.2.2.2.2))]))
def aJ7:(Int×Int×Int×Int×Int×Int×Int×Int×Int×Int×Int×Int×Int×Int×Int×Int×Int×Int×Int×Int):=((0:Int),(0:Int),(0:Int),(0:Int),(0:Int),(0:Int),(0:Int),(0:Int),(0:Int),(0:Int),(0:Int),(0:Int),(0:Int),(0:Int),(0:Int),(0:Int),(0:Int),(0:Int),(0:Int),(0:Int))
abbrev c78 (m:(Int×Int×Int×Int×Int×Int×Int×Int×Int×Int×Int×Int×Int×Int×Int×Int×Int×Int×Int×Int)->Option (Int×Int×Int×Int×Int×Int×Int×Int×Int×Int×Int×Int×Int×Int×Int×Int×Int×Int×Int×Int)):=kQ (cx:=bH) a78 n78 aJ7 m
theorem aLC:∀ t,eH (n78 t)=true\/dO (n78 t)=true:=λ_=>.inl rfl
def a79:Args bH.ty (Int×Int):=(Args.cons (Arg.leaf (LArg.int .i64)) (Args.one (Arg.leaf (LArg.int .i64))))
def n79:(List Int)->V bH.ty:=λt=>(.inl (.inl (ls { own:=2,nm:=0,e:=5,o:=true,xs:=t })))
def aJ6:(List Int):=[]
abbrev c79 (m:(Int×Int)->Option (List Int)):=kQ (cx:=bH) a79 n79 aJ6 m
theorem aLB:∀ t,eH (n79 t)=true\/dO (n79 t)=true:=λ_=>.inl rfl
def a81:Args bH.ty (((List Int)×Int)×Int):=(Args.cons (Arg.agg (SArg.cons (LArg.row 5) (SArg.one (LArg.int .i64)))) (Args.one (Arg.leaf (LArg.int .i64))))
def n81:((List Int)×(List Int)×Int)->List (A bH.ty):=λt=>[(.inl (ls { own:=2,nm:=0,e:=5,o:=true,xs:=t.1 })),(.inr [(ls (ro 5 t.2.1)),(lv (.int .i64 t.2.2))])]
def aJ5:((List Int)×(List Int)×Int):=([],[],(0:Int))
abbrev c81 (m:(((List Int)×Int)×Int)->Option ((List Int)×(List Int)×Int)):WFn bH:={ nres:=1,n:=0,F:=fnW (cx:=bH) a81 n81 aJ5 m,p:=1 }
def a82:Args bH.ty Int:=(Args.one (Arg.leaf (LArg.int .i64)))
def n82:Bool->V bH.ty:=λt=>(.inl (.inl (lv (.bool t))))
def aJ4:Bool:=false
abbrev c82 (m:Int->Option Bool):=kQ (cx:=bH) a82 n82 aJ4 m
theorem aLA:∀ t,eH (n82 t)=true\/dO (n82 t)=true:=λ_=>.inl rfl
def a83:Args bH.ty (List Int):=(Args.one (Arg.leaf (LArg.row 5)))
def n83:Int->V bH.ty:=λt=>(.inl (.inl (lv (.int .i64 t))))
def aJ3:Int:=(0:Int)
abbrev c83 (m:(List Int)->Option Int):=kQ (cx:=bH) a83 n83 aJ3 m
theorem aLz:∀ t,eH (n83 t)=true\/dO (n83 t)=true:=λ_=>.inl rfl
def a84:Args bH.ty ((List Int)×Int):=(Args.cons (Arg.leaf (LArg.row 5)) (Args.one (Arg.leaf (LArg.int .i64))))
def n84:Int->V bH.ty:=λt=>(.inl (.inl (lv (.int .u64 t))))
def aJ2:Int:=(0:Int)
abbrev c84 (m:((List Int)×Int)->Option Int):=kQ (cx:=bH) a84 n84 aJ2 m
theorem aLy:∀ t,eH (n84 t)=true\/dO (n84 t)=true:=λ_=>.inl rfl
end Go.Proofs.Try
