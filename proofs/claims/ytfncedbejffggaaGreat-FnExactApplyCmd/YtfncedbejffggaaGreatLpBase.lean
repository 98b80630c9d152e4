/- A part of the proof of FnExactApplyCmd: LpBase, LpCon. -/
import Derived.Test.YtfncedbejffggaaGreatVmJ
import Derived.Test.YtfncedbejffggaaGreatProg
set_option linter.unusedSimpArgs false
set_option linter.unusedVariables false
namespace Go.Proofs.Tryz
open Go Go.VM Go.RowKit
abbrev Bk:=Int×Int×Int×Int×Bool
abbrev Vp:=Int×Int×Int×List Int
abbrev CZ:Type:=Int×List Bk×List Vp
abbrev DZ:Type:=Int×Int×Int×Int×Int×Int
abbrev LB:Type:=List Bk
abbrev LV:Type:=List Vp
abbrev CR:Type:=Int×Int×LB×LV
abbrev LI:Type:=List Int
abbrev ZB:Bk:=(0,0,0,0,false)
abbrev ZV:Vp:=(0,0,0,[])
abbrev HF(a b:Int):Int:=Int.fdiv (Go.IntKind.wrap .u64 (Go.IntKind.wrap .i64 (a+b))) (2 ^ (min (Int.toNat 1) (Go.IntKind.bits .u64)))
def tI (e:Nat):Type:=if e=2 then Int else if e=3 then Int else if e=5 then Int else if e=75 then Int×Int×Int×Int×Bool else if e=68 then Int×Int×Int×Int×Bool else if e=65 then Int×Int×Int×List (Int)else if e=76 then Int×Int×Int×List (Int)else if e=25 then Int×LB×List (Int×Int×Int×List (Int))else if e=32 then Int×LB×List (Int×Int×Int×List (Int))else Unit
def aVD (e:Nat):tI e:=
 if h2:e=2 then h2.symm▸(((0:Int):Int):tI 2)else if h3:e=3 then h3.symm▸(((0:Int):Int):tI 3)else if h5:e=5 then h5.symm▸(((0:Int):Int):tI 5)else if h75:e=75 then h75.symm▸((((0:Int),(0:Int),(0:Int),(0:Int),false):Int×Int×Int×Int×Bool):tI 75)else if h68:e=68 then h68.symm▸((((0:Int),(0:Int),(0:Int),(0:Int),false):Int×Int×Int×Int×Bool):tI 68)else if h65:e=65 then h65.symm▸((((0:Int),(0:Int),(0:Int),[]):Int×Int×Int×List (Int)):tI 65)else if h76:e=76 then h76.symm▸((((0:Int),(0:Int),(0:Int),[]):Int×Int×Int×List (Int)):tI 76)else if h25:e=25 then h25.symm▸((((0:Int),[],[]):Int×LB×List (Int×Int×Int×List (Int))):tI 25)else if h32:e=32 then h32.symm▸((((0:Int),[],[]):Int×LB×List (Int×Int×Int×List (Int))):tI 32)else(by unfold tI;simp only[*,if_false];exact())
def cd2:Cd tI (tI 2):=lG .i64
def cd3:Cd tI (tI 3):=lG .i64
def cd5:Cd tI (tI 5):=lG .u8
def aXg:Cd tI (tI 75):=jJ (lG .i64) (jJ (lG .i64) (jJ (lG .i64) (jJ (lG .i64) aIU)))
def aXh:Cd tI (tI 68):=jJ (lG .i64) (jJ (lG .i64) (jJ (lG .i64) (jJ (lG .i64) aIU)))
def aXi:Cd tI (tI 65):=jJ (lG .i64) (jJ (lG .i64) (jJ (lG .i64) (aB8 2)))
def aXf:Cd tI (tI 76):=jJ (lG .i64) (jJ (lG .i64) (jJ (lG .i64) (aB8 2)))
def aXk:Cd tI (tI 25):=jJ (lG .i64) (jJ (aB8 75) (aB8 65))
def aXj:Cd tI (tI 32):=jJ (lG .i64) (jJ (aB8 68) (aB8 76))
def cdT (e:Nat):Cd tI (tI e):=
 if h:e=2 then h.symm▸cd2 else if h:e=3 then h.symm▸cd3 else if h:e=5 then h.symm▸cd5 else if h:e=75 then h.symm▸aXg else if h:e=68 then h.symm▸aXh else if h:e=65 then h.symm▸aXi else if h:e=76 then h.symm▸aXf else if h:e=25 then h.symm▸aXk else if h:e=32 then h.symm▸aXj else aNU (aVD e)
def cxT:Cx:=Cx.of cdT
theorem bZ:cxT.Ok:=Cx.of_ok cdT
set_option maxRecDepth 100000 in
theorem aB5 {e:Nat}(h:(cdT e).dom=true):e=2\/e=3\/e=5\/e=75\/e=68:=by
 by_cases h0:e=2
 ·exact .inl h0
 by_cases h1:e=3
 ·exact .inr (.inl h1)
 by_cases h2:e=5
 ·exact .inr (.inr (.inl h2))
 by_cases h3:e=75
 ·exact .inr (.inr (.inr (.inl h3)))
 by_cases h4:e=68
 ·exact .inr (.inr (.inr (.inr (h4))))
 by_cases h5:e=65
 ·subst h5;exact absurd h (by intro hh;cases (show false=true from hh))
 by_cases h6:e=76
 ·subst h6;exact absurd h (by intro hh;cases (show false=true from hh))
 by_cases h7:e=25
 ·subst h7;exact absurd h (by intro hh;cases (show false=true from hh))
 by_cases h8:e=32
 ·subst h8;exact absurd h (by intro hh;cases (show false=true from hh))
 ·unfold cdT at h;rw[dif_neg h0,dif_neg h1,dif_neg h2,dif_neg h3,dif_neg h4,dif_neg h5,dif_neg h6,dif_neg h7,dif_neg h8]at h;exact Bool.noConfusion h
set_option maxRecDepth 100000 in
theorem bV:cxT.POk prog:=by
 refine⟨λe he=>?_,λe he hu o x=>?_⟩
 ·rcases aB5 he with rfl | rfl | rfl | rfl | rfl <;>
  exact⟨_,_,rfl,rfl,rfl,by decide,rfl,by decide,rfl⟩
 ·rcases aB5 he with rfl | rfl | rfl | rfl | rfl
  ·rw[show prog.underlying 2=_ from rfl]at hu;cases hu
  ·rw[show prog.underlying 3=_ from rfl]at hu;cases hu
  ·exact⟨x,rfl⟩
  ·rw[show prog.underlying 75=_ from rfl]at hu;cases hu
  ·rw[show prog.underlying 68=_ from rfl]at hu;cases hu
abbrev ag1:Arg cxT.ty DZ:=(Arg.agg (SArg.cons (LArg.int .i64) (SArg.cons (LArg.int .i64) (SArg.cons (LArg.int .i64) (SArg.cons (LArg.int .i64) (SArg.cons (LArg.int .i64) (SArg.one (LArg.int .i64))))))))
abbrev ag2:Arg cxT.ty Vp:=(Arg.agg (SArg.cons (LArg.int .i64) (SArg.cons (LArg.int .i64) (SArg.cons (LArg.int .i64) (SArg.one (LArg.row 2))))))
abbrev ag3:Arg cxT.ty Bk:=(Arg.agg (SArg.cons (LArg.int .i64) (SArg.cons (LArg.int .i64) (SArg.cons (LArg.int .i64) (SArg.cons (LArg.int .i64) (SArg.one LArg.bool))))))
abbrev HS {α:Type}(n:α->V cxT.ty):Prop:=∀ t,jE (n t)=true\/vZ (n t)=true
def a3:Args cxT.ty (CZ×DZ):=(Args.cons (Arg.agg (SArg.cons (LArg.int .i64) (SArg.cons (LArg.row 75) (SArg.one (LArg.row 65))))) (Args.one ag1))
def n3:Bool->V cxT.ty:=λt=>(.inl (.inl (lv (.bool t))))
def dd3:Bool:=false
abbrev c3 (m:(CZ×DZ)->Option Bool):=iT (cx:=cxT) a3 n3 dd3 m
theorem hs3:HS n3:=λ_=>.inl rfl
def a4:Args cxT.ty (CZ×Int):=(Args.cons (Arg.agg (SArg.cons (LArg.int .i64) (SArg.cons (LArg.row 75) (SArg.one (LArg.row 65))))) (Args.one (Arg.leaf (LArg.int .i64))))
def n4:Int->V cxT.ty:=λt=>(.inl (.inl (lv (.int .i64 t))))
def dd4:Int:=(0:Int)
abbrev c4 (m:(CZ×Int)->Option Int):=iT (cx:=cxT) a4 n4 dd4 m
theorem hs4:HS n4:=λ_=>.inl rfl
def a5:Args cxT.ty (CZ×DZ):=(Args.cons (Arg.agg (SArg.cons (LArg.int .i64) (SArg.cons (LArg.row 68) (SArg.one (LArg.row 76))))) (Args.one ag1))
abbrev nn2:CR->V cxT.ty:=λt=>(.inl (.inr [(lv (.int .i64 t.1)),(lv (.int .i64 t.2.1)),(ls { own:=2,nm:=0,e:=68,o:=true,xs:=t.2.2.1 }),(ls { own:=2,nm:=0,e:=76,o:=true,xs:=t.2.2.2 })]))
def n5:CR->V cxT.ty:=nn2
def dd5:CR:=((0:Int),(0:Int),[],[])
abbrev c5 (m:(CZ×DZ)->Option CR):=iT (cx:=cxT) a5 n5 dd5 m
theorem hs5:HS n5:=λ_=>.inl rfl
def a6:Args cxT.ty CZ:=(Args.one (Arg.agg (SArg.cons (LArg.int .i64) (SArg.cons (LArg.row 75) (SArg.one (LArg.row 65))))))
abbrev nn3:CZ->V cxT.ty:=λt=>(.inl (.inr [(lv (.int .i64 t.1)),(ls { own:=2,nm:=0,e:=68,o:=true,xs:=t.2.1 }),(ls { own:=2,nm:=0,e:=76,o:=true,xs:=t.2.2 })]))
def n6:CZ->V cxT.ty:=nn3
def dd6:CZ:=((0:Int),[],[])
abbrev c6 (m:CZ->Option CZ):=iT (cx:=cxT) a6 n6 dd6 m
theorem hs6:HS n6:=λ_=>.inl rfl
def a7:Args cxT.ty DZ:=(Args.one ag1)
def n7:DZ->V cxT.ty:=λt=>(.inl (.inr [(lv (.int .i64 t.1)),(lv (.int .i64 t.2.1)),(lv (.int .i64 t.2.2.1)),(lv (.int .i64 t.2.2.2.1)),(lv (.int .i64 t.2.2.2.2.1)),(lv (.int .i64 t.2.2.2.2.2))]))
def dd7:DZ:=((0:Int),(0:Int),(0:Int),(0:Int),(0:Int),(0:Int))
abbrev c7 (m:DZ->Option DZ):=iT (cx:=cxT) a7 n7 dd7 m
theorem hs7:HS n7:=λ_=>.inl rfl
def a8:Args cxT.ty (CZ×DZ):=(Args.cons (Arg.agg (SArg.cons (LArg.int .i64) (SArg.cons (LArg.row 68) (SArg.one (LArg.row 76))))) (Args.one ag1))
def n8:CR->V cxT.ty:=nn2
def dd8:CR:=((0:Int),(0:Int),[],[])
abbrev c8 (m:(CZ×DZ)->Option CR):=iT (cx:=cxT) a8 n8 dd8 m
def a9:Args cxT.ty (CR×CR):=(Args.cons (Arg.agg (SArg.cons (LArg.int .i64) (SArg.cons (LArg.int .i64) (SArg.cons (LArg.row 68) (SArg.one (LArg.row 76)))))) (Args.one (Arg.agg (SArg.cons (LArg.int .i64) (SArg.cons (LArg.int .i64) (SArg.cons (LArg.row 68) (SArg.one (LArg.row 76))))))))
def n9:Bool->V cxT.ty:=λt=>(.inl (.inl (lv (.bool t))))
def dd9:Bool:=false
abbrev c9 (m:(CR×CR)->Option Bool):=iT (cx:=cxT) a9 n9 dd9 m
theorem hs9:HS n9:=λ_=>.inl rfl
def a10:Args cxT.ty (CZ×CZ):=(Args.cons (Arg.agg (SArg.cons (LArg.int .i64) (SArg.cons (LArg.row 68) (SArg.one (LArg.row 76))))) (Args.one (Arg.agg (SArg.cons (LArg.int .i64) (SArg.cons (LArg.row 68) (SArg.one (LArg.row 76)))))))
def n10:Bool->V cxT.ty:=λt=>(.inl (.inl (lv (.bool t))))
def aTo:Bool:=false
abbrev c10 (m:(CZ×CZ)->Option Bool):=iT (cx:=cxT) a10 n10 aTo m
theorem aWU:HS n10:=λ_=>.inl rfl
def a11:Args cxT.ty (CZ×Int):=(Args.cons (Arg.agg (SArg.cons (LArg.int .i64) (SArg.cons (LArg.own 68) (SArg.one (LArg.own 76))))) (Args.one (Arg.leaf (LArg.int .i64))))
abbrev nn1:CR->List (A cxT.ty):=λt=>[(.inl (lv (.int .i64 t.1))),(.inr [(lv (.int .i64 t.2.1)),(ls { own:=2,nm:=0,e:=68,o:=true,xs:=t.2.2.1 }),(ls { own:=2,nm:=0,e:=76,o:=true,xs:=t.2.2.2 })])]
def n11:CR->List (A cxT.ty):=nn1
def aTn:CR:=((0:Int),(0:Int),[],[])
abbrev c11 (m:(CZ×Int)->Option CR):WFn cxT:={ nres:=1,n:=1,F:=fnW (cx:=cxT) a11 n11 aTn m,p:=4 }
theorem aWT:∀ t,jE (.inr (.inl (n11 t)):V cxT.ty)=true:=λ_=>rfl
def a12:Args cxT.ty (CR×Int):=(Args.cons (Arg.agg (SArg.cons (LArg.int .i64) (SArg.cons (LArg.int .i64) (SArg.cons (LArg.own 68) (SArg.one (LArg.own 76)))))) (Args.one (Arg.leaf (LArg.int .i64))))
def n12:(Int×Int×Int×LB×LV)->List (A cxT.ty):=λt=>[(.inl (lv (.int .i64 t.1))),(.inr [(lv (.int .i64 t.2.1)),(lv (.int .i64 t.2.2.1)),(ls { own:=2,nm:=0,e:=68,o:=true,xs:=t.2.2.2.1 }),(ls { own:=2,nm:=0,e:=76,o:=true,xs:=t.2.2.2.2 })])]
def aTm:(Int×Int×Int×LB×LV):=((0:Int),(0:Int),(0:Int),[],[])
abbrev c12 (m:(CR×Int)->Option (Int×Int×Int×LB×LV)):WFn cxT:={ nres:=1,n:=1,F:=fnW (cx:=cxT) a12 n12 aTm m,p:=4 }
theorem aWS:∀ t,jE (.inr (.inl (n12 t)):V cxT.ty)=true:=λ_=>rfl
def a13:Args cxT.ty (CR×Int):=(Args.cons (Arg.agg (SArg.cons (LArg.int .i64) (SArg.cons (LArg.int .i64) (SArg.cons (LArg.row 68) (SArg.one (LArg.row 76)))))) (Args.one (Arg.leaf (LArg.int .i64))))
def n13:Int->V cxT.ty:=λt=>(.inl (.inl (lv (.int .i64 t))))
def aTl:Int:=(0:Int)
abbrev c13 (m:(CR×Int)->Option Int):=iT (cx:=cxT) a13 n13 aTl m
theorem aWR:HS n13:=λ_=>.inl rfl
def a14:Args cxT.ty (LB×Int):=(Args.cons (Arg.leaf (LArg.row 75)) (Args.one (Arg.leaf (LArg.int .i64))))
def n14:Int->V cxT.ty:=λt=>(.inl (.inl (lv (.int .i64 t))))
def aTk:Int:=(0:Int)
abbrev c14 (m:(LB×Int)->Option Int):=iT (cx:=cxT) a14 n14 aTk m
theorem aWQ:HS n14:=λ_=>.inl rfl
def a15:Args cxT.ty (LV×Int):=(Args.cons (Arg.leaf (LArg.row 65)) (Args.one (Arg.leaf (LArg.int .i64))))
def n15:Int->V cxT.ty:=λt=>(.inl (.inl (lv (.int .i64 t))))
def aTj:Int:=(0:Int)
abbrev c15 (m:(LV×Int)->Option Int):=iT (cx:=cxT) a15 n15 aTj m
theorem aWP:HS n15:=λ_=>.inl rfl
def a16:Args cxT.ty CZ:=(Args.one (Arg.leaf (LArg.ptr 32)))
def n16:Int->V cxT.ty:=λt=>(.inl (.inl (lv (.int .i64 t))))
def aTi:Int:=(0:Int)
abbrev c16 (m:CZ->Option Int):=iT (cx:=cxT) a16 n16 aTi m
theorem aWO:HS n16:=λ_=>.inl rfl
def a17:Args cxT.ty DZ:=(Args.one ag1)
def n17:Int->V cxT.ty:=λt=>(.inl (.inl (lv (.int .i64 t))))
def aXe:Int:=(0:Int)
abbrev c17 (m:DZ->Option Int):=iT (cx:=cxT) a17 n17 aXe m
def a18:Args cxT.ty (CZ×DZ):=(Args.cons (Arg.agg (SArg.cons (LArg.int .i64) (SArg.cons (LArg.row 68) (SArg.one (LArg.row 76))))) (Args.one ag1))
def n18:CR->V cxT.ty:=nn2
def aTh:CR:=((0:Int),(0:Int),[],[])
abbrev c18 (m:(CZ×DZ)->Option CR):=iT (cx:=cxT) a18 n18 aTh m
theorem aWN:HS n18:=λ_=>.inl rfl
def a19:Args cxT.ty LB:=(Args.one (Arg.leaf (LArg.row 75)))
def n19:LB->V cxT.ty:=λt=>(.inl (.inl (ls { own:=2,nm:=0,e:=68,o:=true,xs:=t })))
def aTg:LB:=[]
abbrev c19 (m:LB->Option LB):=iT (cx:=cxT) a19 n19 aTg m
theorem aWM:HS n19:=λ_=>.inl rfl
def a20:Args cxT.ty LV:=(Args.one (Arg.leaf (LArg.row 65)))
def n20:LV->V cxT.ty:=λt=>(.inl (.inl (ls { own:=2,nm:=0,e:=76,o:=true,xs:=t })))
def aTf:LV:=[]
abbrev c20 (m:LV->Option LV):=iT (cx:=cxT) a20 n20 aTf m
theorem aWL:HS n20:=λ_=>.inl rfl
def a21:Args cxT.ty CZ:=(Args.one (Arg.agg (SArg.cons (LArg.int .i64) (SArg.cons (LArg.row 68) (SArg.one (LArg.row 76))))))
def n21:Int->V cxT.ty:=λt=>(.inl (.inl (lv (.int .i64 t))))
def aNQ:Int:=(0:Int)
abbrev c21 (m:CZ->Option Int):=iT (cx:=cxT) a21 n21 aNQ m
theorem aWK:HS n21:=λ_=>.inl rfl
def a22:Args cxT.ty DZ:=(Args.one ag1)
def n22:Int->V cxT.ty:=λt=>(.inl (.inl (lv (.int .i64 t))))
def aXd:Int:=(0:Int)
abbrev c22 (m:DZ->Option Int):=iT (cx:=cxT) a22 n22 aXd m
def a23:Args cxT.ty CZ:=(Args.one (Arg.agg (SArg.cons (LArg.int .i64) (SArg.cons (LArg.row 68) (SArg.one (LArg.row 76))))))
def n23:CZ->V cxT.ty:=nn3
def aNP:CZ:=((0:Int),[],[])
abbrev c23 (m:CZ->Option CZ):=iT (cx:=cxT) a23 n23 aNP m
theorem aWJ:HS n23:=λ_=>.inl rfl
def a25:Args cxT.ty (LB×LB):=(Args.cons (Arg.leaf (LArg.row 68)) (Args.one (Arg.leaf (LArg.row 68))))
def n25:Bool->V cxT.ty:=λt=>(.inl (.inl (lv (.bool t))))
def aTe:Bool:=false
abbrev c25 (m:(LB×LB)->Option Bool):=iT (cx:=cxT) a25 n25 aTe m
theorem aWI:HS n25:=λ_=>.inl rfl
def a26:Args cxT.ty (LV×LV):=(Args.cons (Arg.leaf (LArg.row 76)) (Args.one (Arg.leaf (LArg.row 76))))
def n26:Bool->V cxT.ty:=λt=>(.inl (.inl (lv (.bool t))))
def aTd:Bool:=false
abbrev c26 (m:(LV×LV)->Option Bool):=iT (cx:=cxT) a26 n26 aTd m
theorem aWH:HS n26:=λ_=>.inl rfl
def a27:Args cxT.ty (LB×Int):=(Args.cons (Arg.leaf (LArg.own 68)) (Args.one (Arg.leaf (LArg.int .i64))))
def n27:(Int×LB)->List (A cxT.ty):=λt=>[(.inl (lv (.int .i64 t.1))),(.inl (ls { own:=2,nm:=0,e:=68,o:=true,xs:=t.2 }))]
def aTc:(Int×LB):=((0:Int),[])
abbrev c27 (m:(LB×Int)->Option (Int×LB)):WFn cxT:={ nres:=1,n:=1,F:=fnW (cx:=cxT) a27 n27 aTc m,p:=4 }
theorem aWG:∀ t,jE (.inr (.inl (n27 t)):V cxT.ty)=true:=λ_=>rfl
def a28:Args cxT.ty (LV×Int):=(Args.cons (Arg.leaf (LArg.own 76)) (Args.one (Arg.leaf (LArg.int .i64))))
def n28:(Int×LV)->List (A cxT.ty):=λt=>[(.inl (lv (.int .i64 t.1))),(.inl (ls { own:=2,nm:=0,e:=76,o:=true,xs:=t.2 }))]
def aTb:(Int×LV):=((0:Int),[])
abbrev c28 (m:(LV×Int)->Option (Int×LV)):WFn cxT:={ nres:=1,n:=1,F:=fnW (cx:=cxT) a28 n28 aTb m,p:=4 }
theorem aWF:∀ t,jE (.inr (.inl (n28 t)):V cxT.ty)=true:=λ_=>rfl
def a29:Args cxT.ty (CZ×Int):=(Args.cons (Arg.agg (SArg.cons (LArg.int .i64) (SArg.cons (LArg.row 68) (SArg.one (LArg.row 76))))) (Args.one (Arg.leaf (LArg.int .i64))))
def n29:Int->V cxT.ty:=λt=>(.inl (.inl (lv (.int .i64 t))))
def aTa:Int:=(0:Int)
abbrev c29 (m:(CZ×Int)->Option Int):=iT (cx:=cxT) a29 n29 aTa m
theorem aWE:HS n29:=λ_=>.inl rfl
def a30:Args cxT.ty (Vp×Int):=(Args.cons ag2 (Args.one (Arg.leaf (LArg.int .i64))))
def n30:Int->V cxT.ty:=λt=>(.inl (.inl (lv (.int .i64 t))))
def aS9:Int:=(0:Int)
abbrev c30 (m:(Vp×Int)->Option Int):=iT (cx:=cxT) a30 n30 aS9 m
theorem aWD:HS n30:=λ_=>.inl rfl
def a31:Args cxT.ty Int:=(Args.one (Arg.leaf (LArg.int .i64)))
def n31:Bool->V cxT.ty:=λt=>(.inl (.inl (lv (.bool t))))
def aS8:Bool:=false
abbrev c31 (m:Int->Option Bool):=iT (cx:=cxT) a31 n31 aS8 m
theorem aWC:HS n31:=λ_=>.inl rfl
def a32:Args cxT.ty Bk:=(Args.one ag3)
def n32:Bool->V cxT.ty:=λt=>(.inl (.inl (lv (.bool t))))
def aS7:Bool:=false
abbrev c32 (m:Bk->Option Bool):=iT (cx:=cxT) a32 n32 aS7 m
theorem aWB:HS n32:=λ_=>.inl rfl
def a33:Args cxT.ty (CZ×Int):=(Args.cons (Arg.leaf (LArg.ptr 32)) (Args.one (Arg.leaf (LArg.int .i64))))
def n33:Int->V cxT.ty:=λt=>(.inl (.inl (lv (.int .i64 t))))
def aS6:Int:=(0:Int)
abbrev c33 (m:(CZ×Int)->Option Int):=iT (cx:=cxT) a33 n33 aS6 m
theorem aWA:HS n33:=λ_=>.inl rfl
def a34:Args cxT.ty (Int×Int×Int):=(Args.cons (Arg.leaf (LArg.int .i64)) (Args.cons (Arg.leaf (LArg.int .i64)) (Args.one (Arg.leaf (LArg.int .i64)))))
def n34:Bool->V cxT.ty:=λt=>(.inl (.inl (lv (.bool t))))
def aS5:Bool:=false
abbrev c34 (m:(Int×Int×Int)->Option Bool):=iT (cx:=cxT) a34 n34 aS5 m
theorem aWz:HS n34:=λ_=>.inl rfl
def a35:Args cxT.ty Int:=(Args.one (Arg.leaf (LArg.int .i64)))
def n35:(Bool×Bool×Bool×Bool)->V cxT.ty:=λt=>(.inr (.inl [(.inl (lv (.bool t.1))),(.inl (lv (.bool t.2.1))),(.inl (lv (.bool t.2.2.1))),(.inl (lv (.bool t.2.2.2)))]))
def aS4:(Bool×Bool×Bool×Bool):=(false,false,false,false)
abbrev c35 (m:Int->Option (Bool×Bool×Bool×Bool)):=iT (cx:=cxT) a35 n35 aS4 m
theorem aWy:HS n35:=λ_=>.inl rfl
def a36:Args cxT.ty Int:=(Args.one (Arg.leaf (LArg.int .i64)))
def n36:Bool->V cxT.ty:=λt=>(.inl (.inl (lv (.bool t))))
def aS3:Bool:=false
abbrev c36 (m:Int->Option Bool):=iT (cx:=cxT) a36 n36 aS3 m
theorem aWx:HS n36:=λ_=>.inl rfl
def a37:Args cxT.ty Int:=(Args.one (Arg.leaf (LArg.int .i64)))
def n37:Bool->V cxT.ty:=λt=>(.inl (.inl (lv (.bool t))))
def aS2:Bool:=false
abbrev c37 (m:Int->Option Bool):=iT (cx:=cxT) a37 n37 aS2 m
theorem aWw:HS n37:=λ_=>.inl rfl
def a38:Args cxT.ty DZ:=(Args.one ag1)
def n38:Bool->V cxT.ty:=λt=>(.inl (.inl (lv (.bool t))))
def aS1:Bool:=false
abbrev c38 (m:DZ->Option Bool):=iT (cx:=cxT) a38 n38 aS1 m
theorem aWv:HS n38:=λ_=>.inl rfl
def a39:Args cxT.ty Int:=(Args.one (Arg.leaf (LArg.int .i64)))
def n39:Bool->V cxT.ty:=λt=>(.inl (.inl (lv (.bool t))))
def aS0:Bool:=false
abbrev c39 (m:Int->Option Bool):=iT (cx:=cxT) a39 n39 aS0 m
theorem aWu:HS n39:=λ_=>.inl rfl
def a40:Args cxT.ty CZ:=(Args.one (Arg.agg (SArg.cons (LArg.int .i64) (SArg.cons (LArg.row 68) (SArg.one (LArg.row 76))))))
def n40:CZ->V cxT.ty:=nn3
def aSZ:CZ:=((0:Int),[],[])
abbrev c40 (m:CZ->Option CZ):=iT (cx:=cxT) a40 n40 aSZ m
theorem aWt:HS n40:=λ_=>.inl rfl
def a41:Args cxT.ty (CZ×DZ):=(Args.cons (Arg.agg (SArg.cons (LArg.int .i64) (SArg.cons (LArg.own 68) (SArg.one (LArg.own 76))))) (Args.one ag1))
def uC:CR->List (A cxT.ty):=nn1
def aNO:CR:=((0:Int),(0:Int),[],[])
abbrev c41 (m:(CZ×DZ)->Option CR):WFn cxT:={ nres:=1,n:=0,F:=fnW (cx:=cxT) a41 uC aNO m,p:=6 }
theorem aWs:∀ t,jE (.inr (.inl (uC t)):V cxT.ty)=true:=λ_=>rfl
def a42:Args cxT.ty (CZ×DZ):=(Args.cons (Arg.agg (SArg.cons (LArg.int .i64) (SArg.cons (LArg.own 68) (SArg.one (LArg.own 76))))) (Args.one ag1))
def n42:CR->List (A cxT.ty):=nn1
def aSY:CR:=((0:Int),(0:Int),[],[])
abbrev c42 (m:(CZ×DZ)->Option CR):WFn cxT:={ nres:=1,n:=0,F:=fnW (cx:=cxT) a42 n42 aSY m,p:=6 }
theorem aWr:∀ t,jE (.inr (.inl (n42 t)):V cxT.ty)=true:=λ_=>rfl
def a43:Args cxT.ty Bk:=(Args.one ag3)
def n43:Bk->V cxT.ty:=λt=>(.inl (.inr [(lv (.int .i64 t.1)),(lv (.int .i64 t.2.1)),(lv (.int .i64 t.2.2.1)),(lv (.int .i64 t.2.2.2.1)),(lv (.bool t.2.2.2.2))]))
def aSX:Bk:=((0:Int),(0:Int),(0:Int),(0:Int),false)
abbrev c43 (m:Bk->Option Bk):=iT (cx:=cxT) a43 n43 aSX m
theorem aWq:HS n43:=λ_=>.inl rfl
def a44:Args cxT.ty Vp:=(Args.one ag2)
def n44:Vp->V cxT.ty:=λt=>(.inl (.inr [(lv (.int .i64 t.1)),(lv (.int .i64 t.2.1)),(lv (.int .i64 t.2.2.1)),(ls { own:=2,nm:=0,e:=2,o:=true,xs:=t.2.2.2 })]))
def aSW:Vp:=((0:Int),(0:Int),(0:Int),[])
abbrev c44 (m:Vp->Option Vp):=iT (cx:=cxT) a44 n44 aSW m
theorem aWp:HS n44:=λ_=>.inl rfl
def a45:Args cxT.ty Int:=(Args.one (Arg.leaf (LArg.int .i64)))
def n45:Bool->V cxT.ty:=λt=>(.inl (.inl (lv (.bool t))))
def aSV:Bool:=false
abbrev c45 (m:Int->Option Bool):=iT (cx:=cxT) a45 n45 aSV m
theorem aWo:HS n45:=λ_=>.inl rfl
def a46:Args cxT.ty Bk:=(Args.one ag3)
def n46:Bool->V cxT.ty:=λt=>(.inl (.inl (lv (.bool t))))
def aSU:Bool:=false
abbrev c46 (m:Bk->Option Bool):=iT (cx:=cxT) a46 n46 aSU m
theorem aWn:HS n46:=λ_=>.inl rfl
def a47:Args cxT.ty Vp:=(Args.one ag2)
def n47:Bool->V cxT.ty:=λt=>(.inl (.inl (lv (.bool t))))
def aST:Bool:=false
abbrev c47 (m:Vp->Option Bool):=iT (cx:=cxT) a47 n47 aST m
theorem aWm:HS n47:=λ_=>.inl rfl
def a48:Args cxT.ty (Vp×Vp):=(Args.cons ag2 (Args.one ag2))
def n48:Int->V cxT.ty:=λt=>(.inl (.inl (lv (.int .i64 t))))
def aSS:Int:=(0:Int)
abbrev c48 (m:(Vp×Vp)->Option Int):=iT (cx:=cxT) a48 n48 aSS m
theorem aWl:HS n48:=λ_=>.inl rfl
def a49:Args cxT.ty (LI×LB):=(Args.cons (Arg.leaf (LArg.row 2)) (Args.one (Arg.leaf (LArg.row 68))))
def n49:Int->V cxT.ty:=λt=>(.inl (.inl (lv (.int .i64 t))))
def aSR:Int:=(0:Int)
abbrev c49 (m:(LI×LB)->Option Int):=iT (cx:=cxT) a49 n49 aSR m
theorem aWk:HS n49:=λ_=>.inl rfl
def a50:Args cxT.ty Int:=(Args.one (Arg.leaf (LArg.int .i64)))
def n50:Bool->V cxT.ty:=λt=>(.inl (.inl (lv (.bool t))))
def aSQ:Bool:=false
abbrev c50 (m:Int->Option Bool):=iT (cx:=cxT) a50 n50 aSQ m
theorem aWj:HS n50:=λ_=>.inl rfl
def a51:Args cxT.ty Int:=(Args.one (Arg.leaf (LArg.int .i64)))
def n51:Bool->V cxT.ty:=λt=>(.inl (.inl (lv (.bool t))))
def aSP:Bool:=false
abbrev c51 (m:Int->Option Bool):=iT (cx:=cxT) a51 n51 aSP m
theorem aWi:HS n51:=λ_=>.inl rfl
def a52:Args cxT.ty Int:=(Args.one (Arg.leaf (LArg.int .i64)))
def n52:Bool->V cxT.ty:=λt=>(.inl (.inl (lv (.bool t))))
def aSO:Bool:=false
abbrev c52 (m:Int->Option Bool):=iT (cx:=cxT) a52 n52 aSO m
theorem aWh:HS n52:=λ_=>.inl rfl
def a53:Args cxT.ty (CZ×DZ):=(Args.cons (Arg.agg (SArg.cons (LArg.int .i64) (SArg.cons (LArg.own 68) (SArg.one (LArg.own 76))))) (Args.one ag1))
def n53:CR->List (A cxT.ty):=nn1
def aKm:CR:=((0:Int),(0:Int),[],[])
abbrev c53 (m:(CZ×DZ)->Option CR):WFn cxT:={ nres:=1,n:=0,F:=fnW (cx:=cxT) a53 n53 aKm m,p:=6 }
theorem aWg:∀ t,jE (.inr (.inl (n53 t)):V cxT.ty)=true:=λ_=>rfl
def a55:Args cxT.ty Int:=(Args.one (Arg.leaf (LArg.int .i64)))
def n55:Bool->V cxT.ty:=λt=>(.inl (.inl (lv (.bool t))))
def aSN:Bool:=false
abbrev c55 (m:Int->Option Bool):=iT (cx:=cxT) a55 n55 aSN m
theorem aWf:HS n55:=λ_=>.inl rfl
def a58:Args cxT.ty Int:=(Args.one (Arg.leaf (LArg.int .i64)))
def n58:Bool->V cxT.ty:=λt=>(.inl (.inl (lv (.bool t))))
def aSM:Bool:=false
abbrev c58 (m:Int->Option Bool):=iT (cx:=cxT) a58 n58 aSM m
theorem aWe:HS n58:=λ_=>.inl rfl
def a59:Args cxT.ty Int:=(Args.one (Arg.leaf (LArg.int .i64)))
def n59:Bool->V cxT.ty:=λt=>(.inl (.inl (lv (.bool t))))
def aSL:Bool:=false
abbrev c59 (m:Int->Option Bool):=iT (cx:=cxT) a59 n59 aSL m
theorem aWd:HS n59:=λ_=>.inl rfl
def a60:Args cxT.ty (CZ×DZ):=(Args.cons (Arg.agg (SArg.cons (LArg.int .i64) (SArg.cons (LArg.own 68) (SArg.one (LArg.own 76))))) (Args.one ag1))
def n60:CR->List (A cxT.ty):=nn1
def aSK:CR:=((0:Int),(0:Int),[],[])
abbrev c60 (m:(CZ×DZ)->Option CR):WFn cxT:={ nres:=1,n:=0,F:=fnW (cx:=cxT) a60 n60 aSK m,p:=6 }
theorem aWc:∀ t,jE (.inr (.inl (n60 t)):V cxT.ty)=true:=λ_=>rfl
def a61:Args cxT.ty (CZ×DZ):=(Args.cons (Arg.agg (SArg.cons (LArg.int .i64) (SArg.cons (LArg.own 68) (SArg.one (LArg.own 76))))) (Args.one ag1))
def n61:CR->List (A cxT.ty):=nn1
def aSJ:CR:=((0:Int),(0:Int),[],[])
abbrev c61 (m:(CZ×DZ)->Option CR):WFn cxT:={ nres:=1,n:=0,F:=fnW (cx:=cxT) a61 n61 aSJ m,p:=6 }
theorem aWb:∀ t,jE (.inr (.inl (n61 t)):V cxT.ty)=true:=λ_=>rfl
def a64:Args cxT.ty Int:=(Args.one (Arg.leaf (LArg.int .i64)))
def n64:Bool->V cxT.ty:=λt=>(.inl (.inl (lv (.bool t))))
def aSI:Bool:=false
abbrev c64 (m:Int->Option Bool):=iT (cx:=cxT) a64 n64 aSI m
theorem aWa:HS n64:=λ_=>.inl rfl
def a66:Args cxT.ty (Bk×Bk):=(Args.cons ag3 (Args.one ag3))
def n66:Bool->V cxT.ty:=λt=>(.inl (.inl (lv (.bool t))))
def aSH:Bool:=false
abbrev c66 (m:(Bk×Bk)->Option Bool):=iT (cx:=cxT) a66 n66 aSH m
theorem aV9:HS n66:=λ_=>.inl rfl
def a67:Args cxT.ty (Vp×Vp):=(Args.cons ag2 (Args.one ag2))
def n67:Bool->V cxT.ty:=λt=>(.inl (.inl (lv (.bool t))))
def aSG:Bool:=false
abbrev c67 (m:(Vp×Vp)->Option Bool):=iT (cx:=cxT) a67 n67 aSG m
theorem aV8:HS n67:=λ_=>.inl rfl
def a68:Args cxT.ty (LI×Int):=(Args.cons (Arg.leaf (LArg.own 2)) (Args.one (Arg.leaf (LArg.int .i64))))
def n68:(Int×LI)->List (A cxT.ty):=λt=>[(.inl (lv (.int .i64 t.1))),(.inl (ls { own:=2,nm:=0,e:=2,o:=true,xs:=t.2 }))]
def aSF:(Int×LI):=((0:Int),[])
abbrev c68 (m:(LI×Int)->Option (Int×LI)):WFn cxT:={ nres:=1,n:=1,F:=fnW (cx:=cxT) a68 n68 aSF m }
theorem aV7:∀ t,jE (.inr (.inl (n68 t)):V cxT.ty)=true:=λ_=>rfl
def a69:Args cxT.ty (LB×Int):=(Args.cons (Arg.leaf (LArg.row 68)) (Args.one (Arg.leaf (LArg.int .i64))))
def n69:Int->V cxT.ty:=λt=>(.inl (.inl (lv (.int .i64 t))))
def aSE:Int:=(0:Int)
abbrev c69 (m:(LB×Int)->Option Int):=iT (cx:=cxT) a69 n69 aSE m
theorem aV6:HS n69:=λ_=>.inl rfl
def a70:Args cxT.ty (LV×Int):=(Args.cons (Arg.leaf (LArg.row 76)) (Args.one (Arg.leaf (LArg.int .i64))))
def n70:Int->V cxT.ty:=λt=>(.inl (.inl (lv (.int .i64 t))))
def aSD:Int:=(0:Int)
abbrev c70 (m:(LV×Int)->Option Int):=iT (cx:=cxT) a70 n70 aSD m
theorem aV5:HS n70:=λ_=>.inl rfl
def a71:Args cxT.ty (LI×Int):=(Args.cons (Arg.leaf (LArg.row 2)) (Args.one (Arg.leaf (LArg.int .i64))))
def n71:Int->V cxT.ty:=λt=>(.inl (.inl (lv (.int .i64 t))))
def aSC:Int:=(0:Int)
abbrev c71 (m:(LI×Int)->Option Int):=iT (cx:=cxT) a71 n71 aSC m
theorem aV4:HS n71:=λ_=>.inl rfl
def a72:Args cxT.ty Int:=(Args.one (Arg.leaf (LArg.int .i64)))
def n72:Bool->V cxT.ty:=λt=>(.inl (.inl (lv (.bool t))))
def aSB:Bool:=false
abbrev c72 (m:Int->Option Bool):=iT (cx:=cxT) a72 n72 aSB m
theorem aV3:HS n72:=λ_=>.inl rfl
def a73:Args cxT.ty (Vp×Vp):=(Args.cons ag2 (Args.one ag2))
def n73:Bool->V cxT.ty:=λt=>(.inl (.inl (lv (.bool t))))
def aNN:Bool:=false
abbrev c73 (m:(Vp×Vp)->Option Bool):=iT (cx:=cxT) a73 n73 aNN m
theorem aV2:HS n73:=λ_=>.inl rfl
def a74:Args cxT.ty (CZ×Int):=(Args.cons (Arg.leaf (LArg.ptr 32)) (Args.one (Arg.leaf (LArg.int .i64))))
def n74:Int->V cxT.ty:=λt=>(.inl (.inl (lv (.int .i64 t))))
def aSA:Int:=(0:Int)
abbrev c74 (m:(CZ×Int)->Option Int):=iT (cx:=cxT) a74 n74 aSA m
theorem aV1:HS n74:=λ_=>.inl rfl
def a75:Args cxT.ty (CZ×DZ):=(Args.cons (Arg.leaf (LArg.ptr 32)) (Args.one ag1))
def n75:Int->V cxT.ty:=λt=>(.inl (.inl (lv (.int .i64 t))))
def aNM:Int:=(0:Int)
abbrev c75 (m:(CZ×DZ)->Option Int):=iT (cx:=cxT) a75 n75 aNM m
theorem aV0:HS n75:=λ_=>.inl rfl
def a76:Args cxT.ty (LI×Int):=(Args.cons (Arg.leaf (LArg.row 2)) (Args.one (Arg.leaf (LArg.int .i64))))
def n76:Bool->V cxT.ty:=λt=>(.inl (.inl (lv (.bool t))))
def aSz:Bool:=false
abbrev c76 (m:(LI×Int)->Option Bool):=iT (cx:=cxT) a76 n76 aSz m
theorem aVZ:HS n76:=λ_=>.inl rfl
def a77:Args cxT.ty (LI×Int):=(Args.cons (Arg.leaf (LArg.row 2)) (Args.one (Arg.leaf (LArg.int .i64))))
def n77:LI->V cxT.ty:=λt=>(.inl (.inl (ls { own:=2,nm:=0,e:=2,o:=true,xs:=t })))
def aXc:LI:=[]
abbrev c77 (m:(LI×Int)->Option LI):=iT (cx:=cxT) a77 n77 aXc m
def a78:Args cxT.ty (CZ×Int):=(Args.cons (Arg.leaf (LArg.ptr 32)) (Args.one (Arg.leaf (LArg.int .i64))))
def n78:Bool->V cxT.ty:=λt=>(.inl (.inl (lv (.bool t))))
def aSy:Bool:=false
abbrev c78 (m:(CZ×Int)->Option Bool):=iT (cx:=cxT) a78 n78 aSy m
theorem aVY:HS n78:=λ_=>.inl rfl
def a79:Args cxT.ty LI:=(Args.one (Arg.leaf (LArg.row 2)))
def n79:LI->V cxT.ty:=λt=>(.inl (.inl (ls { own:=2,nm:=0,e:=2,o:=true,xs:=t })))
def aSx:LI:=[]
abbrev c79 (m:LI->Option LI):=iT (cx:=cxT) a79 n79 aSx m
theorem aVX:HS n79:=λ_=>.inl rfl
def a80:Args cxT.ty LI:=(Args.one (Arg.leaf (LArg.row 3)))
def n80:Int->V cxT.ty:=λt=>(.inl (.inl (lv (.int .i64 t))))
def aSw:Int:=(0:Int)
abbrev c80 (m:LI->Option Int):=iT (cx:=cxT) a80 n80 aSw m
theorem aVW:HS n80:=λ_=>.inl rfl
def a81:Args cxT.ty (Int×Int):=(Args.cons (Arg.leaf (LArg.int .i64)) (Args.one (Arg.leaf (LArg.int .i64))))
def n81:Int->V cxT.ty:=λt=>(.inl (.inl (lv (.int .i64 t))))
def aSv:Int:=(0:Int)
abbrev c81 (m:(Int×Int)->Option Int):=iT (cx:=cxT) a81 n81 aSv m
theorem aVV:HS n81:=λ_=>.inl rfl
def a82:Args cxT.ty (LB×Int):=(Args.cons (Arg.leaf (LArg.row 68)) (Args.one (Arg.leaf (LArg.int .i64))))
def n82:(Int×Bool)->V cxT.ty:=λt=>(.inr (.inl [(.inl (lv (.int .i64 t.1))),(.inl (lv (.bool t.2)))]))
def aNL:(Int×Bool):=((0:Int),false)
abbrev c82 (m:(LB×Int)->Option (Int×Bool)):=iT (cx:=cxT) a82 n82 aNL m
theorem aVU:HS n82:=λ_=>.inl rfl
def a83:Args cxT.ty (LB×Int×LB):=(Args.cons (Arg.leaf (LArg.own 68)) (Args.cons (Arg.leaf (LArg.int .i64)) (Args.one (Arg.leaf (LArg.own 68)))))
def n83:LB->List (A cxT.ty):=λt=>[(.inl (ls { own:=2,nm:=0,e:=68,o:=true,xs:=t }))]
def aXb:LB:=[]
abbrev c83 (m:(LB×Int×LB)->Option LB):WFn cxT:={ nres:=1,n:=0,F:=fnW (cx:=cxT) a83 n83 aXb m,p:=7 }
def a87:Args cxT.ty (LI×Int):=(Args.cons (Arg.leaf (LArg.row 2)) (Args.one (Arg.leaf (LArg.int .i64))))
def n87:Bool->V cxT.ty:=λt=>(.inl (.inl (lv (.bool t))))
def aNK:Bool:=false
abbrev c87 (m:(LI×Int)->Option Bool):=iT (cx:=cxT) a87 n87 aNK m
theorem aVT:HS n87:=λ_=>.inl rfl
def a89:Args cxT.ty (LV×Int×Int×Int):=(Args.cons (Arg.leaf (LArg.row 76)) (Args.cons (Arg.leaf (LArg.int .i64)) (Args.cons (Arg.leaf (LArg.int .i64)) (Args.one (Arg.leaf (LArg.int .i64))))))
def n89:(Int×Bool)->V cxT.ty:=λt=>(.inr (.inl [(.inl (lv (.int .i64 t.1))),(.inl (lv (.bool t.2)))]))
def aNJ:(Int×Bool):=((0:Int),false)
abbrev c89 (m:(LV×Int×Int×Int)->Option (Int×Bool)):=iT (cx:=cxT) a89 n89 aNJ m
theorem aVS:HS n89:=λ_=>.inl rfl
def a90:Args cxT.ty (LV×Int×LV):=(Args.cons (Arg.leaf (LArg.own 76)) (Args.cons (Arg.leaf (LArg.int .i64)) (Args.one (Arg.leaf (LArg.own 76)))))
def n90:LV->List (A cxT.ty):=λt=>[(.inl (ls { own:=2,nm:=0,e:=76,o:=true,xs:=t }))]
def aXa:LV:=[]
abbrev c90 (m:(LV×Int×LV)->Option LV):WFn cxT:={ nres:=1,n:=0,F:=fnW (cx:=cxT) a90 n90 aXa m,p:=7 }
def a91:Args cxT.ty (LV×Int×Int):=(Args.cons (Arg.leaf (LArg.own 76)) (Args.cons (Arg.leaf (LArg.int .i64)) (Args.one (Arg.leaf (LArg.int .i64)))))
def n91:LV->List (A cxT.ty):=λt=>[(.inl (ls { own:=2,nm:=0,e:=76,o:=true,xs:=t }))]
def aW9:LV:=[]
abbrev c91 (m:(LV×Int×Int)->Option LV):WFn cxT:={ nres:=1,n:=0,F:=fnW (cx:=cxT) a91 n91 aW9 m,p:=7 }
def a92:Args cxT.ty (LI×Int):=(Args.cons (Arg.leaf (LArg.row 2)) (Args.one (Arg.leaf (LArg.int .i64))))
def n92:(Int×Bool)->V cxT.ty:=λt=>(.inr (.inl [(.inl (lv (.int .i64 t.1))),(.inl (lv (.bool t.2)))]))
def aNI:(Int×Bool):=((0:Int),false)
abbrev c92 (m:(LI×Int)->Option (Int×Bool)):=iT (cx:=cxT) a92 n92 aNI m
theorem aVR:HS n92:=λ_=>.inl rfl
def a96:Args cxT.ty (LI×LI):=(Args.cons (Arg.leaf (LArg.row 2)) (Args.one (Arg.leaf (LArg.row 2))))
def n96:Bool->V cxT.ty:=λt=>(.inl (.inl (lv (.bool t))))
def aSu:Bool:=false
abbrev c96 (m:(LI×LI)->Option Bool):=iT (cx:=cxT) a96 n96 aSu m
theorem aVQ:HS n96:=λ_=>.inl rfl
def a97:Args cxT.ty (LI×Int):=(Args.cons (Arg.leaf (LArg.row 2)) (Args.one (Arg.leaf (LArg.int .i64))))
def n97:Int->V cxT.ty:=λt=>(.inl (.inl (lv (.int .i64 t))))
def aSt:Int:=(0:Int)
abbrev c97 (m:(LI×Int)->Option Int):=iT (cx:=cxT) a97 n97 aSt m
theorem aVP:HS n97:=λ_=>.inl rfl
def a98:Args cxT.ty Int:=(Args.one (Arg.leaf (LArg.int .i64)))
def n98:Bool->V cxT.ty:=λt=>(.inl (.inl (lv (.bool t))))
def aSs:Bool:=false
abbrev c98 (m:Int->Option Bool):=iT (cx:=cxT) a98 n98 aSs m
theorem aVO:HS n98:=λ_=>.inl rfl
def a99:Args cxT.ty (LB×Int×Unit):=(Args.cons (Arg.leaf (LArg.row 68)) (Args.cons (Arg.leaf (LArg.int .i64)) (Args.one (Arg.leaf (LArg.fn 100)))))
def n99:(Int×Bool)->V cxT.ty:=λt=>(.inr (.inl [(.inl (lv (.int .i64 t.1))),(.inl (lv (.bool t.2)))]))
def aSr:(Int×Bool):=((0:Int),false)
abbrev c99 (m:(LB×Int×Unit)->Option (Int×Bool)):=iT (cx:=cxT) a99 n99 aSr m
theorem aVN:HS n99:=λ_=>.inl rfl
def aTV:Args cxT.ty (Bk×Int):=(Args.cons ag3 (Args.one (Arg.leaf (LArg.int .i64))))
def aIb:Int->V cxT.ty:=λt=>(.inl (.inl (lv (.int .i64 t))))
def aL9:Int:=(0:Int)
abbrev aKz (m:(Bk×Int)->Option Int):=iT (cx:=cxT) aTV aIb aL9 m
theorem aR3:HS aIb:=λ_=>.inl rfl
def aTU:Args cxT.ty (LI×Int):=(Args.cons (Arg.leaf (LArg.row 2)) (Args.one (Arg.leaf (LArg.int .i64))))
def aCz:Int->V cxT.ty:=λt=>(.inl (.inl (lv (.int .i64 t))))
def aL8:Int:=(0:Int)
abbrev aKy (m:(LI×Int)->Option Int):=iT (cx:=cxT) aTU aCz aL8 m
theorem aR2:HS aCz:=λ_=>.inl rfl
def aTT:Args cxT.ty (LV×Vp×Unit):=(Args.cons (Arg.leaf (LArg.row 76)) (Args.cons ag2 (Args.one (Arg.leaf (LArg.fn 48)))))
def aCy:(Int×Bool)->V cxT.ty:=λt=>(.inr (.inl [(.inl (lv (.int .i64 t.1))),(.inl (lv (.bool t.2)))]))
def aL7:(Int×Bool):=((0:Int),false)
abbrev aKx (m:(LV×Vp×Unit)->Option (Int×Bool)):=iT (cx:=cxT) aTT aCy aL7 m
theorem aR1:HS aCy:=λ_=>.inl rfl
def aTS:Args cxT.ty (Int×Int):=(Args.cons (Arg.leaf (LArg.int .i64)) (Args.one (Arg.leaf (LArg.int .i64))))
def aEQ:Bool->V cxT.ty:=λt=>(.inl (.inl (lv (.bool t))))
def aL6:Bool:=false
abbrev aKw (m:(Int×Int)->Option Bool):=iT (cx:=cxT) aTS aEQ aL6 m
theorem aR0:HS aEQ:=λ_=>.inl rfl
def aTR:Args cxT.ty Int:=(Args.one (Arg.leaf (LArg.int .i64)))
def aIa:Bool->V cxT.ty:=λt=>(.inl (.inl (lv (.bool t))))
def aL5:Bool:=false
abbrev aKv (m:Int->Option Bool):=iT (cx:=cxT) aTR aIa aL5 m
theorem aRZ:HS aIa:=λ_=>.inl rfl
abbrev KT:Type:=St cxT.ty->Option (V cxT.ty)
end Go.Proofs.Tryz
