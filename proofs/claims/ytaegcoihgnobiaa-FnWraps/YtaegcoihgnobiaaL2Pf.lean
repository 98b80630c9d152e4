/- A part of the proof of FnWraps: L2Pf. -/
import Derived.Test.YtaegcoihgnobiaaL2Pe
set_option linter.unusedSimpArgs false
set_option linter.unusedVariables false
set_option maxHeartbeats 0
namespace Go.Proofs.Try
open Go.IntKind (wrap)
open Go Go.VM Go.RowKit
def sJ (p:Pk):List Int:=gA p.2.2.1 p.1 p.2.1 (4+p.2.2.2.2.2.length)++jM p.2.2.2.1 2++jM p.2.2.2.2.1 2++p.2.2.2.2.2
theorem aCn (p:Pk):(sJ p).length=24+p.2.2.2.2.2.length:=by simp only[sJ,bP,hM,iG]
def m63 (p:Pk):Option (List Int):=if p.2.2.2.2.2.length<=100000 then some (sJ p)else none
theorem aI0:Sat prog bH 63 (c63 m63):=s63 nA lB aGe aGa m63 λp t h=>by
 obtain⟨f,tt,pr,fp,tp,a⟩:=p;unfold m63 at h;split at h
 ·rename_i hc;simp only at hc;cases h;refine⟨0,?_⟩;unfold g63;simp only;have e1:wrap .i64 (4+(a.length:Int))=4+(a.length:Int):=by simp(disch:=omega) only[wi]
  have e71:nA (pr,f,tt,4+(a.length:Int))=some (gA pr f tt (4+a.length)):=if_pos ⟨by show(0:Int)<=4+a.length;omega,by show 4+(a.length:Int)<=1000000;omega⟩;have l1:=hM pr f tt (4+a.length);have l2:=iG fp 2;have l3:=iG tp 2;rw[e1,e71,bA,uI,bA];rw[dt (by omega),uI,bA,dt (by simp only[bP];omega),dt (by simp only[bP];omega)]
  rfl
 ·cases h
def m25 (x:Pk×Int):Option (Int×Pk):=if 0<=x.2/\x.2<=1000000000000/\x.1.2.2.2.2.2.length<=1000000000000 then some (x.2+x.1.2.2.2.2.2.length,x.1.1,x.1.2.1,x.1.2.2.1,x.1.2.2.2.1,x.1.2.2.2.2.1,mkB x.2 x.1.2.2.2.2.2.length)else none
end Go.Proofs.Try
