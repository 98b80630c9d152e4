/- A part of the proof of FnWraps: L2Q76. -/
import Derived.WalkKit
import Derived.OwnWalkIn
import Derived.TacticsInMore
import Derived.LoopNIn
import Derived.LoopIn
import Derived.Recover
import Derived.Test.YtaegcoihgnobiaaVmJ
import Derived.Test.YtaegcoihgnobiaaL2Base
set_option linter.unusedSimpArgs false
set_option linter.unusedVariables false
namespace Go.Proofs.Try
open Go Go.VM Go.RowKit
attribute [local go_sem] Oper.semAt_some
theorem aDM (so:Bool)(code:Int)(w:World)(n:Nat):CallsIn Fence.wide n prog 76 #[.bool so,.int .i64 code] w λe w'=>Below w.heap.size w w'/\bif !so then e=.panicked [{ v:=.iface 85 (.agg #[.int .i64 code]),recovered:=false }]else e=.returned (.tuple #[]):=by
 refine callsIn_of_wp func76 rfl trivial ?_ rfl;simp only[ntmps76,eM,bT,cW,Nat.reduceAdd,Nat.reduceSub,iE,iD,jS,iR,gB,fM];cases so
 ·gi_wp2
  have hp:(Instr.panic (Value.iface 85 (Value.agg #[Value.int IntKind.i64 code]))).run prog w=.halt (.panic (Value.iface 85 (Value.agg #[Value.int IntKind.i64 code]))) w:=by kernel_rfl
  rw[hp];exact⟨rfl,Below.refl _ _,rfl⟩
 ·gi_wp2
  exact⟨rfl,.tuple #[],by kernel_rfl,Below.refl _ _,rfl⟩
theorem aAz (so:Bool)(code:Int)(w:World):Calls prog 76 #[.bool so,.int .i64 code] w λe w'=>Below w.heap.size w w'/\bif !so then e=.panicked [{ v:=.iface 85 (.agg #[.int .i64 code]),recovered:=false }]else e=.returned (.tuple #[]):=
 callsIn_wide.1 (aDM so code w 1)
def iN (x:Bool×Int):Option (Bool×Int):=some (!x.1,x.2)
theorem aGb:SatT prog bH 76 (c76 iN).F:=by
 intro w A0 l us xY v rs hA hargs hF;obtain⟨⟨so,code⟩,t,rfl,hx,hcs⟩:=rG hF;cases hx;have hus:us=[.bool so,.int .i64 code]:=by
  match us,hargs with
  | [u1,u2],h=>
   have h1:u1=.bool so:=h.2 0 _ u1 rfl rfl;have h2:u2=.int .i64 code:=h.2 1 _ u2 rfl rfl;rw[h1,h2]
  | [],h=>exact absurd (show 0=2 from h.1) (by decide)
  | [_],h=>exact absurd (show 1=2 from h.1) (by decide)
  | _::_::_::r,h=>exact absurd (show r.length+3=2 from h.1) (by omega)
 subst hus;unfold n76 at hcs;simp only[eV,lv,Sum.inl.injEq,aA,Value.bool.injEq]at hcs;obtain⟨rfl,rfl,rfl⟩:=hcs;refine(aAz so code w).mono λe w' ⟨hb,he⟩=>⟨hb,?_⟩
 cases so with
 | false=>exact he
 | true=>exact⟨_,he,[],pQ,by simp,[],[],rfl,by simp,rfl,rfl,λj a u f e1=>by simp at e1⟩
end Go.Proofs.Try
