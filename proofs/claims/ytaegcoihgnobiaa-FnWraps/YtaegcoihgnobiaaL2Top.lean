/- A part of the proof of FnWraps: L2Top, L2Pb. -/
import Derived.Test.YtaegcoihgnobiaaVmOpen
import Derived.Test.YtaegcoihgnobiaaL2Fa
set_option linter.unusedSimpArgs false
set_option linter.unusedVariables false
namespace Go.Proofs.Try
open Go Go.VM Go.RowKit
end Go.Proofs.Try
set_option maxHeartbeats 0
namespace Go.Proofs.Try
open Go Go.VM Go.RowKit
theorem aF8 (a:List Int):(aR bH 5 a).map VM.byteOf=a:=by
 have h:∀ a:List Int,((a.flatMap (λx:Int=>([lv (.int .u8 x)]:List (L bH.ty)))).filterMap iO).map VM.byteOf=a:=by
  intro a
  induction a with
  | nil=>rfl
  | cons x r ih=>
   simp only[aO,List.singleton_append,List.filterMap_cons,lv,iO,bO]at ih ⊢;rw[ih]
   rfl
 exact h a
theorem zL (a b:List Int)(ha:gE a=true)(hb:gE b=true):(ByteArray.toList (fY (aR bH 5 a)) == ByteArray.toList (fY (aR bH 5 b)))=decide (a=b):=by
 unfold fY;rw[aF8,aF8,sO,sO,rW,rW];by_cases h:a=b
 ·rw[h];simp
 ·rw[df h];have:¬ (ByteArray.empty.data.toList++a.map (λn=>UInt8.ofNat n.toNat)=ByteArray.empty.data.toList++b.map (λn=>UInt8.ofNat n.toNat)):=λhe=>h (zC a b ha hb (dH he))
  simpa using this
def xG (x:List Int×List Int):Option Bool:=if gE x.1=true/\gE x.2=true then some (decide (x.1=x.2))else none
theorem aIZ:Sat prog bH 70 (c70 xG):=s70 xG λx t h=>by
 obtain⟨a,b⟩:=x;unfold xG at h;split at h
 ·rename_i hc;cases h;refine⟨0,?_⟩;show g70 0 a b=_;unfold g70;rw[zL a b hc.1 hc.2]
 ·cases h
end Go.Proofs.Try
