/- A part of the proof of FnWraps: L2TopC. -/
import Derived.Test.YtaegcoihgnobiaaVmJ
import Derived.Test.YtaegcoihgnobiaaL2Top
set_option linter.unusedSimpArgs false
set_option linter.unusedVariables false
namespace Go.Proofs.Try
open Go Go.VM Go.RowKit
theorem aD6 {z:List Int}{n i:Nat}{y:Int}(h:(z.take n)[i]?=some y):z.getD i 0=y:=by
 rw[cA]at h;split at h
 ·simp only[List.getD];rw[h];rfl
 ·simp at h
def row5' (xs:List Int):L bH.ty:=some (.inr (ro 5 xs))
theorem row_u8 {w:World}{a:Option Addr}{len cap:Nat}{zs:List Int}(h:(a=none/\len=0/\cap=0/\zs=[]) ∨
  ∃ x,a=some x/\len<=cap/\cap<=maxLen/\zs.length=cap/\(∀ i,i < zs.length->w.cell? (x.add i)=some (.int .u8 (zs.getD i 0)))/\∀ n∈zs,(Lit.int .u8 n).wf=true) :
  (∃ n,RepL bH w (Lent w) n (row5' (zs.take len)) (.slice a len cap))/\gE (zs.take len)=true:=by
 rcases h with⟨rfl,rfl,rfl,rfl⟩ | ⟨x,rfl,hl,hm,hz,hcell,hwz⟩
 ·exact⟨aEC (cx:=bH) (e:=5),rfl⟩
 ·obtain⟨xs,hxs⟩:∃ xs,xs=zs.take len:=⟨_,rfl⟩
  have hlen:xs.length=len:=by rw[hxs,cF];omega
  have henc:∀ i y,xs[i]?=some y->zs.getD i 0=y:=λi y hy=>aD6 (hxs▸hy)
  refine⟨?_,aG8 hwz _⟩;rw[<-hxs];exact aEB (cx:=bH) (e:=5) (k:=.u8) xs rfl hlen hl (by omega) (λi y hy=>by rw[henc i y hy];rfl) hcell
end Go.Proofs.Try
