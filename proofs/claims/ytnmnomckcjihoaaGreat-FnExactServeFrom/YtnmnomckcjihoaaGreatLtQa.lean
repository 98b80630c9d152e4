/- A part of the proof of FnExactServeFrom: LtQa, LtQb, LtQd. -/
import Derived.Test.YtnmnomckcjihoaaGreatLtPe
import Derived.Test.YtnmnomckcjihoaaGreatLtFc
import Derived.WalkKit
import Derived.OwnWalkIn
import Derived.Below
import Derived.WalkMore
import Derived.Deep.LoopGhost
import Derived.RangeFuncRecord
set_option linter.unusedSimpArgs false
set_option linter.unusedVariables false
set_option maxRecDepth 100000
namespace Go.Proofs.Tryz
open Go Go.VM Go.RowKit
abbrev Cm:=Int×Int×Int×Int×Int×Int
theorem aG7 {a b:Int}(h:¬ a=b):(a == b)=false:=by simpa using h
def nA (f:Nat):Value:=.func (.func f) #[] #[]
def ruL (k:Int):List Value:=
 if k=1 then[nA 85,nA 86,nA 87,.nilFunc,nA 97]else
 if k=2 then[nA 85,.nilFunc,nA 87,.nilFunc,nA 98]else
 if k=3 then[nA 85,.nilFunc,nA 88,.nilFunc,nA 99]else
 if k=4 then[nA 85,.nilFunc,.nilFunc,.nilFunc,nA 100]else
 if k=5 then[.nilFunc,nA 86,nA 89,nA 90,nA 101]else
 if k=6 then[.nilFunc,nA 86,nA 89,nA 90,nA 102]else
 if k=7 then[nA 85,nA 86,nA 89,nA 90,nA 103]else
 if k=8 then[nA 85,nA 86,nA 89,nA 90,nA 104]else
 [nA 85,.nilFunc,nA 105,.nilFunc,nA 106]
def F78 (l:List (A cxT.ty)):Option (Bool×V cxT.ty):=match l with
 | [.inl (some (.inl (.int .i64 k)))]=>if 1<=k/\k<=9 then some (true,.inl (.inr ((ruL k).map lv)))else none
 | _=>none
def aAr:Env cxT:={ Kc:=dL [],Kw:=dK [],lv:=λi=>[],xv:=λi=>none }
theorem aPB:dP prog aAr (aW 0) f78 [.inl (lv (.int .i64 1))]=some (.inl (.inr ((ruL 1).map lv))):=by kernel_rfl
theorem aPA:dP prog aAr (aW 0) f78 [.inl (lv (.int .i64 2))]=some (.inl (.inr ((ruL 2).map lv))):=by kernel_rfl
theorem aPz:dP prog aAr (aW 0) f78 [.inl (lv (.int .i64 3))]=some (.inl (.inr ((ruL 3).map lv))):=by kernel_rfl
theorem aPy:dP prog aAr (aW 0) f78 [.inl (lv (.int .i64 4))]=some (.inl (.inr ((ruL 4).map lv))):=by kernel_rfl
theorem aPx:dP prog aAr (aW 0) f78 [.inl (lv (.int .i64 5))]=some (.inl (.inr ((ruL 5).map lv))):=by kernel_rfl
theorem aPw:dP prog aAr (aW 0) f78 [.inl (lv (.int .i64 6))]=some (.inl (.inr ((ruL 6).map lv))):=by kernel_rfl
theorem aPv:dP prog aAr (aW 0) f78 [.inl (lv (.int .i64 7))]=some (.inl (.inr ((ruL 7).map lv))):=by kernel_rfl
theorem aPu:dP prog aAr (aW 0) f78 [.inl (lv (.int .i64 8))]=some (.inl (.inr ((ruL 8).map lv))):=by kernel_rfl
theorem aPt:dP prog aAr (aW 0) f78 [.inl (lv (.int .i64 9))]=some (.inl (.inr ((ruL 9).map lv))):=by kernel_rfl
theorem aNJ:Sat prog cxT 78 F78:=aAy bQ bH (by rfl) (fn:=f78) rfl λxs r h=>by
 unfold F78 at h;split at h
 ·rename_i k;split at h
  ·rename_i hk;cases h;refine⟨aAr,0,bG,aZ,?_,.inl ?_⟩
   ·have h9:k=1\/k=2\/k=3\/k=4\/k=5\/k=6\/k=7\/k=8\/k=9:=by omega
    rcases h9 with rfl | rfl | rfl | rfl | rfl | rfl | rfl | rfl | rfl
    ·exact aPB
    ·exact aPA
    ·exact aPz
    ·exact aPy
    ·exact aPx
    ·exact aPw
    ·exact aPv
    ·exact aPu
    ·exact aPt
   ·unfold ruL
    repeat' split
    all_goals rfl
  ·cases h
 ·cases h
def nd (k:Int):Bool×Bool×Bool×Bool:=(k != 5&&k != 6,k == 1 || (decide (5<=k)&&decide (k<=8)),k != 4,decide (5<=k)&&decide (k<=8))
def m50 (k:Int):Option (Bool×Bool×Bool×Bool):=some (nd k)
theorem aN4:Sat prog cxT 50 (c50 m50):=s50 _ qF m50 λk t h=>by
 cases h;refine⟨0,?_⟩;show g50 _ 0 k=some (nd k);unfold g50 nd;simp only[bJ];by_cases h5:k=5
 ·subst h5;rfl
 by_cases h6:k=6
 ·subst h6;rfl
 by_cases h1:k=1
 ·subst h1;rfl
 have e5:(k != 5)=true:=iR h5;have e6:(k != 6)=true:=iR h6;have e1:(k == 1)=false:=aG7 h1;simp only[e5,e6,e1,cond_true,cond_false,kW,Bool.false_or,bL];by_cases a:5<=k<;>by_cases b:k<=8<;>simp[a,b]
end Go.Proofs.Tryz
namespace Go.Proofs.Tryz
open Go Go.VM Go.RowKit
theorem aHD {w:World}{A0 N:Nat->Prop}{v u:Value}(h:ResV cxT w A0 N (.inl (.inl (lv v))) u):u=v:=by
 obtain⟨fp,_,_,h⟩:=h;exact h.1
theorem aRE {w:World}{S:Nat->Prop}(a b c:Int):ArgAs cxT w S [.inl (lv (.int .i64 a)),.inl (lv (.int .i64 b)),.inl (lv (.int .i64 c))] [.int .i64 a,.int .i64 b,.int .i64 c]:=⟨rfl,λj x u h1 h2=>by
 match j with
 | 0=>simp only[aM,aB]at h1 h2;subst h1;subst h2;exact rfl
 | 1=>simp only[dO,aM,aB]at h1 h2;subst h1;subst h2;exact rfl
 | 2=>simp only[dO,aM,aB]at h1 h2;subst h1;subst h2;exact rfl
 | j+3=>simp at h1⟩
theorem aGs (a b c:Int)(w:World):Calls prog 34 #[.int .i64 a,.int .i64 b,.int .i64 c] w λe w'=>e=.returned (.bool (decide (b<=a/\a<=c)))/\Below w.heap.size w w':=by
 have:=qF w (λ_=>False) [.inl (lv (.int .i64 a)),.inl (lv (.int .i64 b)),.inl (lv (.int .i64 c))] [.int .i64 a,.int .i64 b,.int .i64 c] (n34 (decide (b<=a/\a<=c))) (λ_ h=>h.elim) (aRE a b c) rfl;exact this.mono λe w' ⟨u,he,hb,hr⟩=>⟨by rw[he,aHD hr],hb⟩
section
attribute [local go_sem] Oper.semAt_some
set_option maxRecDepth 100000 in
set_option maxHeartbeats 4000000 in
theorem aPd (k b c d e f:Int)(hk:¬ (1<=k/\k<=9))(w:World):Calls prog 59 #[.agg #[.int .i64 k,.int .i64 b,.int .i64 c,.int .i64 d,.int .i64 e,.int .i64 f]] w λe w'=>e=.returned (.int .i64 1)/\Below w.heap.size w w':=by
 go_enter func59,ntmps59
 by_cases h1:k < 1
 ·go_wp2
  go_ret
  exact⟨rfl,(Below.refl _ _).alloc (aK _) _⟩
 ·have h9:9 < k:=by omega
  go_wp2
  go_ret
  exact⟨rfl,(Below.refl _ _).alloc (aK _) _⟩
set_option maxRecDepth 100000 in
set_option maxHeartbeats 4000000 in
theorem aRD (k b c d e f:Int)(hk:1<=k/\k<=9)(hb:¬ b=-1)(h91:∀ w:World,Calls prog 29 #[.int .i64 b] w λe w'=>e=.returned (.bool false)/\Below w.heap.size w w')(w:World):Calls prog 59 #[.agg #[.int .i64 k,.int .i64 b,.int .i64 c,.int .i64 d,.int .i64 e,.int .i64 f]] w λe w'=>e=.returned (.int .i64 3)/\Below w.heap.size w w':=by
 have hk1:¬ k < 1:=by omega
 have hk9:¬ 9 < k:=by omega
 go_enter func59,ntmps59
 go_wp2_with (go_at_call 29;refine(h91 _).mono ?_;clear h91;rintro _ w1 ⟨rfl,hb1⟩)
 go_ret
 exact⟨rfl,((Below.refl _ w).alloc (aK _) _).trans (hb1.mono (by simp))⟩
set_option maxRecDepth 100000 in
set_option maxHeartbeats 4000000 in
theorem aPe (k b c d e f:Int)(hk:¬ (1<=k/\k<=9))(w:World):Calls prog 27 #[.agg #[.int .i64 k,.int .i64 b,.int .i64 c,.int .i64 d,.int .i64 e,.int .i64 f]] w λe w'=>e=.returned (.int .i64 1)/\Below w.heap.size w w':=by
 have h:=aGs k 1 9 (w.alloc (.cells #[.int .i64 k,.int .i64 b,.int .i64 c,.int .i64 d,.int .i64 e,.int .i64 f] 64));rw[df hk]at h
 go_enter func27,ntmps27
 go_wp2_with (go_at_call 34;refine h.mono ?_;clear h;rintro e w1 ⟨rfl,hb1⟩)
 go_ret
 exact⟨rfl,((Below.refl _ w).alloc (aK _) _).trans (hb1.mono (by simp))⟩
end
end Go.Proofs.Tryz
namespace Go.Proofs.Tryz
open Go Go.VM Go.RowKit
theorem jB (P:Program)(w:World)(a:Addr)(m:Mode)(f:Fn)(x y:Array Value):(store a (.func f x y) m).run P w=stored P w a (.func f x y) m:=run_store P w a _ m rfl
theorem jA (P:Program)(w:World)(a:Addr)(m:Mode):(store a .nilFunc m).run P w=stored P w a .nilFunc m:=run_store P w a _ m rfl
section
attribute [local go_sem] Oper.semAt_some jB jA
abbrev CB (f:Nat)(us:Array Value)(v:Value):Prop:=∀ w:World,Calls prog f us w λe w'=>e=.returned v/\Below w.heap.size w w'
inductive Rl (n:Int):Value->Option Bool->Prop
 | no:Rl n .nilFunc none
 | yes (f:Nat) (b:Bool) (hE:∀ args w,(callFunc f args).run prog w=.ok (.enter f args) w) (h:CB f #[.int .i64 n] (.bool b)):Rl n (.func (.func f) #[] #[]) (some b)
theorem aCR {w w1:World}{t:TypeId}{v0 v1 v2 v3 v4 v5:Value}(h:Below (w.alloc (.cells #[v0,v1,v2,v3,v4,v5] t)).heap.size (w.alloc (.cells #[v0,v1,v2,v3,v4,v5] t)) w1) :
  ∀ o,(w1.alloc o).cell? ⟨w.heap.size,2,none⟩=some v2/\(w1.alloc o).cell? ⟨w.heap.size,3,none⟩=some v3/\(w1.alloc o).cell? ⟨w.heap.size,4,none⟩=some v4/\(w1.alloc o).cell? ⟨w.heap.size,5,none⟩=some v5:=by
 intro o;have hs:=h.size;have q:(w1.alloc o).heap[w.heap.size]?=some (.cells #[v0,v1,v2,v3,v4,v5] t (0,0)):=(Below.heap_alloc _ _ _ (by simp at hs;omega)).trans ((h.block w.heap.size (by simp)).trans (World.alloc_heap_new w _));refine⟨?_,?_,?_,?_⟩<;>simp[World.cell?,q]
theorem aRA {w w1:World}{t:TypeId}{v0 v1 v2 v3 v4 v5:Value}(h:Below (w.alloc (.cells #[v0,v1,v2,v3,v4,v5] t)).heap.size (w.alloc (.cells #[v0,v1,v2,v3,v4,v5] t)) w1) :
  w1.cell? ⟨w.heap.size,0,none⟩=some v0:=by
 have q:=(h.block w.heap.size (by simp)).trans (World.alloc_heap_new w _);simp[World.cell?,q]
theorem Rl.store {n:Int}{v:Value}{o:Option Bool}(h:Rl n v o)(w:World)(a:Addr)(m:Mode):(Go.store a v m).run prog w=stored prog w a v m:=by
 cases h
 ·exact jA _ _ _ _
 ·exact jB _ _ _ _ _ _ _
def aFS (os:List (Option Bool))(ns:List Int)(e:Ending):Prop:=
 (e=.returned (.int .i64 3)/\∃ p,p < 4/\os.getD p none=some false) ∨
 ((∀ p,p < 4->os.getD p none≠some false)/\((e=.returned (.int .i64 1)/\∃ p,p < 4/\os.getD p none=none/\ns.getD p 0≠0)\/(e=.returned (.int .i64 0)/\∀ p,p < 4->os.getD p none=none->ns.getD p 0=0)))
end
end Go.Proofs.Tryz
