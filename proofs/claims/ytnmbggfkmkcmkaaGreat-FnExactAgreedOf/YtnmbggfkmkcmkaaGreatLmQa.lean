/- A part of the proof of FnExactLeaderOf: LmQa, LmQb, LmQd. -/
import Derived.Test.YtnmbggfkmkcmkaaGreatLmPa
import Derived.WalkKit
import Derived.OwnWalkIn
import Derived.Below
import Derived.WalkMore
import Derived.Deep.LoopGhost
import Derived.RangeFuncRecord
set_option linter.unusedSimpArgs false
set_option linter.unusedVariables false
set_option maxRecDepth 100000
namespace Go.Proofs.Tryz
open Go Go.VM Go.RowKit
def oN (f:Nat):Value:=.func (.func f) #[] #[]
def ruL (k:Int):List Value:=
 if k=1 then[oN 140,oN 141,oN 142,.nilFunc,oN 143]else
 if k=2 then[oN 140,.nilFunc,oN 142,.nilFunc,oN 144]else
 if k=3 then[oN 140,.nilFunc,oN 145,.nilFunc,oN 146]else
 if k=4 then[oN 140,.nilFunc,.nilFunc,.nilFunc,oN 147]else
 if k=5 then[.nilFunc,oN 141,oN 148,oN 149,oN 150]else
 if k=6 then[.nilFunc,oN 141,oN 148,oN 149,oN 151]else
 if k=7 then[oN 140,oN 141,oN 148,oN 149,oN 152]else
 if k=8 then[oN 140,oN 141,oN 148,oN 149,oN 153]else
 [oN 140,.nilFunc,oN 154,.nilFunc,oN 155]
def F139 (l:List (A cxT.ty)):Option (Bool×V cxT.ty):=match l with
 | [.inl (some (.inl (.int .i64 k)))]=>if 1<=k/\k<=9 then some (true,.inl (.inr ((ruL k).map lv)))else none
 | _=>none
def sR:Env cxT:={ Kc:=cR [],Kw:=cQ [],lv:=λi=>[],xv:=λi=>none }
theorem aOX:fP prog sR (bJ 0) f139 [.inl (lv (.int .i64 1))]=some (.inl (.inr ((ruL 1).map lv))):=by kernel_rfl
theorem aOW:fP prog sR (bJ 0) f139 [.inl (lv (.int .i64 2))]=some (.inl (.inr ((ruL 2).map lv))):=by kernel_rfl
theorem aOV:fP prog sR (bJ 0) f139 [.inl (lv (.int .i64 3))]=some (.inl (.inr ((ruL 3).map lv))):=by kernel_rfl
theorem aOU:fP prog sR (bJ 0) f139 [.inl (lv (.int .i64 4))]=some (.inl (.inr ((ruL 4).map lv))):=by kernel_rfl
theorem aOT:fP prog sR (bJ 0) f139 [.inl (lv (.int .i64 5))]=some (.inl (.inr ((ruL 5).map lv))):=by kernel_rfl
theorem aOS:fP prog sR (bJ 0) f139 [.inl (lv (.int .i64 6))]=some (.inl (.inr ((ruL 6).map lv))):=by kernel_rfl
theorem aOR:fP prog sR (bJ 0) f139 [.inl (lv (.int .i64 7))]=some (.inl (.inr ((ruL 7).map lv))):=by kernel_rfl
theorem aOQ:fP prog sR (bJ 0) f139 [.inl (lv (.int .i64 8))]=some (.inl (.inr ((ruL 8).map lv))):=by kernel_rfl
theorem aOP:fP prog sR (bJ 0) f139 [.inl (lv (.int .i64 9))]=some (.inl (.inr ((ruL 9).map lv))):=by kernel_rfl
theorem aN5:Sat prog cxT 139 F139:=aBS bC aX (by rfl) (fn:=f139) rfl λxs r h=>by
 unfold F139 at h;split at h
 ·rename_i k;split at h
  ·rename_i hk;cases h;refine⟨sR,0,aW,aQ,?_,.inl ?_⟩
   ·have h9:k=1\/k=2\/k=3\/k=4\/k=5\/k=6\/k=7\/k=8\/k=9:=by omega
    rcases h9 with rfl | rfl | rfl | rfl | rfl | rfl | rfl | rfl | rfl
    ·exact aOX
    ·exact aOW
    ·exact aOV
    ·exact aOU
    ·exact aOT
    ·exact aOS
    ·exact aOR
    ·exact aOQ
    ·exact aOP
   ·unfold ruL
    repeat' split
    all_goals rfl
  ·cases h
 ·cases h
def nd (k:Int):Bool×Bool×Bool×Bool:=(k != 5&&k != 6,k == 1 || (decide (5<=k)&&decide (k<=8)),k != 4,decide (5<=k)&&decide (k<=8))
def aRO (k:Int):Option (Bool×Bool×Bool×Bool):=some (nd k)
theorem aOq:Sat prog cxT 115 (aVL aRO):=aYu _ nA aRO λk t h=>by
 cases h;refine⟨0,?_⟩;show aIR _ 0 k=some (nd k)
 (try unfold w183);unfold aIR G115 nd;dsimp only
 simp only[aP];by_cases h5:k=5
 ·subst h5;rfl
 by_cases h6:k=6
 ·subst h6;rfl
 by_cases h1:k=1
 ·subst h1;rfl
 have e5:(k != 5)=true:=rI h5;have e6:(k != 6)=true:=rI h6;have e1:(k == 1)=false:=aE9 h1;simp only[e5,e6,e1,cond_true,cond_false,fF,pL,bM];by_cases a:5<=k<;>by_cases b:k<=8<;>simp[a,b]
end Go.Proofs.Tryz
namespace Go.Proofs.Tryz
open Go Go.VM Go.RowKit
theorem aJ2 {w:World}{A0 N:Nat->Prop}{v u:Value}(h:ResV cxT w A0 N (.inl (.inl (lv v))) u):u=v:=by
 obtain⟨fp,_,_,h⟩:=h;exact h.1
theorem aVQ {w:World}{S:Nat->Prop}(a b c:Int):ArgAs cxT w S [.inl (lv (.int .i64 a)),.inl (lv (.int .i64 b)),.inl (lv (.int .i64 c))] [.int .i64 a,.int .i64 b,.int .i64 c]:=⟨rfl,λj x u h1 h2=>by
 match j with
 | 0=>simp only[aK,aB]at h1 h2;subst h1;subst h2;exact rfl
 | 1=>simp only[dV,aK,aB]at h1 h2;subst h1;subst h2;exact rfl
 | 2=>simp only[dV,aK,aB]at h1 h2;subst h1;subst h2;exact rfl
 | j+3=>simp at h1⟩
theorem aIw (a b c:Int)(w:World):Calls prog 70 #[.int .i64 a,.int .i64 b,.int .i64 c] w λe w'=>e=.returned (.bool (decide (b<=a/\a<=c)))/\Below w.heap.size w w':=by
 have:=nA w (λ_=>False) [.inl (lv (.int .i64 a)),.inl (lv (.int .i64 b)),.inl (lv (.int .i64 c))] [.int .i64 a,.int .i64 b,.int .i64 c] (n70 (decide (b<=a/\a<=c))) (λ_ h=>h.elim) (aVQ a b c) rfl;exact this.mono λe w' ⟨u,he,hb,hr⟩=>⟨by rw[he,aJ2 hr],hb⟩
section
attribute [local go_sem] Oper.semAt_some
set_option maxRecDepth 100000 in
set_option maxHeartbeats 4000000 in
theorem aRG (k b c d e f:Int)(hk:¬ (1<=k/\k<=9))(w:World):Calls prog 136 #[.agg #[.int .i64 k,.int .i64 b,.int .i64 c,.int .i64 d,.int .i64 e,.int .i64 f]] w λe w'=>e=.returned (.int .i64 1)/\Below w.heap.size w w':=by
 go_enter func136,ntmps136
 by_cases h1:k < 1
 ·go_wp2
  go_ret
  exact⟨rfl,(Below.refl _ _).alloc (aH _) _⟩
 ·have h9:9 < k:=by omega
  go_wp2
  go_ret
  exact⟨rfl,(Below.refl _ _).alloc (aH _) _⟩
set_option maxRecDepth 100000 in
set_option maxHeartbeats 4000000 in
theorem aVP (k b c d e f:Int)(hk:1<=k/\k<=9)(hb:¬ b=-1)(h91:∀ w:World,Calls prog 138 #[.int .i64 b] w λe w'=>e=.returned (.bool false)/\Below w.heap.size w w')(w:World):Calls prog 136 #[.agg #[.int .i64 k,.int .i64 b,.int .i64 c,.int .i64 d,.int .i64 e,.int .i64 f]] w λe w'=>e=.returned (.int .i64 3)/\Below w.heap.size w w':=by
 have hk1:¬ k < 1:=by omega
 have hk9:¬ 9 < k:=by omega
 go_enter func136,ntmps136
 go_wp2_with (go_at_call 138;refine(h91 _).mono ?_;clear h91;rintro _ w1 ⟨rfl,hb1⟩)
 go_ret
 exact⟨rfl,((Below.refl _ w).alloc (aH _) _).trans (hb1.mono (by simp))⟩
set_option maxRecDepth 100000 in
set_option maxHeartbeats 4000000 in
theorem aRH (k b c d e f:Int)(hk:¬ (1<=k/\k<=9))(w:World):Calls prog 101 #[.agg #[.int .i64 k,.int .i64 b,.int .i64 c,.int .i64 d,.int .i64 e,.int .i64 f]] w λe w'=>e=.returned (.int .i64 1)/\Below w.heap.size w w':=by
 have h:=aIw k 1 9 (w.alloc (.cells #[.int .i64 k,.int .i64 b,.int .i64 c,.int .i64 d,.int .i64 e,.int .i64 f] 100));rw[df hk]at h
 go_enter func101,ntmps101
 go_wp2_with (go_at_call 70;refine h.mono ?_;clear h;rintro e w1 ⟨rfl,hb1⟩)
 go_ret
 exact⟨rfl,((Below.refl _ w).alloc (aH _) _).trans (hb1.mono (by simp))⟩
end
end Go.Proofs.Tryz
namespace Go.Proofs.Tryz
open Go Go.VM Go.RowKit
theorem jU (P:Program)(w:World)(a:Addr)(m:Mode)(f:Fn)(x y:Array Value):(store a (.func f x y) m).run P w=stored P w a (.func f x y) m:=run_store P w a _ m rfl
theorem jT (P:Program)(w:World)(a:Addr)(m:Mode):(store a .nilFunc m).run P w=stored P w a .nilFunc m:=run_store P w a _ m rfl
section
attribute [local go_sem] Oper.semAt_some jU jT
abbrev CB (f:Nat)(us:Array Value)(v:Value):Prop:=∀ w:World,Calls prog f us w λe w'=>e=.returned v/\Below w.heap.size w w'
inductive Rl (n:Int):Value->Option Bool->Prop
 | no:Rl n .nilFunc none
 | yes (f:Nat) (b:Bool) (hE:∀ args w,(callFunc f args).run prog w=.ok (.enter f args) w) (h:CB f #[.int .i64 n] (.bool b)):Rl n (.func (.func f) #[] #[]) (some b)
theorem aD9 {w w1:World}{t:TypeId}{v0 v1 v2 v3 v4 v5:Value}(h:Below (w.alloc (.cells #[v0,v1,v2,v3,v4,v5] t)).heap.size (w.alloc (.cells #[v0,v1,v2,v3,v4,v5] t)) w1) :
  ∀ o,(w1.alloc o).cell? ⟨w.heap.size,2,none⟩=some v2/\(w1.alloc o).cell? ⟨w.heap.size,3,none⟩=some v3/\(w1.alloc o).cell? ⟨w.heap.size,4,none⟩=some v4/\(w1.alloc o).cell? ⟨w.heap.size,5,none⟩=some v5:=by
 intro o;have hs:=h.size;have q:(w1.alloc o).heap[w.heap.size]?=some (.cells #[v0,v1,v2,v3,v4,v5] t (0,0)):=(Below.heap_alloc _ _ _ (by simp at hs;omega)).trans ((h.block w.heap.size (by simp)).trans (World.alloc_heap_new w _));refine⟨?_,?_,?_,?_⟩<;>simp[World.cell?,q]
theorem aVM {w w1:World}{t:TypeId}{v0 v1 v2 v3 v4 v5:Value}(h:Below (w.alloc (.cells #[v0,v1,v2,v3,v4,v5] t)).heap.size (w.alloc (.cells #[v0,v1,v2,v3,v4,v5] t)) w1) :
  w1.cell? ⟨w.heap.size,0,none⟩=some v0:=by
 have q:=(h.block w.heap.size (by simp)).trans (World.alloc_heap_new w _);simp[World.cell?,q]
theorem Rl.store {n:Int}{v:Value}{o:Option Bool}(h:Rl n v o)(w:World)(a:Addr)(m:Mode):(Go.store a v m).run prog w=stored prog w a v m:=by
 cases h
 ·exact jT _ _ _ _
 ·exact jU _ _ _ _ _ _ _
def aHO (os:List (Option Bool))(ns:List Int)(e:Ending):Prop:=
 (e=.returned (.int .i64 3)/\∃ p,p < 4/\os.getD p none=some false) ∨
 ((∀ p,p < 4->os.getD p none≠some false)/\((e=.returned (.int .i64 1)/\∃ p,p < 4/\os.getD p none=none/\ns.getD p 0≠0)\/(e=.returned (.int .i64 0)/\∀ p,p < 4->os.getD p none=none->ns.getD p 0=0)))
end
end Go.Proofs.Tryz
