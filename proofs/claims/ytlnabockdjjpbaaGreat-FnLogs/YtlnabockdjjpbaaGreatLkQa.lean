/- A part of the proof of FnLogs: LkQa, LkQb, LkQd. -/
import Derived.Test.YtlnabockdjjpbaaGreatLkPa
import Derived.WalkKit
import Derived.OwnWalkIn
import Derived.Below
import Derived.WalkMore
import Derived.Deep.LoopGhost
import Derived.RangeFuncRecord
set_option linter.unusedSimpArgs false
set_option linter.unusedVariables false
set_option maxRecDepth 100000
namespace Go.Proofs.Tryz
open Go Go.VM Go.RowKit
def lY (f:Nat):Value:=.func (.func f) #[] #[]
def ruL (k:Int):List Value:=
 if k=1 then[lY 54,lY 55,lY 56,.nilFunc,lY 57]else
 if k=2 then[lY 54,.nilFunc,lY 56,.nilFunc,lY 58]else
 if k=3 then[lY 54,.nilFunc,lY 59,.nilFunc,lY 60]else
 if k=4 then[lY 54,.nilFunc,.nilFunc,.nilFunc,lY 61]else
 if k=5 then[.nilFunc,lY 55,lY 62,lY 63,lY 64]else
 if k=6 then[.nilFunc,lY 55,lY 62,lY 63,lY 65]else
 if k=7 then[lY 54,lY 55,lY 62,lY 63,lY 66]else
 if k=8 then[lY 54,lY 55,lY 62,lY 63,lY 67]else
 [lY 54,.nilFunc,lY 68,.nilFunc,lY 69]
def F47 (l:List (A bL.ty)):Option (Bool×V bL.ty):=match l with
 | [.inl (some (.inl (.int .i64 k)))]=>if 1<=k/\k<=9 then some (true,.inl (.inr ((ruL k).map lv)))else none
 | _=>none
def wP:Env bL:={ Kc:=eE [],Kw:=eD [],lv:=λi=>[],xv:=λi=>none }
theorem aIL:jL prog wP (cE 0) f47 [.inl (lv (.int .i64 1))]=some (.inl (.inr ((ruL 1).map lv))):=by kernel_rfl
theorem aIK:jL prog wP (cE 0) f47 [.inl (lv (.int .i64 2))]=some (.inl (.inr ((ruL 2).map lv))):=by kernel_rfl
theorem aIJ:jL prog wP (cE 0) f47 [.inl (lv (.int .i64 3))]=some (.inl (.inr ((ruL 3).map lv))):=by kernel_rfl
theorem aII:jL prog wP (cE 0) f47 [.inl (lv (.int .i64 4))]=some (.inl (.inr ((ruL 4).map lv))):=by kernel_rfl
theorem aIH:jL prog wP (cE 0) f47 [.inl (lv (.int .i64 5))]=some (.inl (.inr ((ruL 5).map lv))):=by kernel_rfl
theorem aIG:jL prog wP (cE 0) f47 [.inl (lv (.int .i64 6))]=some (.inl (.inr ((ruL 6).map lv))):=by kernel_rfl
theorem aIF:jL prog wP (cE 0) f47 [.inl (lv (.int .i64 7))]=some (.inl (.inr ((ruL 7).map lv))):=by kernel_rfl
theorem aIE:jL prog wP (cE 0) f47 [.inl (lv (.int .i64 8))]=some (.inl (.inr ((ruL 8).map lv))):=by kernel_rfl
theorem aID:jL prog wP (cE 0) f47 [.inl (lv (.int .i64 9))]=some (.inl (.inr ((ruL 9).map lv))):=by kernel_rfl
theorem aH0:Sat prog bL 47 F47:=xB cC bX (by rfl) (fn:=f47) rfl λxs r h=>by
 unfold F47 at h;split at h
 ·rename_i k;split at h
  ·rename_i hk;cases h;refine⟨wP,0,bW,bH,?_,.inl ?_⟩
   ·have h9:k=1\/k=2\/k=3\/k=4\/k=5\/k=6\/k=7\/k=8\/k=9:=by omega
    rcases h9 with rfl | rfl | rfl | rfl | rfl | rfl | rfl | rfl | rfl
    ·exact aIL
    ·exact aIK
    ·exact aIJ
    ·exact aII
    ·exact aIH
    ·exact aIG
    ·exact aIF
    ·exact aIE
    ·exact aID
   ·unfold ruL
    repeat' split
    all_goals rfl
  ·cases h
 ·cases h
def nd (k:Int):Bool×Bool×Bool×Bool:=(k != 5&&k != 6,k == 1 || (decide (5<=k)&&decide (k<=8)),k != 4,decide (5<=k)&&decide (k<=8))
def qU (k:Int):Option (Bool×Bool×Bool×Bool):=some (nd k)
theorem aFM:Sat prog bL 43 (c43 qU):=s43 _ nO qU λk t h=>by
 cases h;refine⟨0,?_⟩;show g43 _ 0 k=some (nd k)
 (try unfold w183);unfold g43 G43 nd;dsimp only
 simp only[aX];by_cases h5:k=5
 ·subst h5;rfl
 by_cases h6:k=6
 ·subst h6;rfl
 by_cases h1:k=1
 ·subst h1;rfl
 have e5:(k != 5)=true:=oI h5;have e6:(k != 6)=true:=oI h6;have e1:(k == 1)=false:=aAg h1;simp only[e5,e6,e1,cond_true,cond_false,iR,Bool.false_or,cY];by_cases a:5<=k<;>by_cases b:k<=8<;>simp[a,b]
end Go.Proofs.Tryz
namespace Go.Proofs.Tryz
open Go Go.VM Go.RowKit
theorem aE2 {w:World}{A0 N:Nat->Prop}{v u:Value}(h:ResV bL w A0 N (.inl (.inl (lv v))) u):u=v:=by
 obtain⟨fp,_,_,h⟩:=h;exact h.1
theorem aKI {w:World}{S:Nat->Prop}(a b c:Int):ArgAs bL w S [.inl (lv (.int .i64 a)),.inl (lv (.int .i64 b)),.inl (lv (.int .i64 c))] [.int .i64 a,.int .i64 b,.int .i64 c]:=⟨rfl,λj x u h1 h2=>by
 match j with
 | 0=>simp only[aK,aA]at h1 h2;subst h1;subst h2;exact rfl
 | 1=>simp only[cX,aK,aA]at h1 h2;subst h1;subst h2;exact rfl
 | 2=>simp only[cX,aK,aA]at h1 h2;subst h1;subst h2;exact rfl
 | j+3=>simp at h1⟩
theorem aD8 (a b c:Int)(w:World):Calls prog 18 #[.int .i64 a,.int .i64 b,.int .i64 c] w λe w'=>e=.returned (.bool (decide (b<=a/\a<=c)))/\Below w.heap.size w w':=by
 have:=nO w (λ_=>False) [.inl (lv (.int .i64 a)),.inl (lv (.int .i64 b)),.inl (lv (.int .i64 c))] [.int .i64 a,.int .i64 b,.int .i64 c] (n18 (decide (b<=a/\a<=c))) (λ_ h=>h.elim) (aKI a b c) rfl;exact this.mono λe w' ⟨u,he,hb,hr⟩=>⟨by rw[he,aE2 hr],hb⟩
section
attribute [local go_sem] Oper.semAt_some
set_option maxRecDepth 100000 in
set_option maxHeartbeats 4000000 in
theorem aIt (k b c d e f:Int)(hk:¬ (1<=k/\k<=9))(w:World):Calls prog 42 #[.agg #[.int .i64 k,.int .i64 b,.int .i64 c,.int .i64 d,.int .i64 e,.int .i64 f]] w λe w'=>e=.returned (.int .i64 1)/\Below w.heap.size w w':=by
 go_enter func42,ntmps42
 by_cases h1:k < 1
 ·go_wp2
  go_ret
  exact⟨rfl,(Below.refl _ _).alloc (aI _) _⟩
 ·have h9:9 < k:=by omega
  go_wp2
  go_ret
  exact⟨rfl,(Below.refl _ _).alloc (aI _) _⟩
set_option maxRecDepth 100000 in
set_option maxHeartbeats 4000000 in
theorem aKH (k b c d e f:Int)(hk:1<=k/\k<=9)(hb:¬ b=-1)(h91:∀ w:World,Calls prog 46 #[.int .i64 b] w λe w'=>e=.returned (.bool false)/\Below w.heap.size w w')(w:World):Calls prog 42 #[.agg #[.int .i64 k,.int .i64 b,.int .i64 c,.int .i64 d,.int .i64 e,.int .i64 f]] w λe w'=>e=.returned (.int .i64 3)/\Below w.heap.size w w':=by
 have hk1:¬ k < 1:=by omega
 have hk9:¬ 9 < k:=by omega
 go_enter func42,ntmps42
 go_wp2_with (go_at_call 46;refine(h91 _).mono ?_;clear h91;rintro _ w1 ⟨rfl,hb1⟩)
 go_ret
 exact⟨rfl,((Below.refl _ w).alloc (aI _) _).trans (hb1.mono (by simp))⟩
set_option maxRecDepth 100000 in
set_option maxHeartbeats 4000000 in
theorem aIu (k b c d e f:Int)(hk:¬ (1<=k/\k<=9))(w:World):Calls prog 45 #[.agg #[.int .i64 k,.int .i64 b,.int .i64 c,.int .i64 d,.int .i64 e,.int .i64 f]] w λe w'=>e=.returned (.int .i64 1)/\Below w.heap.size w w':=by
 have h:=aD8 k 1 9 (w.alloc (.cells #[.int .i64 k,.int .i64 b,.int .i64 c,.int .i64 d,.int .i64 e,.int .i64 f] 33));rw[df hk]at h
 go_enter func45,ntmps45
 go_wp2_with (go_at_call 18;refine h.mono ?_;clear h;rintro e w1 ⟨rfl,hb1⟩)
 go_ret
 exact⟨rfl,((Below.refl _ w).alloc (aI _) _).trans (hb1.mono (by simp))⟩
end
end Go.Proofs.Tryz
namespace Go.Proofs.Tryz
open Go Go.VM Go.RowKit
theorem iI (P:Program)(w:World)(a:Addr)(m:Mode)(f:Fn)(x y:Array Value):(store a (.func f x y) m).run P w=stored P w a (.func f x y) m:=run_store P w a _ m rfl
theorem iH (P:Program)(w:World)(a:Addr)(m:Mode):(store a .nilFunc m).run P w=stored P w a .nilFunc m:=run_store P w a _ m rfl
section
attribute [local go_sem] Oper.semAt_some iI iH
abbrev CB (f:Nat)(us:Array Value)(v:Value):Prop:=∀ w:World,Calls prog f us w λe w'=>e=.returned v/\Below w.heap.size w w'
inductive Rl (n:Int):Value->Option Bool->Prop
 | no:Rl n .nilFunc none
 | yes (f:Nat) (b:Bool) (hE:∀ args w,(callFunc f args).run prog w=.ok (.enter f args) w) (h:CB f #[.int .i64 n] (.bool b)):Rl n (.func (.func f) #[] #[]) (some b)
theorem aA7 {w w1:World}{t:TypeId}{v0 v1 v2 v3 v4 v5:Value}(h:Below (w.alloc (.cells #[v0,v1,v2,v3,v4,v5] t)).heap.size (w.alloc (.cells #[v0,v1,v2,v3,v4,v5] t)) w1) :
  ∀ o,(w1.alloc o).cell? ⟨w.heap.size,2,none⟩=some v2/\(w1.alloc o).cell? ⟨w.heap.size,3,none⟩=some v3/\(w1.alloc o).cell? ⟨w.heap.size,4,none⟩=some v4/\(w1.alloc o).cell? ⟨w.heap.size,5,none⟩=some v5:=by
 intro o;have hs:=h.size;have q:(w1.alloc o).heap[w.heap.size]?=some (.cells #[v0,v1,v2,v3,v4,v5] t (0,0)):=(Below.heap_alloc _ _ _ (by simp at hs;omega)).trans ((h.block w.heap.size (by simp)).trans (World.alloc_heap_new w _));refine⟨?_,?_,?_,?_⟩<;>simp[World.cell?,q]
theorem aKG {w w1:World}{t:TypeId}{v0 v1 v2 v3 v4 v5:Value}(h:Below (w.alloc (.cells #[v0,v1,v2,v3,v4,v5] t)).heap.size (w.alloc (.cells #[v0,v1,v2,v3,v4,v5] t)) w1) :
  w1.cell? ⟨w.heap.size,0,none⟩=some v0:=by
 have q:=(h.block w.heap.size (by simp)).trans (World.alloc_heap_new w _);simp[World.cell?,q]
theorem Rl.store {n:Int}{v:Value}{o:Option Bool}(h:Rl n v o)(w:World)(a:Addr)(m:Mode):(Go.store a v m).run prog w=stored prog w a v m:=by
 cases h
 ·exact iH _ _ _ _
 ·exact iI _ _ _ _ _ _ _
def aDJ (os:List (Option Bool))(ns:List Int)(e:Ending):Prop:=
 (e=.returned (.int .i64 3)/\∃ p,p < 4/\os.getD p none=some false) ∨
 ((∀ p,p < 4->os.getD p none≠some false)/\((e=.returned (.int .i64 1)/\∃ p,p < 4/\os.getD p none=none/\ns.getD p 0≠0)\/(e=.returned (.int .i64 0)/\∀ p,p < 4->os.getD p none=none->ns.getD p 0=0)))
end
end Go.Proofs.Tryz
