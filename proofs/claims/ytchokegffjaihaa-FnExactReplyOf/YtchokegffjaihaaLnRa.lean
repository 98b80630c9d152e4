/- A part of the proof of FnExactReplyOf: LnRa, LnRb. -/
import Derived.Test.YtchokegffjaihaaLnNa
import Derived.Test.YtchokegffjaihaaVmGr
import Derived.Test.YtchokegffjaihaaVmCb
import Derived.Maps.OwnSet
import Derived.WalkKit
import Derived.OwnWalk
import Derived.Below
import Derived.WalkMore
set_option linter.unusedSimpArgs false
set_option linter.unusedVariables false
namespace Go.Proofs.Try
open Go Go.VM Go.RowKit Go.Maps
def aHc (x:Ss):Value:=.agg #[.int .i64 x.1,.int .i64 x.2.1,.int .i64 x.2.2]
def sJ (x:Ss):DataW Unit:=.agg [.lit (.int .i64 x.1),.lit (.int .i64 x.2.1),.lit (.int .i64 x.2.2)]
def ssR:Value->Option (DataW Unit×List MemPlace)
 | .agg ⟨[.int .i64 a,.int .i64 b,.int .i64 c]⟩=>some (sJ (a,b,c),[])
 | _=>none
theorem aHa (x:Ss):ssR (aHc x)=some (sJ x,[]):=rfl
theorem aFp {v:Value}{x:Ss}{ps:List MemPlace}(h:ssR v=some (sJ x,ps)):v=aHc x:=by
 unfold ssR at h;split at h
 ·rename_i a b c;obtain⟨x1,x2,x3⟩:=x;simp only[aB,aM,sJ,DataW.agg.injEq,kJ,DataW.lit.injEq,Lit.int.injEq,true_and,and_true]at h;obtain⟨⟨rfl,rfl,rfl⟩,_⟩:=h
  rfl
 ·cases h
def kL (c:Int):Lit:=.int .i64 c
def bag (l:List Ss):DataW Unit:=l.foldl (λD x=>D.put (kL x.1) (sJ x)) (.map [])
def lV (c:Int)(l:List Ss)(z:Ss):Ss:=l.foldl (λr x=>if x.1=c then x else r) z
theorem aEz (c:Int):WideAt.IsKeyLit (kL c):=by simp[WideAt.IsKeyLit,kL]
theorem aGA {a b:Int}(h:a≠b):kL a≠kL b:=by simp[kL,h]
theorem aE6 (l:List Ss)(j:Nat)(hj:j < l.length):(bag (l.take j)).put (kL (l.getD j hI).1) (sJ (l.getD j hI))=bag (l.take (j+1)):=by
 unfold bag;rw[lX,List.foldl_append];simp[List.getD,aC hj]
theorem aE8 (c:Int)(z:Ss):∀ (l:List Ss) (D:DataW Unit) (r:Ss),IsMap D->D.atKey (kL c) (sJ z)=sJ r->(l.foldl (λD x=>D.put (kL x.1) (sJ x)) D).atKey (kL c) (sJ z)=sJ (lV c l r)
 | [],D,r,h,hr=>hr
 | x::l,D,r,h,hr=>by
  show(l.foldl (λD x=>D.put (kL x.1) (sJ x)) (D.put (kL x.1) (sJ x))).atKey (kL c) (sJ z)=sJ (lV c l (if x.1=c then x else r));refine aE8 c z l _ _ (h.put _ _) ?_;by_cases e:x.1=c
  ·subst e;rw[if_pos rfl];exact atKey_put_same h (aEz _) _ _
  ·rw[if_neg e,atKey_put_other (aGA (λh=>e h.symm))];exact hr
theorem aDd (c:Int):∀ (l:List Ss) (D:DataW Unit),IsMap D->has (l.foldl (λD x=>D.put (kL x.1) (sJ x)) D) (kL c)=(has D (kL c) || l.any λx=>x.1 == c)
 | [],D,h=>by simp
 | x::l,D,h=>by
  show has (l.foldl (λD x=>D.put (kL x.1) (sJ x)) (D.put (kL x.1) (sJ x))) (kL c)=_;rw[aDd c l _ (h.put _ _)];by_cases e:x.1=c
  ·subst e;rw[has_put_same h (aEz _)];simp
  ·rw[has_put_other (aGA (λh=>e h.symm)),mV,beq_eq_false_iff_ne.2 e,Bool.false_or]
theorem aLc:Keyed prog 2:=int_keyed underlying2
theorem aG1 (w:World):(zeroValue 55).run prog w=.ok (aHc hI) w:=by kernel_rfl
theorem aDQ {a:Int}(h0:-9223372036854775808<=a)(h1:a<=9223372036854775807):(Lit.int .i64 a).wf=true:=by
 exact WalkArith.wf_i64 (by omega)
section
attribute [local go_sem] Oper.semAt_some
set_option maxRecDepth 100000 in
set_option maxHeartbeats 4000000 in
theorem aK8 (a:Int)(q1 q2 q:Option Addr)(n1 n2 c1 c2 c:Nat)(xs:List Ss)(hn:xs.length<=40)(w:World)
  (hwf:∀ x∈xs,(Lit.int .i64 x.1).wf=true)
  (hq:xs.length≠0->∃ b off,q=some ⟨b,off,none⟩/\b < w.heap.size/\∀ j,j < xs.length->w.cell? ⟨b,off+j * 3,none⟩=some (.int .i64 (xs.getD j hI).1)/\w.cell? ⟨b,off+j * 3+1,none⟩=some (.int .i64 (xs.getD j hI).2.1)/\w.cell? ⟨b,off+j * 3+2,none⟩=some (.int .i64 (xs.getD j hI).2.2)) :
  Calls prog 26 #[.agg #[.int .i64 a,.slice q1 n1 c1,.slice q2 n2 c2,.slice q xs.length c]] w λe W=>e=.returned (.map (some (w.heap.size+1)))/\W.ownsMap prog 2 ssR (w.heap.size+1) 40 (bag xs)/\Below w.heap.size w W:=by
 have hmm:=@run_makeMap prog;have hB0:Below w.heap.size w (w.alloc (.cells #[.int .i64 a,.slice q1 n1 c1,.slice q2 n2 c2,.slice q xs.length c] 37)):=(Below.refl w.heap.size w).alloc (aU _) _
 go_enter func26,ntmps26
 go_wp2
 go_loopw [10] (λi wr=>∃ j:Nat,j<=xs.length/\i=.int .i64 j/\wr.ownsMap prog 2 ssR (w.heap.size+1) j (bag (xs.take j))/\Below w.heap.size w wr) (λi _=>xs.length-(intOf i).toNat)
 case atStart=>exact⟨0,fB _,rfl,by
  have:=World.ownsMap_made (w.alloc (.cells #[.int .i64 a,.slice q1 n1 c1,.slice q2 n2 c2,.slice q xs.length c] 37)) prog 2 ssR;have e:(w.alloc (.cells #[.int .i64 a,.slice q1 n1 c1,.slice q2 n2 c2,.slice q xs.length c] 37)).heap.size=w.heap.size+1:=by simp
  rw[e]at this;exact this,hB0.alloc hB0.size _⟩
 case round=>
  obtain⟨j,hj,rfl,hown,hB⟩:=hrel;by_cases hlt:j < xs.length
  ·obtain⟨sb,so,rfl,hsb,had⟩:=hq (by omega);obtain⟨k0,k1,k2⟩:=had j hlt;replace k0:=(hB.cell hsb).trans k0;replace k1:=(hB.cell hsb).trans k1;replace k2:=(hB.cell hsb).trans k2;have hw1:=hwf _ (iI hI hlt);have hkey:keyOf prog 2 (.int .i64 (xs.getD j hI).1)=some (kL (xs.getD j hI).1):=keyOf_int_mk underlying2 hw1;have hstep:=aE6 xs j hlt
   generalize hX:xs.getD j hI=X at k0 k1 k2 hkey hstep
   obtain⟨x0,x1,x2⟩:=X;have ea:(⟨sb,so,none⟩:Addr).add (j * 3)=⟨sb,so+j * 3,none⟩:=Addr.add_lit ..
   have hl:=hown.lt
   go_wp2_with (first | (at_mapUpdate;refine wpList_mapUpdate_own _ rfl _ _ _ 61 rfl 2 55 aLc underlying61 ssR (w.heap.size+1) j _ rfl (hown.alloc _) (by unfold maxLen;omega) _ _ _ rfl rfl hkey _ [] (aHa (x0,x1,x2)) ?_;intro w2 hown2 hgrow2) | go_in)
   have hb1:=hB.alloc hB.size (.cells #[.int .i64 x0,.int .i64 x1,.int .i64 x2] 55);refine⟨⟨j+1,by omega,by simp,hstep▸hown2,hb1.grown hgrow2 hb1.size (λk hk=>by cases hk;omega)⟩,?_⟩;simp only[intOf];omega
  ·obtain rfl:j=xs.length:=by omega
   rw[nB]at hown
   go_wp2
   go_ret
   exact⟨rfl,hown.mono hn,hB⟩
theorem gC (w:World){ops:Array Oper}{rest:List Oper}{o:Oper}{a:Act}{Q:Exit->Act->World->Prop}(hg:o.guard=none)(m x:Operand)(hop:o.op=Op.lookup 61 m x true)(b n:Nat)(D:DataW Unit)
  (hm:a.eval m=.map (some b)) (hown:w.ownsMap prog 2 ssR b n D) (c:Int) (hx:a.eval x=.int .i64 c) (hkey:keyOf prog 2 (.int .i64 c)=some (kL c)) (x0 x1 x2:Int) (h:Bool) (hat:D.atKey (kL c) (sJ hI)=sJ (x0,x1,x2)) (hh:has D (kL c)=h)
  (hK:wpList prog ops Q rest (a.put o.dst (.tuple #[.agg #[.int .i64 x0,.int .i64 x1,.int .i64 x2],.bool h])) w) :
  wpList prog ops Q (o::rest) a w:=
 wpList_lookup_own_ok w hg m x 61 hop 2 55 aLc underlying61 ssR (aG1 w) (sJ hI) [] rfl b n D hm hown _ _ hx hkey λv ps hv=>by
  rw[hat]at hv;obtain rfl:=aFp hv;rw[hh];exact hK
theorem tH (w:World)(a b c d e:Value):(((w.alloc (.cells #[a,b] 42)).alloc (.cells #[c,d,e] 55)).cell? ⟨w.heap.size,0,none⟩=some a)/\(((w.alloc (.cells #[a,b] 42)).alloc (.cells #[c,d,e] 55)).cell? ⟨w.heap.size,1,none⟩=some b):=by
 have h:=heap_alloc2_old w (.cells #[a,b] 42) (.cells #[c,d,e] 55);exact⟨(cell_of_row _ _ _ _ 42 (0,0) h).trans rfl,(cell_of_row _ _ _ _ 42 (0,0) h).trans rfl⟩
def rp (h:Bool)(x:Ss)(s:Int):Int×Int:=if h=false\/x.2.1 < s then(4,0)else if s < x.2.1 then(9,0)else(0,x.2.2)
set_option maxRecDepth 100000 in
set_option maxHeartbeats 4000000 in
theorem aFv (mb n:Nat)(D:DataW Unit)(c s:Int)(x0 x1 x2:Int)(w:World)(hwf:(Lit.int .i64 c).wf=true)(hown:w.ownsMap prog 2 ssR mb n D)(hat:D.atKey (kL c) (sJ hI)=sJ (x0,x1,x2)) :
  Calls prog 27 #[.map (some mb),.int .i64 c,.int .i64 s] w λe W=>e=.returned (.agg #[.int .i64 (rp (has D (kL c)) (x0,x1,x2) s).1,.int .i64 (rp (has D (kL c)) (x0,x1,x2) s).2])/\Below w.heap.size w W:=by
 have hkey:keyOf prog 2 (.int .i64 c)=some (kL c):=keyOf_int_mk underlying2 hwf;have hBB:∀ o o',Below w.heap.size w ((w.alloc o).alloc o'):=λo o'=>((Below.refl w.heap.size w).alloc (aU _) o).alloc (by simp) o'
 cases hh:has D (kL c)
 ·go_enter func27,ntmps27
  go_wp2_with (first | (at_lookup;refine gC _ rfl _ _ rfl mb n D rfl (hown.alloc _) c rfl hkey x0 x1 x2 _ hat hh ?_) | go_in)
  obtain⟨z0,z1⟩:=tH w (.int .i64 4) (.int .i64 0) (.int .i64 x0) (.int .i64 x1) (.int .i64 x2);have hb:=hBB (.cells #[.int .i64 4,.int .i64 0] 42) (.cells #[.int .i64 x0,.int .i64 x1,.int .i64 x2] 55)
  generalize ((w.alloc (.cells #[.int .i64 4,.int .i64 0] 42)).alloc (.cells #[.int .i64 x0,.int .i64 x1,.int .i64 x2] 55))=Wf at z0 z1 hb ⊢
  refine bodyPost_ret (v:=.agg #[.int .i64 4,.int .i64 0]) ?_ rfl ⟨by simp[rp],hb⟩;simp[results,show f27.results=#[.cell 6 42] from rfl,go_sem,z0,z1]
 ·have h1:x1 < s\/s < x1\/s=x1:=by omega
  rcases h1 with h1 | h1 | h1
  ·have e1:decide (x1 < s)=true:=decide_eq_true h1
   go_enter func27,ntmps27
   go_wp2_with (first | (at_lookup;refine gC _ rfl _ _ rfl mb n D rfl (hown.alloc _) c rfl hkey x0 x1 x2 _ hat hh ?_) | go_in)
   obtain⟨z0,z1⟩:=tH w (.int .i64 4) (.int .i64 0) (.int .i64 x0) (.int .i64 x1) (.int .i64 x2);have hb:=hBB (.cells #[.int .i64 4,.int .i64 0] 42) (.cells #[.int .i64 x0,.int .i64 x1,.int .i64 x2] 55)
   generalize ((w.alloc (.cells #[.int .i64 4,.int .i64 0] 42)).alloc (.cells #[.int .i64 x0,.int .i64 x1,.int .i64 x2] 55))=Wf at z0 z1 hb ⊢
   refine bodyPost_ret (v:=.agg #[.int .i64 4,.int .i64 0]) ?_ rfl ⟨by simp[rp,h1],hb⟩;simp[results,show f27.results=#[.cell 6 42] from rfl,go_sem,z0,z1]
  ·have e1:decide (x1 < s)=false:=decide_eq_false (by omega);have e2:decide (x1 > s)=true:=decide_eq_true h1
   go_enter func27,ntmps27
   go_wp2_with (first | (at_lookup;refine gC _ rfl _ _ rfl mb n D rfl (hown.alloc _) c rfl hkey x0 x1 x2 _ hat hh ?_) | go_in)
   obtain⟨z0,z1⟩:=tH w (.int .i64 9) (.int .i64 0) (.int .i64 x0) (.int .i64 x1) (.int .i64 x2);have hb:=hBB (.cells #[.int .i64 9,.int .i64 0] 42) (.cells #[.int .i64 x0,.int .i64 x1,.int .i64 x2] 55)
   generalize ((w.alloc (.cells #[.int .i64 9,.int .i64 0] 42)).alloc (.cells #[.int .i64 x0,.int .i64 x1,.int .i64 x2] 55))=Wf at z0 z1 hb ⊢
   refine bodyPost_ret (v:=.agg #[.int .i64 9,.int .i64 0]) ?_ rfl ⟨by simp[rp,h1,show ¬ x1 < s by omega],hb⟩;simp[results,show f27.results=#[.cell 6 42] from rfl,go_sem,z0,z1]
  ·subst h1
   go_enter func27,ntmps27
   go_wp2_with (first | (at_lookup;refine gC _ rfl _ _ rfl mb n D rfl (hown.alloc _) c rfl hkey x0 s x2 _ hat hh ?_) | go_in)
   obtain⟨z0,z1⟩:=tH w (.int .i64 0) (.int .i64 x2) (.int .i64 x0) (.int .i64 s) (.int .i64 x2);have hb:=hBB (.cells #[.int .i64 0,.int .i64 x2] 42) (.cells #[.int .i64 x0,.int .i64 s,.int .i64 x2] 55)
   generalize ((w.alloc (.cells #[.int .i64 0,.int .i64 x2] 42)).alloc (.cells #[.int .i64 x0,.int .i64 s,.int .i64 x2] 55))=Wf at z0 z1 hb ⊢
   refine bodyPost_ret (v:=.agg #[.int .i64 0,.int .i64 x2]) ?_ rfl ⟨by simp[rp],hb⟩;simp[results,show f27.results=#[.cell 6 42] from rfl,go_sem,z0,z1]
end
end Go.Proofs.Try
namespace Go.Proofs.Try
open Go Go.VM Go.RowKit Go.Maps
theorem aJJ (W:World)(b:Nat)(v0 v1 u0 u1:Value)(h:W.heap[b]?=some (.cells #[u0,u1] 42 (0,0))) :
  ((W.setCell ⟨b,0,none⟩ v0).setCell ⟨b,1,none⟩ v1).heap[b]?=some (.cells #[v0,v1] 42 (0,0)) ∧
  (∀ B w0,B<=b->Below B w0 W->Below B w0 ((W.setCell ⟨b,0,none⟩ v0).setCell ⟨b,1,none⟩ v1)):=by
 have h1:=heap_setCell_same W b 0 _ 42 v0 h;exact⟨heap_setCell_same _ b 1 _ 42 v1 h1,λB w0 hB h=>(h.setCell (p:=⟨b,0,none⟩) hB _).setCell (p:=⟨b,1,none⟩) hB _⟩
section
attribute [local go_sem] Oper.semAt_some
set_option maxRecDepth 100000 in
set_option maxHeartbeats 8000000 in
theorem aEc (a:Int)(q1 q2 q:Option Addr)(n1 n2 n c1 c2 c:Nat)(w:World)(k cl s:Int)(hk0:k≠0)
  (h9:∀ W,Below w.heap.size w W->Calls prog 9 #[.agg #[.int .i64 a,.slice q1 n1 c1,.slice q2 n2 c2,.slice q n c]] W λe W'=>e=.returned (.int .i64 k)/\Below W.heap.size W W') :
  Calls prog 12 #[.agg #[.int .i64 a,.slice q1 n1 c1,.slice q2 n2 c2,.slice q n c],.int .i64 cl,.int .i64 s] w λe W=>e=.returned (.agg #[.int .i64 k,.int .i64 0])/\Below w.heap.size w W:=by
 generalize hW0:(w.alloc (.cells #[.int .i64 a,.slice q1 n1 c1,.slice q2 n2 c2,.slice q n c] 37)).alloc (.cells #[.int .i64 0,.int .i64 0] 42)=W0
 have hB0:Below w.heap.size w W0:=by subst hW0;exact(((Below.refl w.heap.size w).alloc (aU _) _).alloc (by simp) _)
 have b00:W0.heap[w.heap.size]?=some (.cells #[.int .i64 a,.slice q1 n1 c1,.slice q2 n2 c2,.slice q n c] 37 (0,0)):=by subst hW0;exact heap_alloc2_old w _ _
 have b01:W0.heap[w.heap.size+1]?=some (.cells #[.int .i64 0,.int .i64 0] 42 (0,0)):=by subst hW0;exact heap_alloc2_new w _ _
 have hs0:W0.heap.size=w.heap.size+2:=by subst hW0;simp
 have k00:W0.cell? ⟨w.heap.size,0,none⟩=some (.int .i64 a):=(cell_of_row _ _ _ _ 37 (0,0) b00).trans rfl;have k01:W0.cell? ⟨w.heap.size,1,none⟩=some (.slice q1 n1 c1):=(cell_of_row _ _ _ _ 37 (0,0) b00).trans rfl;have k02:W0.cell? ⟨w.heap.size,2,none⟩=some (.slice q2 n2 c2):=(cell_of_row _ _ _ _ 37 (0,0) b00).trans rfl;have k03:W0.cell? ⟨w.heap.size,3,none⟩=some (.slice q n c):=(cell_of_row _ _ _ _ 37 (0,0) b00).trans rfl;have h9':=h9 W0 hB0
 go_enter func12,ntmps12
 go_wp2_with (go_at_call 9;(first | rw[hW0] | skip);refine h9'.mono ?_;clear h9';rintro e w1 ⟨rfl,hB1⟩;have r1:w1.heap[w.heap.size+1]?=some (.cells #[.int .i64 0,.int .i64 0] 42 (0,0)):=(hB1.block _ (by omega)).trans b01;have r10:w1.cell? ⟨w.heap.size+1,0,none⟩=some (.int .i64 0):=(cell_of_row _ _ _ _ 42 (0,0) r1).trans rfl;have r11:w1.cell? ⟨w.heap.size+1,1,none⟩=some (.int .i64 0):=(cell_of_row _ _ _ _ 42 (0,0) r1).trans rfl;have f0:w1.frozen? ⟨w.heap.size+1,0,none⟩=false:=frozen_of_row _ _ _ _ 42 r1;have f1:w1.frozen? ⟨w.heap.size+1,1,none⟩=false:=frozen_of_row _ _ _ _ 42 r1)
 obtain⟨y1,y2⟩:=aJJ w1 (w.heap.size+1) (.int .i64 k) (.int .i64 0) _ _ r1;have y3:=y2 w.heap.size w (by omega) (hB0.trans (hB1.mono hB0.size))
 generalize ((w1.setCell ⟨w.heap.size+1,0,none⟩ (.int .i64 k)).setCell ⟨w.heap.size+1,1,none⟩ (.int .i64 0))=Wf at y1 y3 ⊢
 have z0:Wf.cell? ⟨w.heap.size+1,0,none⟩=some (.int .i64 k):=(cell_of_row _ _ _ _ 42 (0,0) y1).trans rfl;have z1:Wf.cell? ⟨w.heap.size+1,1,none⟩=some (.int .i64 0):=(cell_of_row _ _ _ _ 42 (0,0) y1).trans rfl;refine bodyPost_ret (v:=.agg #[.int .i64 k,.int .i64 0]) ?_ rfl ⟨rfl,y3⟩;simp[results,show f12.results=#[.cell 6 42] from rfl,go_sem,z0,z1]
set_option maxRecDepth 100000 in
set_option maxHeartbeats 8000000 in
theorem aFw (a:Int)(q1 q2 q:Option Addr)(n1 n2 c1 c2 c:Nat)(xs:List Ss)(hn:xs.length<=40)(w:World)(cl s:Int)
  (hwf:∀ x∈xs,(Lit.int .i64 x.1).wf=true) (hcl:(Lit.int .i64 cl).wf=true)
  (hq:xs.length≠0->∃ b off,q=some ⟨b,off,none⟩/\b < w.heap.size/\∀ j,j < xs.length->w.cell? ⟨b,off+j * 3,none⟩=some (.int .i64 (xs.getD j hI).1)/\w.cell? ⟨b,off+j * 3+1,none⟩=some (.int .i64 (xs.getD j hI).2.1)/\w.cell? ⟨b,off+j * 3+2,none⟩=some (.int .i64 (xs.getD j hI).2.2))
  (h9:∀ W,Below w.heap.size w W->Calls prog 9 #[.agg #[.int .i64 a,.slice q1 n1 c1,.slice q2 n2 c2,.slice q xs.length c]] W λe W'=>e=.returned (.int .i64 0)/\Below W.heap.size W W') :
  Calls prog 12 #[.agg #[.int .i64 a,.slice q1 n1 c1,.slice q2 n2 c2,.slice q xs.length c],.int .i64 cl,.int .i64 s] w λe W=>e=.returned (.agg #[.int .i64 (rp (has (bag xs) (kL cl)) (lV cl xs hI) s).1,.int .i64 (rp (has (bag xs) (kL cl)) (lV cl xs hI) s).2])/\Below w.heap.size w W:=by
 generalize hW0:(w.alloc (.cells #[.int .i64 a,.slice q1 n1 c1,.slice q2 n2 c2,.slice q xs.length c] 37)).alloc (.cells #[.int .i64 0,.int .i64 0] 42)=W0
 have hB0:Below w.heap.size w W0:=by subst hW0;exact(((Below.refl w.heap.size w).alloc (aU _) _).alloc (by simp) _)
 have b00:W0.heap[w.heap.size]?=some (.cells #[.int .i64 a,.slice q1 n1 c1,.slice q2 n2 c2,.slice q xs.length c] 37 (0,0)):=by subst hW0;exact heap_alloc2_old w _ _
 have b01:W0.heap[w.heap.size+1]?=some (.cells #[.int .i64 0,.int .i64 0] 42 (0,0)):=by subst hW0;exact heap_alloc2_new w _ _
 have hs0:W0.heap.size=w.heap.size+2:=by subst hW0;simp
 have k00:W0.cell? ⟨w.heap.size,0,none⟩=some (.int .i64 a):=(cell_of_row _ _ _ _ 37 (0,0) b00).trans rfl;have k01:W0.cell? ⟨w.heap.size,1,none⟩=some (.slice q1 n1 c1):=(cell_of_row _ _ _ _ 37 (0,0) b00).trans rfl;have k02:W0.cell? ⟨w.heap.size,2,none⟩=some (.slice q2 n2 c2):=(cell_of_row _ _ _ _ 37 (0,0) b00).trans rfl;have k03:W0.cell? ⟨w.heap.size,3,none⟩=some (.slice q xs.length c):=(cell_of_row _ _ _ _ 37 (0,0) b00).trans rfl;have h9':=h9 W0 hB0;have hat:(bag xs).atKey (kL cl) (sJ hI)=sJ (lV cl xs hI):=aE8 cl hI xs _ hI isMap_empty rfl
 generalize lV cl xs hI=X at hat ⊢
 obtain⟨x0,x1,x2⟩:=X;have h26:∀ w1,Below W0.heap.size W0 w1->Calls prog 26 #[.agg #[.int .i64 a,.slice q1 n1 c1,.slice q2 n2 c2,.slice q xs.length c]] w1 λe W=>e=.returned (.map (some (w1.heap.size+1)))/\W.ownsMap prog 2 ssR (w1.heap.size+1) 40 (bag xs)/\Below w1.heap.size w1 W:=λw1 hB1=>by
  have hB:=hB0.trans (hB1.mono hB0.size);refine aK8 a q1 q2 q n1 n2 c1 c2 c xs hn w1 hwf λh=>?_
  obtain⟨b,off,hb,hl,hc⟩:=hq h;exact⟨b,off,hb,bK hl hB.size,λj hj=>⟨(hB.cell hl).trans (hc j hj).1,(hB.cell hl).trans (hc j hj).2.1,(hB.cell hl).trans (hc j hj).2.2⟩⟩
 have h27:∀ (mb:Nat) (w2:World),w2.ownsMap prog 2 ssR mb 40 (bag xs)->_:=λmb w2 hown=>aFv mb 40 (bag xs) cl s x0 x1 x2 w2 hcl hown hat
 generalize rp (has (bag xs) (kL cl)) (x0,x1,x2) s=r at h27 ⊢
 obtain⟨r0,r1'⟩:=r
 go_enter func12,ntmps12
 go_wp2_with (first
  | (go_at_call 9;(first | rw[hW0] | skip);refine h9'.mono ?_;clear h9';rintro e w1 ⟨rfl,hB1⟩;have l00:=(hB1.cell (by show w.heap.size < _;omega)).trans k00;have l01:=(hB1.cell (by show w.heap.size < _;omega)).trans k01;have l02:=(hB1.cell (by show w.heap.size < _;omega)).trans k02;have l03:=(hB1.cell (by show w.heap.size < _;omega)).trans k03;have h26':=h26 w1 hB1)
  | (go_at_call 26;refine h26'.mono ?_;clear h26';rintro e w2 ⟨rfl,hown,hB2⟩;have h27':=h27 _ w2 hown)
  | (go_at_call 27;refine h27'.mono ?_;clear h27';rintro e w3 ⟨rfl,hB3⟩;have hs1:=hB1.size;have hs2:=hB2.size;have r1:w3.heap[w.heap.size+1]?=some (.cells #[.int .i64 0,.int .i64 0] 42 (0,0)):=(hB3.block _ (by omega)).trans ((hB2.block _ (by omega)).trans ((hB1.block _ (by omega)).trans b01));have r10:w3.cell? ⟨w.heap.size+1,0,none⟩=some (.int .i64 0):=(cell_of_row _ _ _ _ 42 (0,0) r1).trans rfl;have r11:w3.cell? ⟨w.heap.size+1,1,none⟩=some (.int .i64 0):=(cell_of_row _ _ _ _ 42 (0,0) r1).trans rfl;have f0:w3.frozen? ⟨w.heap.size+1,0,none⟩=false:=frozen_of_row _ _ _ _ 42 r1;have f1:w3.frozen? ⟨w.heap.size+1,1,none⟩=false:=frozen_of_row _ _ _ _ 42 r1))
 obtain⟨y1,y2⟩:=aJJ w3 (w.heap.size+1) (.int .i64 r0) (.int .i64 r1') _ _ r1;have y3:=y2 w.heap.size w (by omega) (hB0.trans ((hB1.trans ((hB2.trans (hB3.mono hB2.size)).mono hB1.size)).mono hB0.size))
 generalize ((w3.setCell ⟨w.heap.size+1,0,none⟩ (.int .i64 r0)).setCell ⟨w.heap.size+1,1,none⟩ (.int .i64 r1'))=Wf at y1 y3 ⊢
 have z0:Wf.cell? ⟨w.heap.size+1,0,none⟩=some (.int .i64 r0):=(cell_of_row _ _ _ _ 42 (0,0) y1).trans rfl;have z1:Wf.cell? ⟨w.heap.size+1,1,none⟩=some (.int .i64 r1'):=(cell_of_row _ _ _ _ 42 (0,0) y1).trans rfl;refine bodyPost_ret (v:=.agg #[.int .i64 r0,.int .i64 r1']) ?_ rfl ⟨rfl,y3⟩;simp[results,show f12.results=#[.cell 6 42] from rfl,go_sem,z0,z1]
end
end Go.Proofs.Try
