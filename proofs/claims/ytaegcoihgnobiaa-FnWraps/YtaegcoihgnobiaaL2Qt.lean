/- A part of the proof of FnWraps: L2Qt, L2Qv, L2Qx. -/
import Derived.Test.YtaegcoihgnobiaaL2Base
import Derived.Test.YtaegcoihgnobiaaVmGt
import Derived.WalkKit
import Derived.OwnWalkIn
import Derived.Below
import Derived.WalkMore
import Derived.Maps.AppendAt
import Derived.Test.YtaegcoihgnobiaaVmJ
import Derived.Test.YtaegcoihgnobiaaL2Pm
set_option linter.unusedSimpArgs false
set_option linter.unusedVariables false
namespace Go.Proofs.Try
open Go Go.VM Go.RowKit
theorem aJw:(prog.info? 5).map (λi=>(i.zero.isSome,(i.zero.getD .nilFunc).cells.size,i.size,i.bytes))=some (true,1,1,1):=by kernel_rfl
theorem aHk:∃ i z,prog.info? 5=some i/\i.zero=some z/\z.cells.size=1/\i.size=1/\i.bytes=1:=by
 have h:=aJw;cases hi:prog.info? 5 with
 | none=>rw[hi]at h;simp at h
 | some i=>
  rw[hi]at h;simp only[aF,aA,aK]at h;obtain⟨h1,h2,h3,h4⟩:=h;cases hz:i.zero with
  | none=>rw[hz]at h1;simp at h1
  | some z=>exact⟨i,z,rfl,hz,by rw[hz]at h2;simpa using h2,h3,h4⟩
abbrev bV (xs:List Int):List Value:=xs.map (.int .u8)
theorem kZ {w:World}{B gb n cap:Nat}{xs:List Int}(h:w.ownsRow B 5 1 (.slice (some ⟨gb,0,none⟩) n cap) n (bV xs)){i:Nat}(hi:i < n):w.cell? ⟨gb,i,none⟩=some (.int .u8 (xs.getD i 0))/\w.frozen? ⟨gb,i,none⟩=false/\B<=gb:=by
 obtain⟨cur,hg,hs,hB,hn,hm,ht⟩:=eD h;refine⟨?_,frozen_of_row _ _ _ _ 5 hg,hB⟩;rw[cell_of_row _ _ _ _ 5 (0,0) hg,<-Array.getElem?_toList];have hl:(bV xs).length=n:=by have:=h.1;simpa using this
 have hx:i < xs.length:=by simpa[bV]using(show i < (bV xs).length by omega)
 have e:(bV xs)[i]?=some (.int .u8 (xs.getD i 0)):=by simp[bV,aL,aC hx,List.getD]
 rw[ht,cA,if_pos (by omega)]at e;exact e
theorem aCz {w:World}{B gb n cap:Nat}{xs:List Int}(h:w.ownsRow B 5 1 (.slice (some ⟨gb,0,none⟩) n cap) n (bV xs)){i:Nat}(hi:i < n)(v:Int):(w.setCell ⟨gb,i,none⟩ (.int .u8 v)).ownsRow B 5 1 (.slice (some ⟨gb,0,none⟩) n cap) n (bV (xs.set i v))/\Kept (λb=>w.heap.size<=b\/b=gb) w (w.setCell ⟨gb,i,none⟩ (.int .u8 v)):=by
 obtain⟨cur,hg,hs,hB,hn,hm,ht⟩:=eD h;have hl:(bV xs).length=n * 1:=h.1;refine⟨⟨by simpa[bV]using hl,.inr ⟨gb,cap,cur.setIfInBounds i (.int .u8 v),rfl,hB,heap_setCell_same w gb i cur 5 _ hg,hn,hm,by simp[hs],?_⟩⟩,⟨rfl,rfl,rfl,by simp[World.setCell],λk hk=>by simp only[World.setCell];rw[Array.getElem?_modify,if_neg (by omega)]⟩⟩;rw[Array.toList_setIfInBounds,List.take_set,<-ht];simp[bV,List.map_set]
theorem aEh {w:World}{B gb n cap:Nat}{xs:List Int}(h:w.ownsRow B 5 1 (.slice (some ⟨gb,0,none⟩) n cap) n (bV xs)){i:Nat}(hi:i<=n):w.ownsRow B 5 1 (.slice (some ⟨gb,0,none⟩) i cap) i (bV (xs.take i)):=by
 obtain⟨cur,hg,hs,hB,hn,hm,ht⟩:=eD h;have hl:(bV xs).length=n * 1:=h.1;have hx:xs.length=n:=by simpa[bV]using hl
 refine⟨by simp[bV,hx];omega,.inr ⟨gb,cap,cur,rfl,hB,hg,by omega,hm,hs,?_⟩⟩;rw[show bV (xs.take i)=(bV xs).take i by simp[bV,kR],ht,List.take_take];congr 1;omega
section
attribute [local go_sem] Oper.semAt_some
set_option maxRecDepth 100000 in
set_option maxHeartbeats 8000000 in
theorem aGT (g gb n cap:Nat)(xs:List Int)(W:World)(S:Nat->World->Prop)(q:Bool)(i k v:Int)(hn:0 < n)(hn2:n<=1000000)(hxs:xs.length=n)(hi0:0<=i)(hi1:i < n)
  (hW:S 0 W)
  (hrow:∀ j w,S j w->w.ownsRow gb 5 1 (.slice (some ⟨gb,0,none⟩) n cap) n (bV xs))
  (h55:∀ w,S 0 w->Calls prog 55 #[.pointer (some ⟨g,0,none⟩),.int .i64 3] w λe w'=>e=.returned (.bool q)/\S 1 w')
  (h56a:∀ w,S 1 w->Calls prog 56 #[.pointer (some ⟨g,0,none⟩),.int .i64 n] w λe w'=>e=.returned (.int .i64 i)/\S 2 w')
  (h56b:∀ w,S 2 w->Calls prog 56 #[.pointer (some ⟨g,0,none⟩),.int .i64 3] w λe w'=>e=.returned (.int .i64 k)/\S 3 w')
  (h56c:∀ w,S 3 w->Calls prog 56 #[.pointer (some ⟨g,0,none⟩),.int .i64 256] w λe w'=>e=.returned (.int .i64 v)/\S 4 w')
  (R:List Int) (J:Nat) (r1:q=false->R=xs/\J=1) (r2:q=true->k=0->R=xs.set i.toNat (v % 256)/\J=4) (r3:q=true->k=1->R=xs.take i.toNat/\J=3) (r4:q=true->k=2->R=xs++[0]/\J=3) (r5:q=true->k≠0->k≠1->k≠2->R=xs/\J=3) :
  Calls prog 42 #[.pointer (some ⟨g,0,none⟩),.slice (some ⟨gb,0,none⟩) n cap] W λe w'=>∃ b2 c2,e=.returned (.slice (some ⟨b2,0,none⟩) R.length c2)/\w'.ownsRow b2 5 1 (.slice (some ⟨b2,0,none⟩) R.length c2) R.length (bV R)/\∃ w2,S J w2/\Kept (λb=>w2.heap.size<=b\/b=gb) w2 w'/\(b2=gb\/w2.heap.size<=b2):=by
 have hn0:((n:Int) == 0)=false:=by simp;omega
 cases q with
 | false=>
  obtain⟨rfl,rfl⟩:=r1 rfl
  go_enter func42,ntmps42
  go_wp2_with (first
   | (go_at_call 55;refine(h55 _ hW).mono ?_;rintro e w1 ⟨rfl,hS1⟩))
  refine bodyPost_ret (v:=.slice (some ⟨gb,0,none⟩) n cap) ?_ rfl ⟨gb,cap,by rw[hxs],by rw[hxs];exact hrow _ _ hS1,w1,hS1,Kept.refl _ _,.inl rfl⟩;simp[results,show f42.results=#[.tmp 4] from rfl,go_sem]
 | true=>
  by_cases k0:k=0
  ·obtain⟨rfl,rfl⟩:=r2 rfl k0;subst k0
   go_enter func42,ntmps42
   go_wp2_with (first
    | (go_at_call 55;refine(h55 _ hW).mono ?_;rintro e w1 ⟨rfl,hS1⟩)
    | (go_at_call 56;first | (refine(h56a _ hS1).mono ?_;rintro e w2 ⟨rfl,hS2⟩;clear h56a) | (refine(h56b _ hS2).mono ?_;rintro e w3 ⟨rfl,hS3⟩;clear h56b) | (refine(h56c _ hS3).mono ?_;rintro e w4 ⟨rfl,hS4⟩;obtain⟨hc1,hf1,hB1⟩:=kZ (hrow _ _ hS4) (i:=i.toNat) (by omega))))
   obtain⟨hr2,hb2⟩:=aCz (hrow _ _ hS4) (i:=i.toNat) (by omega) (v % 256);refine bodyPost_ret (v:=.slice (some ⟨gb,0,none⟩) n cap) ?_ rfl ⟨gb,cap,by rw[cJ,hxs],by rw[show(xs.set i.toNat (v % 256)).length=n by rw[cJ];exact hxs];exact hr2,w4,hS4,hb2,.inl rfl⟩;simp[results,show f42.results=#[.tmp 4] from rfl,go_sem]
  by_cases k1:k=1
  ·obtain⟨rfl,rfl⟩:=r3 rfl k1;subst k1
   go_enter func42,ntmps42
   go_wp2_with (first
    | (go_at_call 55;refine(h55 _ hW).mono ?_;rintro e w1 ⟨rfl,hS1⟩)
    | (go_at_call 56;first | (refine(h56a _ hS1).mono ?_;rintro e w2 ⟨rfl,hS2⟩;clear h56a) | (refine(h56b _ hS2).mono ?_;rintro e w3 ⟨rfl,hS3⟩;clear h56b;have hcap:n<=cap:=(by obtain⟨_,_,_,_,h,_⟩:=eD (hrow _ _ hS3);exact h))))
   refine bodyPost_ret (v:=.slice (some ⟨gb,0,none⟩) i.toNat cap) ?_ rfl ⟨gb,cap,by rw[show(xs.take i.toNat).length=i.toNat by rw[cF];omega],by rw[show(xs.take i.toNat).length=i.toNat by rw[cF];omega];exact aEh (hrow _ _ hS3) (by omega),w3,hS3,Kept.refl _ _,.inl rfl⟩;simp[results,show f42.results=#[.tmp 4] from rfl,go_sem]
  by_cases k2:k=2
  ·obtain⟨rfl,rfl⟩:=r4 rfl k2;subst k2;obtain⟨i5,z5,hi5,hz5,hz2,hz3,hz1⟩:=aHk
   go_enter func42,ntmps42
   go_wp2_with (first
    | (go_at_call 55;refine(h55 _ hW).mono ?_;rintro e w1 ⟨rfl,hS1⟩)
    | (go_at_call 56;first | (refine(h56a _ hS1).mono ?_;rintro e w2 ⟨rfl,hS2⟩;clear h56a) | (refine(h56b _ hS2).mono ?_;rintro e w3 ⟨rfl,hS3⟩;clear h56b;have hr3:=hrow _ _ hS3;have hB3:gb<=w3.heap.size:=(by obtain⟨_,h,_⟩:=eD hr3;exact Nat.le_of_lt (bE.1 h).1)))
    | (at_builtin;go_loud (refine wpList_append_own_at _ rfl _ _ 22 rfl gb 5 i5 z5 1 1 underlying22 hi5 hz5 hz3 hz1 hz2 (by decide) _ _ _ rfl (hr3.alloc _) ⟨w3.heap.size,0,none⟩ 1 1 [.int .u8 0] rfl rfl (cell_one_new _ _ _) (by simp[Value.oneCell']) (by unfold maxLen;omega) (by omega) (by simp;omega) ?_;intro v' w4 hown' hgro _ hat)))
   have hgro:(w3.alloc (.cells #[.int .u8 0] 5)).grownBy w4 (some gb):=hgro;have hkp:Kept (λb=>w3.heap.size<=b\/b=gb) w3 w4:=by
    refine⟨hgro.os,hgro.tape,hgro.output,?_,λk hk=>?_⟩
    ·have:=hgro.size;simp only[World.alloc,Array.size_push]at this;omega
    ·have hk1:k < w3.heap.size:=by omega
     have:=hgro.block k (by simp only[World.alloc,Array.size_push];omega) (by intro e;injection e with e;omega);rw[this];simp only[World.alloc];rw[Array.getElem?_push_lt hk1,<-dX hk1]
   have e1:(xs++[0]).length=n+1:=by simp[hxs]
   obtain⟨hl1,⟨_,hz⟩ | ⟨b2,c2,cur2,rfl,q1,q2,q3,q4,q5,q6⟩⟩:=hown'
   ·omega
   have hat2:b2=gb\/w3.heap.size<=b2:=by
    rcases hat with h | h
    ·exact .inl (jE h)
    ·have h:b2=(w3.alloc (.cells #[.int .u8 0] 5)).heap.size:=jE h;simp only[World.alloc,Array.size_push]at h;exact .inr (by omega)
   have hfin:w4.ownsRow b2 5 1 (.slice (some ⟨b2,0,none⟩) (xs++[0]).length c2) (xs++[0]).length (bV (xs++[0])):=by
    rw[e1,show bV (xs++[0])=bV xs++[.int .u8 0]by simp[bV]];exact⟨hl1,.inr ⟨b2,c2,cur2,rfl,aS _,q2,q3,q4,q5,q6⟩⟩
   refine bodyPost_ret (v:=.slice (some ⟨b2,0,none⟩) (n+1) c2) ?_ rfl ⟨b2,c2,by rw[e1],hfin,w3,hS3,hkp,hat2⟩;simp[results,show f42.results=#[.tmp 4] from rfl,go_sem]
  ·obtain⟨rfl,rfl⟩:=r5 rfl k0 k1 k2
   go_enter func42,ntmps42
   go_wp2_with (first
    | (go_at_call 55;refine(h55 _ hW).mono ?_;rintro e w1 ⟨rfl,hS1⟩)
    | (go_at_call 56;first | (refine(h56a _ hS1).mono ?_;rintro e w2 ⟨rfl,hS2⟩;clear h56a) | (refine(h56b _ hS2).mono ?_;rintro e w3 ⟨rfl,hS3⟩;clear h56b)))
   refine bodyPost_ret (v:=.slice (some ⟨gb,0,none⟩) n cap) ?_ rfl ⟨gb,cap,by rw[hxs],by rw[hxs];exact hrow _ _ hS3,w3,hS3,Kept.refl _ _,.inl rfl⟩;simp[results,show f42.results=#[.tmp 4] from rfl,go_sem]
end
end Go.Proofs.Try
namespace Go.Proofs.Try
open Go Go.VM Go.RowKit
theorem vM {W:World}{b:Nat}{o:Obj}(h:W.heap[b]?=some o):b < W.heap.size:=(bE.1 h).1
def Bq (W:World)(g:Nat)(S:Nat->Prop)(c:List Int)(a:Int):Prop:=∃ cur t,W.heap[g]?=some (.cells cur t (0,0))/\ArgA bH W S (.inr [ls (ro 5 c),lv (.int .i64 a)]) (.agg cur)
theorem sL {W W':World}{S S':Nat->Prop}{c:List Int}{a:Int}{cur:Array Value}(hw:∀ b,S b->W'.heap[b]?=W.heap[b]?)(hS:∀ b,S b->S' b)(h:ArgA bH W S (.inr [ls (ro 5 c),lv (.int .i64 a)]) (.agg cur)) :
  ArgA bH W' S' (.inr [ls (ro 5 c),lv (.int .i64 a)]) (.agg cur):=by
 obtain⟨us,hu,hl,h⟩:=h;refine⟨us,hu,hl,λj x u e1 e2=>?_⟩;have:=h j x u e1 e2
 match j with
 | 0=>
  simp only[aI,aA]at e1;subst e1;obtain⟨h1,n,h2⟩:=this;exact⟨h1,n,RepL_mono bH hw hS _ _ _ h2⟩
 | 1=>
  simp only[bX,aI,aA]at e1;subst e1;exact this
 | j+2=>simp at e1
theorem Bq.mono {W W':World}{g:Nat}{S S':Nat->Prop}{c:List Int}{a:Int}(h:Bq W g S c a)(hg:W'.heap[g]?=W.heap[g]?)(hw:∀ b,S b->W'.heap[b]?=W.heap[b]?)(hS:∀ b,S b->S' b):Bq W' g S' c a:=by
 obtain⟨cur,t,h1,h2⟩:=h;exact⟨cur,t,hg.trans h1,sL hw hS h2⟩
theorem aE4 {W:World}{A0 N:Nat->Prop}{X:A bH.ty}{c:List Int}{a:Int}{x:Value}{cur:Array Value}(h:ResV bH W A0 N (.inr (.inl [X,.inr [ls (ro 5 c),lv (.int .i64 a)]])) (.tuple ([x]++[Value.agg cur]).toArray)) :
  ∃ f0 S,ResA bH W S X x f0/\f0.Nodup/\(∀ b∈f0,N b/\b < W.heap.size)/\ArgA bH W (λb=>A0 b\/(N b/\b < W.heap.size/\b∉f0)) (.inr [ls (ro 5 c),lv (.int .i64 a)]) (.agg cur)/\(∀ b,S b->A0 b\/(N b/\b < W.heap.size)):=by
 obtain⟨fp,hnd,hN,us,fps,hu,hfp,hl,hf,h⟩:=h;have hu:[x,Value.agg cur]=us:=by simpa using hu
 subst hu
 match fps,hf with
 | [f0,f1],_=>
  have h0:=h 0 X x f0 rfl rfl rfl;have h1:=h 1 _ (Value.agg cur) f1 rfl rfl rfl;have hsub:∀ b∈f0,b∈fp:=λb hb=>by rw[hfp];simp[hb]
  refine⟨f0,_,h0,?_,λb hb=>hN b (hsub b hb),?_,λb hb=>hb.imp id λh=>⟨h.1,h.2.1⟩⟩
  ·rw[hfp]at hnd;simp only[bF]at hnd;exact(aE.1 hnd).1
  ·obtain⟨us2,fps2,hu2,_,hl2,hf2,h2⟩:=h1;refine⟨us2,hu2,hl2,λj y u e1 e2=>?_⟩;have hj:j < fps2.length:=by
    rw[hf2];exact(aG.1 e1).1
   have h3:=h2 j y u fps2[j] e1 e2 (aC hj)
   match j with
   | 0=>
    simp only[aI,aA]at e1;subst e1;obtain⟨k1,_,n,k2⟩:=h3;exact⟨k1,n,RepL_mono bH (λ_ _=>rfl) (λb hb=>hb.imp id λh=>⟨h.1,h.2.1,λhm=>h.2.2 (hsub b hm)⟩) _ _ _ k2⟩
   | 1=>
    simp only[bX,aI,aA]at e1;subst e1;exact h3.1
   | j+2=>simp at e1
theorem aE0 {f:FuncId}{X:A bH.ty}{F:List (A bH.ty)->Option (Bool×List (A bH.ty))}(hf:SatP prog bH f 1 F){W:World}{g:Nat}{S:Nat->Prop}{c:List Int}{a a2:Int}(hB:Bq W g S c a)(hS:∀ b,S b->b < W.heap.size/\b≠g)(l:List (A bH.ty))(us:List Value)
  (hl:ArgAs bH W S l us) (hF:F (.inr [ls (ro 5 c),lv (.int .i64 a)]::l)=some (true,[X,.inr [ls (ro 5 c),lv (.int .i64 a2)]])) :
  Calls prog f (.pointer (some ⟨g,0,none⟩)::us).toArray W λe W'=>∃ x f0 S',e=.returned x/\ResA bH W' S' X x f0/\f0.Nodup/\(∀ b∈f0,W.heap.size<=b/\b < W'.heap.size)/\Bq W' g (λb=>S b\/(W.heap.size<=b/\b < W'.heap.size/\b∉f0)) c a2/\Kept (λb=>W.heap.size<=b\/b=g) W W'/\(∀ b,S' b->S b\/(W.heap.size<=b/\b < W'.heap.size)):=by
 obtain⟨cur,t,hg,hA⟩:=hB;refine(hf W S g cur t [ls (ro 5 c),lv (.int .i64 a)] l us _ hS hg hA rfl hl hF).mono ?_;rintro e W' ⟨rs,cur',rfl,hr,⟨t',hg'⟩,hk,hR⟩
 match rs,hr with
 | [x],_=>
  obtain⟨f0,S',h0,h1,h2,h3,h4⟩:=aE4 hR;exact⟨x,f0,S',rfl,h0,h1,h2,⟨cur',t',hg',h3⟩,hk,h4⟩
theorem aC9 {f:FuncId}{v:Value}{F:List (A bH.ty)->Option (Bool×List (A bH.ty))}(hf:SatP prog bH f 1 F){W:World}{g:Nat}{S:Nat->Prop}{c:List Int}{a a2:Int}(hB:Bq W g S c a)(hS:∀ b,S b->b < W.heap.size/\b≠g)(l:List (A bH.ty))(us:List Value)
  (hl:ArgAs bH W S l us) (hF:F (.inr [ls (ro 5 c),lv (.int .i64 a)]::l)=some (true,[.inl (lv v),.inr [ls (ro 5 c),lv (.int .i64 a2)]])) :
  Calls prog f (.pointer (some ⟨g,0,none⟩)::us).toArray W λe W'=>e=.returned v/\Bq W' g (λb=>S b\/(W.heap.size<=b/\b < W'.heap.size)) c a2/\Kept (λb=>W.heap.size<=b\/b=g) W W':=by
 refine(aE0 hf hB hS l us hl hF).mono ?_;rintro e W' ⟨x,f0,S',rfl,h0,h1,h2,h3,h4,h5⟩;have h0:x=v/\f0=[]:=h0;obtain⟨rfl,rfl⟩:=h0;exact⟨rfl,h3.mono rfl (λ_ _=>rfl) (λb hb=>hb.imp id λh=>⟨h.1,h.2.1⟩),h4⟩
theorem aGO {W:World}{S:Nat->Prop}(n:Int):ArgAs bH W S [.inl (lv (.int .i64 n))] [.int .i64 n]:=⟨rfl,λj a u h1 h2=>by
 cases j with
 | zero=>
  simp only[aI,aA]at h1 h2;subst h1;subst h2;exact rfl
 | succ j=>simp at h1⟩
theorem uY {W W':World}{gb n cap:Nat}{vs:List Value}(h:W.ownsRow gb 5 1 (.slice (some ⟨gb,0,none⟩) n cap) n vs)(he:W'.heap[gb]?=W.heap[gb]?):W'.ownsRow gb 5 1 (.slice (some ⟨gb,0,none⟩) n cap) n vs:=by
 obtain⟨cur,hg,hs,hB,hn,hm,ht⟩:=eD h;exact⟨h.1,.inr ⟨gb,cap,cur,rfl,hB,he.trans hg,hn,hm,hs,ht.symm⟩⟩
theorem oC {W:World}{gb n cap:Nat}{vs:List Value}(h:W.ownsRow gb 5 1 (.slice (some ⟨gb,0,none⟩) n cap) n vs):gb < W.heap.size:=by
 obtain⟨cur,hg,_⟩:=eD h;exact vM hg
structure Sq (w0:World) (A0:Nat->Prop) (g:Nat) (c:List Int) (gb n cap:Nat) (xs:List Int) (a:Int) (W:World):Prop where
 box:Bq W g (λb=>A0 b\/(w0.heap.size<=b/\b < W.heap.size/\b≠gb)) c a
 kept:Kept (λb=>w0.heap.size<=b\/b=g) w0 W
 row:W.ownsRow gb 5 1 (.slice (some ⟨gb,0,none⟩) n cap) n (bV xs)
 le:w0.heap.size<=gb
section
variable {w0 : World} {A0 : Nat → Prop} {g : Nat} {c : List Int} (hA : ∀ b, A0 b → b < w0.heap.size ∧ b ≠ g) (hg : g < w0.heap.size)
include hA hg
theorem Sq.draw {gb n cap:Nat}{xs:List Int}{a a2:Int}{W:World}{f:FuncId}{v:Value}{F:List (A bH.ty)->Option (Bool×List (A bH.ty))}(h:Sq w0 A0 g c gb n cap xs a W)(hf:SatP prog bH f 1 F)(l:List (A bH.ty))(us:List Value)(hl:∀ S,ArgAs bH W S l us)
  (hF:F (.inr [ls (ro 5 c),lv (.int .i64 a)]::l)=some (true,[.inl (lv v),.inr [ls (ro 5 c),lv (.int .i64 a2)]])):Calls prog f (.pointer (some ⟨g,0,none⟩)::us).toArray W λe W'=>e=.returned v/\Sq w0 A0 g c gb n cap xs a2 W':=by
 have hlt:=oC h.row;have hsz:=h.kept.size;have hle:=h.le;refine(aC9 hf h.box (λb hb=>?_) l us (hl _) hF).mono ?_
 ·rcases hb with hb | hb
  ·have:=hA b hb;omega
  ·omega
 rintro e W' ⟨rfl,h1,h2⟩;have h3:=h2.size;refine⟨rfl,h1.mono rfl (λ_ _=>rfl) (λb hb=>?_),h.kept.trans ?_,uY h.row (h2.block gb (by omega)),hle⟩
 ·rcases hb with(hb | hb) | hb
  ·exact .inl hb
  ·exact .inr ⟨hb.1,by omega,hb.2.2⟩
  ·exact .inr ⟨by omega,hb.2,by omega⟩
 ·exact⟨h2.os,h2.tape,h2.output,h2.size,λk hk=>h2.block k (by omega)⟩
theorem Sq.set {gb n cap:Nat}{xs:List Int}{a:Int}{W:World}(h:Sq w0 A0 g c gb n cap xs a W){i:Nat}(hi:i < n)(v:Int):Sq w0 A0 g c gb n cap (xs.set i v) a (W.setCell ⟨gb,i,none⟩ (.int .u8 v)):=by
 have hlt:=oC h.row;have hle:=h.le;have hsz:=h.kept.size;obtain⟨h1,h2⟩:=aCz h.row hi v;have h3:=h2.size;have he:∀ b,b < W.heap.size->b≠gb->(W.setCell ⟨gb,i,none⟩ (.int .u8 v)).heap[b]?=W.heap[b]?:=λb e1 e2=>h2.block b (by omega)
 refine⟨h.box.mono (he g (by omega) (by omega)) (λb hb=>?_) (λb hb=>?_),h.kept.trans ⟨h2.os,h2.tape,h2.output,h2.size,λk hk=>?_⟩,h1,hle⟩
 ·rcases hb with hb | hb
  ·have:=hA b hb;exact he b (by omega) (by omega)
  ·exact he b hb.2.1 hb.2.2
 ·exact hb.imp id λh=>⟨h.1,by omega,h.2.2⟩
 ·exact h2.block k (by omega)
end
end Go.Proofs.Try
namespace Go.Proofs.Try
open Go Go.VM Go.RowKit
def qZ (x:Src×List Int):Option (List Int×List Int×Int):=
 match pI (x.1,3)with
 | none=>none
 | some (q,c1,a1)=>if q=false then some (x.2,c1,a1)else
  match dF ((c1,a1),(x.2.length:Int))with
  | none=>none
  | some (i,c2,a2)=>
   match dF ((c2,a2),3)with
   | none=>none
   | some (k,c3,a3)=>if k=0 then
     match dF ((c3,a3),256)with
     | none=>none
     | some (v,c4,a4)=>some (x.2.set i.toNat (v % 256),c4,a4)
    else if k=1 then some (x.2.take i.toNat,c3,a3)else if k=2 then some (x.2++[0],c3,a3)else some (x.2,c3,a3)
def uT (q:Bool)(i k v:Int)(xs:List Int):List Int:=if q=false then xs else if k=0 then xs.set i.toNat (v % 256)else if k=1 then xs.take i.toNat else if k=2 then xs++[0]else xs
def xW (q:Bool)(k:Int):Nat:=if q=false then 1 else if k=0 then 4 else 3
theorem aCt {s:Src}{b:Int}(h:okZ s b)(hb:b<=900000000){xs:List Int}(h0:0 < xs.length):∃ q i k v,pI (s,3)=some (q,s.1,s.2+1)/\dF ((s.1,s.2+1),(xs.length:Int))=some (i,s.1,s.2+2)/\dF ((s.1,s.2+2),3)=some (k,s.1,s.2+3)/\dF ((s.1,s.2+3),256)=some (v,s.1,s.2+4) ∧
  0<=i/\i < xs.length/\qZ (s,xs)=some (uT q i k v xs,s.1,s.2+xW q k):=by
 obtain⟨q,e1⟩:=chance h (by omega) 3;have s1:=h.add (k:=1) (by omega);obtain⟨i,e2,_,r2⟩:=nx s1 (by omega) (xs.length:Int);have s2:=s1.add (k:=1) (by omega);obtain⟨k,e3,_⟩:=nx s2 (by omega) 3;have s3:=s2.add (k:=1) (by omega);obtain⟨v,e4,_⟩:=nx s3 (by omega) 256;simp only[rO,show(1:Int)+1=2 from rfl,show(1:Int)+2=3 from rfl,show(1:Int)+3=4 from rfl]at e1 e2 e3 e4;have r2:=r2 (by omega);refine⟨q,i,k,v,e1,e2,e3,e4,r2.1,r2.2,?_⟩;unfold qZ uT xW;rw[e1];simp only;by_cases hq:q=false
 ·rw[if_pos hq,if_pos hq,if_pos hq];rfl
 ·rw[if_neg hq,if_neg hq,if_neg hq,e2];simp only;rw[e3];simp only;by_cases h0:k=0
  ·rw[if_pos h0,if_pos h0,if_pos h0,e4];rfl
  ·rw[if_neg h0,if_neg h0,if_neg h0];by_cases h1:k=1
   ·rw[if_pos h1,if_pos h1];rfl
   ·rw[if_neg h1,if_neg h1];by_cases h2:k=2
    ·rw[if_pos h2,if_pos h2];rfl
    ·rw[if_neg h2,if_neg h2];rfl
theorem uS {q:Bool}{i k v:Int}{xs:List Int}(h:gE xs=true):gE (uT q i k v xs)=true/\(uT q i k v xs).length<=xs.length+1:=by
 unfold uT;split
 ·exact⟨h,by omega⟩
 split
 ·refine⟨?_,by simp⟩;refine aY.2 λx hx=>?_
  rcases List.mem_or_eq_of_mem_set hx with hx | rfl
  ·exact aY.1 h x hx
  ·have:0<=v % 256/\v % 256<=255:=by omega
   simp[this.1,this.2]
 split
 ·exact⟨kO h λx hx=>dA hx,by rw[cF];omega⟩
 split
 ·exact⟨fO h rfl,by simp⟩
 ·exact⟨h,by omega⟩
theorem aCA {W:World}{gb n cap:Nat}{xs:List Int}(h:W.ownsRow gb 5 1 (.slice (some ⟨gb,0,none⟩) n cap) n (bV xs)):xs.length=n:=by
 have:=h.1;simpa[bV]using this
section
variable {w0 : World} {A0 : Nat → Prop} {g : Nat} {c : List Int} (hA : ∀ b, A0 b → b < w0.heap.size ∧ b ≠ g) (hg : g < w0.heap.size)
include hA hg
theorem Sq.grow {gb n cap b2 m c2:Nat}{xs ys:List Int}{a:Int}{W W':World}(h:Sq w0 A0 g c gb n cap xs a W)(hk:Kept (λb=>W.heap.size<=b\/b=gb) W W')(hrow:W'.ownsRow b2 5 1 (.slice (some ⟨b2,0,none⟩) m c2) m (bV ys))(hb:b2=gb\/W.heap.size<=b2):Sq w0 A0 g c b2 m c2 ys a W':=by
 have hlt:=oC h.row;have hle:=h.le;have hsz:=h.kept.size;have h3:=hk.size;have he:∀ b,b < W.heap.size->b≠gb->W'.heap[b]?=W.heap[b]?:=λb e1 e2=>hk.block b (by omega)
 refine⟨h.box.mono (he g (by omega) (by omega)) (λb hb=>?_) (λb hb=>?_),h.kept.trans ⟨hk.os,hk.tape,hk.output,hk.size,λk hk'=>?_⟩,hrow,by omega⟩
 ·rcases hb with hb | hb
  ·have:=hA b hb;exact he b (by omega) (by omega)
  ·exact he b hb.2.1 hb.2.2
 ·exact hb.imp id λh=>⟨h.1,by omega,by omega⟩
 ·exact hk.block k (by omega)
theorem Sq.nx {gb n cap:Nat}{xs:List Int}{a a':Int}{W:World}(h:Sq w0 A0 g c gb n cap xs a W){m v:Int}(e:dF ((c,a),m)=some (v,c,a')):Calls prog 56 #[.pointer (some ⟨g,0,none⟩),.int .i64 m] W λe W'=>e=.returned (.int .i64 v)/\Sq w0 A0 g c gb n cap xs a' W':=
 h.draw hA hg uX [.inl (lv (.int .i64 m))] [.int .i64 m] (λS=>aGO m) (by
  show some ((dF ((c,a),m)).isSome,n56 ((dF ((c,a),m)).getD aH3))=_;rw[e];rfl)
theorem Sq.chance {gb n cap:Nat}{xs:List Int}{a a':Int}{W:World}(h:Sq w0 A0 g c gb n cap xs a W){m:Int}{v:Bool}(e:pI ((c,a),m)=some (v,c,a')):Calls prog 55 #[.pointer (some ⟨g,0,none⟩),.int .i64 m] W λe W'=>e=.returned (.bool v)/\Sq w0 A0 g c gb n cap xs a' W':=
 h.draw hA hg aGg [.inl (lv (.int .i64 m))] [.int .i64 m] (λS=>aGO m) (by
  show some ((pI ((c,a),m)).isSome,n55 ((pI ((c,a),m)).getD aH4))=_;rw[e];rfl)
theorem aD2 {gb n cap:Nat}{xs:List Int}{a:Int}{W:World}(h:Sq w0 A0 g c gb n cap xs a W)(hz:okZ (c,a) 900000000)(hn:0 < n)(hn2:n<=1000000) :
  Calls prog 42 #[.pointer (some ⟨g,0,none⟩),.slice (some ⟨gb,0,none⟩) n cap] W λe W'=>∃ R a2 b2 c2,qZ ((c,a),xs)=some (R,c,a2)/\e=.returned (.slice (some ⟨b2,0,none⟩) R.length c2)/\Sq w0 A0 g c b2 R.length c2 R a2 W':=by
 have hxs:=aCA h.row;obtain⟨q,i,k,v,e1,e2,e3,e4,i0,i1,eT⟩:=aCt hz (by omega) (xs:=xs) (by omega);simp only at e1 e2 e3 e4 eT;rw[hxs]at e2;refine(aGT g gb n cap xs W (λj w=>Sq w0 A0 g c gb n cap xs (a+(j:Int)) w) q i k v hn hn2 hxs i0 (by omega) (by simpa using h) (λj w hw=>hw.row)
  (λw hw=>?_) (λw hw=>?_) (λw hw=>?_) (λw hw=>?_) (uT q i k v xs) (xW q k) ?_ ?_ ?_ ?_ ?_).mono ?_
 ·exact Sq.chance hA hg (a:=a) (by simpa using hw) e1
 ·exact Sq.nx hA hg (a:=a+1) hw e2
 ·exact Sq.nx hA hg (a:=a+2) hw e3
 ·exact Sq.nx hA hg (a:=a+3) hw e4
 ·rintro rfl;exact⟨rfl,rfl⟩
 ·rintro rfl rfl;exact⟨rfl,rfl⟩
 ·rintro rfl rfl;exact⟨rfl,rfl⟩
 ·rintro rfl rfl;exact⟨rfl,rfl⟩
 ·rintro rfl h0 h1 h2;unfold uT xW;rw[if_neg (by decide),if_neg h0,if_neg h1,if_neg h2,if_neg (by decide),if_neg h0];exact⟨rfl,rfl⟩
 ·rintro e W' ⟨b2,c2,rfl,hrow,w2,hS,hk,hb⟩;exact⟨_,_,b2,c2,eT,rfl,hS.grow hA hg hk hrow hb⟩
end
end Go.Proofs.Try
