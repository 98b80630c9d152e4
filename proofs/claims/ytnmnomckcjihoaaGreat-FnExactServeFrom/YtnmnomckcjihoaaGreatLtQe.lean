/- A part of the proof of FnExactServeFrom: LtQe, LtQf, LtQga. -/
import Derived.Test.YtnmnomckcjihoaaGreatLtQa
set_option linter.unusedSimpArgs false
set_option linter.unusedVariables false
namespace Go.Proofs.Tryz
open Go Go.VM Go.RowKit
section
attribute [local go_sem] Oper.semAt_some jB jA
set_option maxRecDepth 100000 in
set_option maxHeartbeats 4000000 in
theorem aPq (k c d e f:Int)(hk:1<=k/\k<=9)(r0 r1 r2 r3 ap:Value)(o0 o1 o2 o3:Option Bool)(h0:Rl c r0 o0)(h1:Rl d r1 o1)(h2:Rl e r2 o2)(h3:Rl f r3 o3)
  (fa:Nat) (hap:ap=.func (.func fa) #[] #[]) (h111:CB 78 #[.int .i64 k] (.agg #[r0,r1,r2,r3,ap])) (w:World) :
  Calls prog 59 #[.agg #[.int .i64 k,.int .i64 (-1),.int .i64 c,.int .i64 d,.int .i64 e,.int .i64 f]] w λe' w'=>aFS [o0,o1,o2,o3] [c,d,e,f] e'/\Below w.heap.size w w':=by
 have hk1:¬ k < 1:=by omega
 have hk9:¬ 9 < k:=by omega
 subst hap;have hs0:=h0.store;have hs1:=h1.store;have hs2:=h2.store;have hs3:=h3.store;have hc0:r0.cells=#[r0]:=by cases h0<;>rfl
 have hc1:r1.cells=#[r1]:=by cases h1<;>rfl
 have hc2:r2.cells=#[r2]:=by cases h2<;>rfl
 have hc3:r3.cells=#[r3]:=by cases h3<;>rfl
 unfold Value.cells at hc0 hc1 hc2 hc3
 go_enter func59,ntmps59
 ·skip
  go_wp2_with (first | (go_at_call 78;refine(h111 _).mono ?_;rintro _ w1 ⟨rfl,hb1⟩;have c2:=λo=>(aCR hb1 o).1;have c3:=λo=>(aCR hb1 o).2.1;have c4:=λo=>(aCR hb1 o).2.2.1;have c5:=λo=>(aCR hb1 o).2.2.2;clear h111))
  have hs1':=hb1.size
  generalize hW:((w1.alloc (.cells #[r0,r1,r2,r3,.func (.func fa) #[] #[]] 111)).alloc (.cells #[.int .i64 c,.int .i64 d,.int .i64 e,.int .i64 f] 113)).alloc (.cells #[r0,r1,r2,r3] 114)=W2
  have hbW:Below w.heap.size w W2:=by
   rw[<-hW];exact((((((Below.refl _ w).alloc (aK _) _).trans (hb1.mono (by simp))).alloc (by simp at hs1';omega) _).alloc (by simp at hs1' ⊢;omega) _).alloc (by simp at hs1' ⊢;omega) _)
  have hfb:W2.heap[w1.heap.size+1]?=some (.cells #[.int .i64 c,.int .i64 d,.int .i64 e,.int .i64 f] 113 (0,0)):=by
   rw[<-hW];refine(Below.heap_alloc _ _ _ (by simp)).trans ?_;have:=World.alloc_heap_new (w1.alloc (.cells #[r0,r1,r2,r3,.func (.func fa) #[] #[]] 111)) (.cells #[.int .i64 c,.int .i64 d,.int .i64 e,.int .i64 f] 113)
   rwa [World.size_alloc]at this
  have hsz:w1.heap.size+1 < W2.heap.size:=(cP.1 hfb).1;have hrb:W2.heap[w1.heap.size+1+1]?=some (.cells #[r0,r1,r2,r3] 114 (0,0)):=by
   rw[<-hW];have:=World.alloc_heap_new ((w1.alloc (.cells #[r0,r1,r2,r3,.func (.func fa) #[] #[]] 111)).alloc (.cells #[.int .i64 c,.int .i64 d,.int .i64 e,.int .i64 f] 113)) (.cells #[r0,r1,r2,r3] 114)
   rwa [World.size_alloc,World.size_alloc]at this
  have hsz2:w1.heap.size+1+1 < W2.heap.size:=(cP.1 hrb).1;have hx0:∀ w,Sem.run prog (Instr.index 114 (.agg #[r0,r1,r2,r3]) (.int .i64 0)) w=.ok r0 w:=λw=>by kernel_rfl
  have hx1:∀ w,Sem.run prog (Instr.index 114 (.agg #[r0,r1,r2,r3]) (.int .i64 1)) w=.ok r1 w:=λw=>by kernel_rfl
  have hx2:∀ w,Sem.run prog (Instr.index 114 (.agg #[r0,r1,r2,r3]) (.int .i64 2)) w=.ok r2 w:=λw=>by kernel_rfl
  have hx3:∀ w,Sem.run prog (Instr.index 114 (.agg #[r0,r1,r2,r3]) (.int .i64 3)) w=.ok r3 w:=λw=>by kernel_rfl
  have hn1:∀ w,Sem.run prog (binOp .neq 58 .nilFunc .nilFunc) w=.ok (.bool false) w:=λw=>by kernel_rfl
  have hn2:∀ fn w,Sem.run prog (binOp .neq 58 (.func (.func fn) #[] #[]) .nilFunc) w=.ok (.bool true) w:=λfn w=>by kernel_rfl
  have he1:∀ w,Sem.run prog (binOp .eql 58 .nilFunc .nilFunc) w=.ok (.bool true) w:=λw=>by kernel_rfl
  have he2:∀ fn w,Sem.run prog (binOp .eql 58 (.func (.func fn) #[] #[]) .nilFunc) w=.ok (.bool false) w:=λfn w=>by kernel_rfl
  clear hs0 hs1 hs2 hs3 hc0 hc1 hc2 hc3 c2 c3 c4 c5
  go_loopg [49] 4 (λm i wx=>∃ j:Nat,j+m=4/\i=.int .i64 j/\(∀ p,p < j->[o0,o1,o2,o3].getD p none≠some false)/\Below W2.heap.size W2 wx)
  case atStart=>exact⟨0,rfl,rfl,by intro p hp;omega,Below.refl _ _⟩
  case round=>
   obtain⟨j,hjm,rfl,hg,hbr⟩:=hrel;have hq:=(hbr.block (w1.heap.size+1) hsz).trans hfb;have q0:wr.cell? ⟨w1.heap.size+1,0,none⟩=some (.int .i64 c):=by simp[World.cell?,hq]
   have q1:wr.cell? ⟨w1.heap.size+1,1,none⟩=some (.int .i64 d):=by simp[World.cell?,hq]
   have q2:wr.cell? ⟨w1.heap.size+1,2,none⟩=some (.int .i64 e):=by simp[World.cell?,hq]
   have q3:wr.cell? ⟨w1.heap.size+1,3,none⟩=some (.int .i64 f):=by simp[World.cell?,hq]
   cases gk with
   | zero=>
    obtain rfl:j=4:=by omega
    have hq2:=(hbr.block (w1.heap.size+1+1) hsz2).trans hrb;have z0:wr.cell? ⟨w1.heap.size+1+1,0,none⟩=some r0:=by simp[World.cell?,hq2]
    have z1:wr.cell? ⟨w1.heap.size+1+1,1,none⟩=some r1:=by simp[World.cell?,hq2]
    have z2:wr.cell? ⟨w1.heap.size+1+1,2,none⟩=some r2:=by simp[World.cell?,hq2]
    have z3:wr.cell? ⟨w1.heap.size+1+1,3,none⟩=some r3:=by simp[World.cell?,hq2]
    have hgg:∀ p,p < 4->[o0,o1,o2,o3].getD p none≠some false:=hg;clear hg q0 q1 q2 q3
    go_wp2
    go_loopg [65] 4 (λm i wx=>∃ j:Nat,j+m=4/\i=.int .i64 j/\(∀ p,p < j->[o0,o1,o2,o3].getD p none=none->[c,d,e,f].getD p 0=0)/\wx=wr)
    case atStart=>exact⟨0,rfl,rfl,by intro p hp;omega,rfl⟩
    case round=>
     obtain⟨j,hjm,rfl,hg,rfl⟩:=hrel;have q0:wr.cell? ⟨w1.heap.size+1,0,none⟩=some (.int .i64 c):=by simp[World.cell?,hq]
     have q1:wr.cell? ⟨w1.heap.size+1,1,none⟩=some (.int .i64 d):=by simp[World.cell?,hq]
     have q2:wr.cell? ⟨w1.heap.size+1,2,none⟩=some (.int .i64 e):=by simp[World.cell?,hq]
     have q3:wr.cell? ⟨w1.heap.size+1,3,none⟩=some (.int .i64 f):=by simp[World.cell?,hq]
     cases gk with
     | zero=>
      obtain rfl:j=4:=by omega
      go_wp2
      go_ret
      exact⟨.inr ⟨hgg,.inr ⟨rfl,hg⟩⟩,hbW.trans (hbr.mono hbW.size)⟩
     | succ m=>
      rcases(show j=0\/j=1\/j=2\/j=3 by omega)with rfl | rfl | rfl | rfl
      ·rcases h0 with _ | ⟨fn,z,hE,hz⟩
       ·by_cases hv:c=0
        ·go_wp2
         go_roundg m
         case measure=>omega
         case rel=>exact⟨1,by omega,by simp,by intro p hp hq;rcases(show p < 0\/p=0 by omega)with hp | rfl;exact hg p hp hq;exact hv,rfl⟩
        ·go_wp2
         go_ret
         exact⟨.inr ⟨hgg,.inl ⟨rfl,0,by omega,rfl,hv⟩⟩,hbW.trans (hbr.mono hbW.size)⟩
       ·go_wp2
        go_roundg m
        case measure=>omega
        case rel=>exact⟨1,by omega,by simp,by intro p hp hq;rcases(show p < 0\/p=0 by omega)with hp | rfl;exact hg p hp hq;exact absurd hq (by simp),rfl⟩
      ·rcases h1 with _ | ⟨fn,z,hE,hz⟩
       ·by_cases hv:d=0
        ·go_wp2
         go_roundg m
         case measure=>omega
         case rel=>exact⟨2,by omega,by simp,by intro p hp hq;rcases(show p < 1\/p=1 by omega)with hp | rfl;exact hg p hp hq;exact hv,rfl⟩
        ·go_wp2
         go_ret
         exact⟨.inr ⟨hgg,.inl ⟨rfl,1,by omega,rfl,hv⟩⟩,hbW.trans (hbr.mono hbW.size)⟩
       ·go_wp2
        go_roundg m
        case measure=>omega
        case rel=>exact⟨2,by omega,by simp,by intro p hp hq;rcases(show p < 1\/p=1 by omega)with hp | rfl;exact hg p hp hq;exact absurd hq (by simp),rfl⟩
      ·rcases h2 with _ | ⟨fn,z,hE,hz⟩
       ·by_cases hv:e=0
        ·go_wp2
         go_roundg m
         case measure=>omega
         case rel=>exact⟨3,by omega,by simp,by intro p hp hq;rcases(show p < 2\/p=2 by omega)with hp | rfl;exact hg p hp hq;exact hv,rfl⟩
        ·go_wp2
         go_ret
         exact⟨.inr ⟨hgg,.inl ⟨rfl,2,by omega,rfl,hv⟩⟩,hbW.trans (hbr.mono hbW.size)⟩
       ·go_wp2
        go_roundg m
        case measure=>omega
        case rel=>exact⟨3,by omega,by simp,by intro p hp hq;rcases(show p < 2\/p=2 by omega)with hp | rfl;exact hg p hp hq;exact absurd hq (by simp),rfl⟩
      ·rcases h3 with _ | ⟨fn,z,hE,hz⟩
       ·by_cases hv:f=0
        ·go_wp2
         go_roundg m
         case measure=>omega
         case rel=>exact⟨4,by omega,by simp,by intro p hp hq;rcases(show p < 3\/p=3 by omega)with hp | rfl;exact hg p hp hq;exact hv,rfl⟩
        ·go_wp2
         go_ret
         exact⟨.inr ⟨hgg,.inl ⟨rfl,3,by omega,rfl,hv⟩⟩,hbW.trans (hbr.mono hbW.size)⟩
       ·go_wp2
        go_roundg m
        case measure=>omega
        case rel=>exact⟨4,by omega,by simp,by intro p hp hq;rcases(show p < 3\/p=3 by omega)with hp | rfl;exact hg p hp hq;exact absurd hq (by simp),rfl⟩
   | succ m=>
    rcases(show j=0\/j=1\/j=2\/j=3 by omega)with rfl | rfl | rfl | rfl
    ·rcases h0 with _ | ⟨fn,_ | _,hE,hz⟩
     ·go_wp2
      go_roundg m
      case measure=>omega
      case rel=>exact⟨1,by omega,by simp,by intro p hp;rcases(show p < 0\/p=0 by omega)with hp | rfl;exact hg p hp;simp,hbr⟩
     ·go_wp2_with (refine(hz _).mono ?_;rintro _ w3 ⟨rfl,hb3⟩)
      go_ret
      exact⟨.inl ⟨rfl,0,by omega,rfl⟩,hbW.trans ((hbr.trans (hb3.mono hbr.size)).mono hbW.size)⟩
     ·go_wp2_with (refine(hz _).mono ?_;rintro _ w3 ⟨rfl,hb3⟩)
      go_roundg m
      case measure=>omega
      case rel=>exact⟨1,by omega,by simp,by intro p hp;rcases(show p < 0\/p=0 by omega)with hp | rfl;exact hg p hp;simp,hbr.trans (hb3.mono hbr.size)⟩
    ·rcases h1 with _ | ⟨fn,_ | _,hE,hz⟩
     ·go_wp2
      go_roundg m
      case measure=>omega
      case rel=>exact⟨2,by omega,by simp,by intro p hp;rcases(show p < 1\/p=1 by omega)with hp | rfl;exact hg p hp;simp,hbr⟩
     ·go_wp2_with (refine(hz _).mono ?_;rintro _ w3 ⟨rfl,hb3⟩)
      go_ret
      exact⟨.inl ⟨rfl,1,by omega,rfl⟩,hbW.trans ((hbr.trans (hb3.mono hbr.size)).mono hbW.size)⟩
     ·go_wp2_with (refine(hz _).mono ?_;rintro _ w3 ⟨rfl,hb3⟩)
      go_roundg m
      case measure=>omega
      case rel=>exact⟨2,by omega,by simp,by intro p hp;rcases(show p < 1\/p=1 by omega)with hp | rfl;exact hg p hp;simp,hbr.trans (hb3.mono hbr.size)⟩
    ·rcases h2 with _ | ⟨fn,_ | _,hE,hz⟩
     ·go_wp2
      go_roundg m
      case measure=>omega
      case rel=>exact⟨3,by omega,by simp,by intro p hp;rcases(show p < 2\/p=2 by omega)with hp | rfl;exact hg p hp;simp,hbr⟩
     ·go_wp2_with (refine(hz _).mono ?_;rintro _ w3 ⟨rfl,hb3⟩)
      go_ret
      exact⟨.inl ⟨rfl,2,by omega,rfl⟩,hbW.trans ((hbr.trans (hb3.mono hbr.size)).mono hbW.size)⟩
     ·go_wp2_with (refine(hz _).mono ?_;rintro _ w3 ⟨rfl,hb3⟩)
      go_roundg m
      case measure=>omega
      case rel=>exact⟨3,by omega,by simp,by intro p hp;rcases(show p < 2\/p=2 by omega)with hp | rfl;exact hg p hp;simp,hbr.trans (hb3.mono hbr.size)⟩
    ·rcases h3 with _ | ⟨fn,_ | _,hE,hz⟩
     ·go_wp2
      go_roundg m
      case measure=>omega
      case rel=>exact⟨4,by omega,by simp,by intro p hp;rcases(show p < 3\/p=3 by omega)with hp | rfl;exact hg p hp;simp,hbr⟩
     ·go_wp2_with (refine(hz _).mono ?_;rintro _ w3 ⟨rfl,hb3⟩)
      go_ret
      exact⟨.inl ⟨rfl,3,by omega,rfl⟩,hbW.trans ((hbr.trans (hb3.mono hbr.size)).mono hbW.size)⟩
     ·go_wp2_with (refine(hz _).mono ?_;rintro _ w3 ⟨rfl,hb3⟩)
      go_roundg m
      case measure=>omega
      case rel=>exact⟨4,by omega,by simp,by intro p hp;rcases(show p < 3\/p=3 by omega)with hp | rfl;exact hg p hp;simp,hbr.trans (hb3.mono hbr.size)⟩
end
end Go.Proofs.Tryz
namespace Go.Proofs.Tryz
open Go Go.VM Go.RowKit
section
attribute [local go_sem] Oper.semAt_some jB jA
set_option maxRecDepth 100000 in
set_option maxHeartbeats 4000000 in
theorem aPp (k b c d e f:Int)(hk:1<=k/\k<=9)(hne:¬ b=-1)(h91:CB 29 #[.int .i64 b] (.bool true))(r0 r1 r2 r3 ap:Value)(o0 o1 o2 o3:Option Bool)(h0:Rl c r0 o0)(h1:Rl d r1 o1)(h2:Rl e r2 o2)(h3:Rl f r3 o3)
  (fa:Nat) (hap:ap=.func (.func fa) #[] #[]) (h111:CB 78 #[.int .i64 k] (.agg #[r0,r1,r2,r3,ap])) (w:World) :
  Calls prog 59 #[.agg #[.int .i64 k,.int .i64 b,.int .i64 c,.int .i64 d,.int .i64 e,.int .i64 f]] w λe' w'=>aFS [o0,o1,o2,o3] [c,d,e,f] e'/\Below w.heap.size w w':=by
 have hk1:¬ k < 1:=by omega
 have hk9:¬ 9 < k:=by omega
 subst hap;have hs0:=h0.store;have hs1:=h1.store;have hs2:=h2.store;have hs3:=h3.store;have hc0:r0.cells=#[r0]:=by cases h0<;>rfl
 have hc1:r1.cells=#[r1]:=by cases h1<;>rfl
 have hc2:r2.cells=#[r2]:=by cases h2<;>rfl
 have hc3:r3.cells=#[r3]:=by cases h3<;>rfl
 unfold Value.cells at hc0 hc1 hc2 hc3
 go_enter func59,ntmps59
 ·skip
  go_wp2_with (first | (go_at_call 29;refine(h91 _).mono ?_;rintro _ w0 ⟨rfl,hb0⟩;have c0:=aRA hb0;clear h91) | (go_at_call 78;refine(h111 _).mono ?_;rintro _ w1 ⟨rfl,hb1z⟩;have hb1:=hb0.trans (hb1z.mono hb0.size);clear hb1z c0;have c2:=λo=>(aCR hb1 o).1;have c3:=λo=>(aCR hb1 o).2.1;have c4:=λo=>(aCR hb1 o).2.2.1;have c5:=λo=>(aCR hb1 o).2.2.2;clear h111))
  have hs1':=hb1.size
  generalize hW:((w1.alloc (.cells #[r0,r1,r2,r3,.func (.func fa) #[] #[]] 111)).alloc (.cells #[.int .i64 c,.int .i64 d,.int .i64 e,.int .i64 f] 113)).alloc (.cells #[r0,r1,r2,r3] 114)=W2
  have hbW:Below w.heap.size w W2:=by
   rw[<-hW];exact((((((Below.refl _ w).alloc (aK _) _).trans (hb1.mono (by simp))).alloc (by simp at hs1';omega) _).alloc (by simp at hs1' ⊢;omega) _).alloc (by simp at hs1' ⊢;omega) _)
  have hfb:W2.heap[w1.heap.size+1]?=some (.cells #[.int .i64 c,.int .i64 d,.int .i64 e,.int .i64 f] 113 (0,0)):=by
   rw[<-hW];refine(Below.heap_alloc _ _ _ (by simp)).trans ?_;have:=World.alloc_heap_new (w1.alloc (.cells #[r0,r1,r2,r3,.func (.func fa) #[] #[]] 111)) (.cells #[.int .i64 c,.int .i64 d,.int .i64 e,.int .i64 f] 113)
   rwa [World.size_alloc]at this
  have hsz:w1.heap.size+1 < W2.heap.size:=(cP.1 hfb).1;have hrb:W2.heap[w1.heap.size+1+1]?=some (.cells #[r0,r1,r2,r3] 114 (0,0)):=by
   rw[<-hW];have:=World.alloc_heap_new ((w1.alloc (.cells #[r0,r1,r2,r3,.func (.func fa) #[] #[]] 111)).alloc (.cells #[.int .i64 c,.int .i64 d,.int .i64 e,.int .i64 f] 113)) (.cells #[r0,r1,r2,r3] 114)
   rwa [World.size_alloc,World.size_alloc]at this
  have hsz2:w1.heap.size+1+1 < W2.heap.size:=(cP.1 hrb).1;have hx0:∀ w,Sem.run prog (Instr.index 114 (.agg #[r0,r1,r2,r3]) (.int .i64 0)) w=.ok r0 w:=λw=>by kernel_rfl
  have hx1:∀ w,Sem.run prog (Instr.index 114 (.agg #[r0,r1,r2,r3]) (.int .i64 1)) w=.ok r1 w:=λw=>by kernel_rfl
  have hx2:∀ w,Sem.run prog (Instr.index 114 (.agg #[r0,r1,r2,r3]) (.int .i64 2)) w=.ok r2 w:=λw=>by kernel_rfl
  have hx3:∀ w,Sem.run prog (Instr.index 114 (.agg #[r0,r1,r2,r3]) (.int .i64 3)) w=.ok r3 w:=λw=>by kernel_rfl
  have hn1:∀ w,Sem.run prog (binOp .neq 58 .nilFunc .nilFunc) w=.ok (.bool false) w:=λw=>by kernel_rfl
  have hn2:∀ fn w,Sem.run prog (binOp .neq 58 (.func (.func fn) #[] #[]) .nilFunc) w=.ok (.bool true) w:=λfn w=>by kernel_rfl
  have he1:∀ w,Sem.run prog (binOp .eql 58 .nilFunc .nilFunc) w=.ok (.bool true) w:=λw=>by kernel_rfl
  have he2:∀ fn w,Sem.run prog (binOp .eql 58 (.func (.func fn) #[] #[]) .nilFunc) w=.ok (.bool false) w:=λfn w=>by kernel_rfl
  clear hs0 hs1 hs2 hs3 hc0 hc1 hc2 hc3 c2 c3 c4 c5
  go_loopg [49] 4 (λm i wx=>∃ j:Nat,j+m=4/\i=.int .i64 j/\(∀ p,p < j->[o0,o1,o2,o3].getD p none≠some false)/\Below W2.heap.size W2 wx)
  case atStart=>exact⟨0,rfl,rfl,by intro p hp;omega,Below.refl _ _⟩
  case round=>
   obtain⟨j,hjm,rfl,hg,hbr⟩:=hrel;have hq:=(hbr.block (w1.heap.size+1) hsz).trans hfb;have q0:wr.cell? ⟨w1.heap.size+1,0,none⟩=some (.int .i64 c):=by simp[World.cell?,hq]
   have q1:wr.cell? ⟨w1.heap.size+1,1,none⟩=some (.int .i64 d):=by simp[World.cell?,hq]
   have q2:wr.cell? ⟨w1.heap.size+1,2,none⟩=some (.int .i64 e):=by simp[World.cell?,hq]
   have q3:wr.cell? ⟨w1.heap.size+1,3,none⟩=some (.int .i64 f):=by simp[World.cell?,hq]
   cases gk with
   | zero=>
    obtain rfl:j=4:=by omega
    have hq2:=(hbr.block (w1.heap.size+1+1) hsz2).trans hrb;have z0:wr.cell? ⟨w1.heap.size+1+1,0,none⟩=some r0:=by simp[World.cell?,hq2]
    have z1:wr.cell? ⟨w1.heap.size+1+1,1,none⟩=some r1:=by simp[World.cell?,hq2]
    have z2:wr.cell? ⟨w1.heap.size+1+1,2,none⟩=some r2:=by simp[World.cell?,hq2]
    have z3:wr.cell? ⟨w1.heap.size+1+1,3,none⟩=some r3:=by simp[World.cell?,hq2]
    have hgg:∀ p,p < 4->[o0,o1,o2,o3].getD p none≠some false:=hg;clear hg q0 q1 q2 q3
    go_wp2
    go_loopg [65] 4 (λm i wx=>∃ j:Nat,j+m=4/\i=.int .i64 j/\(∀ p,p < j->[o0,o1,o2,o3].getD p none=none->[c,d,e,f].getD p 0=0)/\wx=wr)
    case atStart=>exact⟨0,rfl,rfl,by intro p hp;omega,rfl⟩
    case round=>
     obtain⟨j,hjm,rfl,hg,rfl⟩:=hrel;have q0:wr.cell? ⟨w1.heap.size+1,0,none⟩=some (.int .i64 c):=by simp[World.cell?,hq]
     have q1:wr.cell? ⟨w1.heap.size+1,1,none⟩=some (.int .i64 d):=by simp[World.cell?,hq]
     have q2:wr.cell? ⟨w1.heap.size+1,2,none⟩=some (.int .i64 e):=by simp[World.cell?,hq]
     have q3:wr.cell? ⟨w1.heap.size+1,3,none⟩=some (.int .i64 f):=by simp[World.cell?,hq]
     cases gk with
     | zero=>
      obtain rfl:j=4:=by omega
      go_wp2
      go_ret
      exact⟨.inr ⟨hgg,.inr ⟨rfl,hg⟩⟩,hbW.trans (hbr.mono hbW.size)⟩
     | succ m=>
      rcases(show j=0\/j=1\/j=2\/j=3 by omega)with rfl | rfl | rfl | rfl
      ·rcases h0 with _ | ⟨fn,z,hE,hz⟩
       ·by_cases hv:c=0
        ·go_wp2
         go_roundg m
         case measure=>omega
         case rel=>exact⟨1,by omega,by simp,by intro p hp hq;rcases(show p < 0\/p=0 by omega)with hp | rfl;exact hg p hp hq;exact hv,rfl⟩
        ·go_wp2
         go_ret
         exact⟨.inr ⟨hgg,.inl ⟨rfl,0,by omega,rfl,hv⟩⟩,hbW.trans (hbr.mono hbW.size)⟩
       ·go_wp2
        go_roundg m
        case measure=>omega
        case rel=>exact⟨1,by omega,by simp,by intro p hp hq;rcases(show p < 0\/p=0 by omega)with hp | rfl;exact hg p hp hq;exact absurd hq (by simp),rfl⟩
      ·rcases h1 with _ | ⟨fn,z,hE,hz⟩
       ·by_cases hv:d=0
        ·go_wp2
         go_roundg m
         case measure=>omega
         case rel=>exact⟨2,by omega,by simp,by intro p hp hq;rcases(show p < 1\/p=1 by omega)with hp | rfl;exact hg p hp hq;exact hv,rfl⟩
        ·go_wp2
         go_ret
         exact⟨.inr ⟨hgg,.inl ⟨rfl,1,by omega,rfl,hv⟩⟩,hbW.trans (hbr.mono hbW.size)⟩
       ·go_wp2
        go_roundg m
        case measure=>omega
        case rel=>exact⟨2,by omega,by simp,by intro p hp hq;rcases(show p < 1\/p=1 by omega)with hp | rfl;exact hg p hp hq;exact absurd hq (by simp),rfl⟩
      ·rcases h2 with _ | ⟨fn,z,hE,hz⟩
       ·by_cases hv:e=0
        ·go_wp2
         go_roundg m
         case measure=>omega
         case rel=>exact⟨3,by omega,by simp,by intro p hp hq;rcases(show p < 2\/p=2 by omega)with hp | rfl;exact hg p hp hq;exact hv,rfl⟩
        ·go_wp2
         go_ret
         exact⟨.inr ⟨hgg,.inl ⟨rfl,2,by omega,rfl,hv⟩⟩,hbW.trans (hbr.mono hbW.size)⟩
       ·go_wp2
        go_roundg m
        case measure=>omega
        case rel=>exact⟨3,by omega,by simp,by intro p hp hq;rcases(show p < 2\/p=2 by omega)with hp | rfl;exact hg p hp hq;exact absurd hq (by simp),rfl⟩
      ·rcases h3 with _ | ⟨fn,z,hE,hz⟩
       ·by_cases hv:f=0
        ·go_wp2
         go_roundg m
         case measure=>omega
         case rel=>exact⟨4,by omega,by simp,by intro p hp hq;rcases(show p < 3\/p=3 by omega)with hp | rfl;exact hg p hp hq;exact hv,rfl⟩
        ·go_wp2
         go_ret
         exact⟨.inr ⟨hgg,.inl ⟨rfl,3,by omega,rfl,hv⟩⟩,hbW.trans (hbr.mono hbW.size)⟩
       ·go_wp2
        go_roundg m
        case measure=>omega
        case rel=>exact⟨4,by omega,by simp,by intro p hp hq;rcases(show p < 3\/p=3 by omega)with hp | rfl;exact hg p hp hq;exact absurd hq (by simp),rfl⟩
   | succ m=>
    rcases(show j=0\/j=1\/j=2\/j=3 by omega)with rfl | rfl | rfl | rfl
    ·rcases h0 with _ | ⟨fn,_ | _,hE,hz⟩
     ·go_wp2
      go_roundg m
      case measure=>omega
      case rel=>exact⟨1,by omega,by simp,by intro p hp;rcases(show p < 0\/p=0 by omega)with hp | rfl;exact hg p hp;simp,hbr⟩
     ·go_wp2_with (refine(hz _).mono ?_;rintro _ w3 ⟨rfl,hb3⟩)
      go_ret
      exact⟨.inl ⟨rfl,0,by omega,rfl⟩,hbW.trans ((hbr.trans (hb3.mono hbr.size)).mono hbW.size)⟩
     ·go_wp2_with (refine(hz _).mono ?_;rintro _ w3 ⟨rfl,hb3⟩)
      go_roundg m
      case measure=>omega
      case rel=>exact⟨1,by omega,by simp,by intro p hp;rcases(show p < 0\/p=0 by omega)with hp | rfl;exact hg p hp;simp,hbr.trans (hb3.mono hbr.size)⟩
    ·rcases h1 with _ | ⟨fn,_ | _,hE,hz⟩
     ·go_wp2
      go_roundg m
      case measure=>omega
      case rel=>exact⟨2,by omega,by simp,by intro p hp;rcases(show p < 1\/p=1 by omega)with hp | rfl;exact hg p hp;simp,hbr⟩
     ·go_wp2_with (refine(hz _).mono ?_;rintro _ w3 ⟨rfl,hb3⟩)
      go_ret
      exact⟨.inl ⟨rfl,1,by omega,rfl⟩,hbW.trans ((hbr.trans (hb3.mono hbr.size)).mono hbW.size)⟩
     ·go_wp2_with (refine(hz _).mono ?_;rintro _ w3 ⟨rfl,hb3⟩)
      go_roundg m
      case measure=>omega
      case rel=>exact⟨2,by omega,by simp,by intro p hp;rcases(show p < 1\/p=1 by omega)with hp | rfl;exact hg p hp;simp,hbr.trans (hb3.mono hbr.size)⟩
    ·rcases h2 with _ | ⟨fn,_ | _,hE,hz⟩
     ·go_wp2
      go_roundg m
      case measure=>omega
      case rel=>exact⟨3,by omega,by simp,by intro p hp;rcases(show p < 2\/p=2 by omega)with hp | rfl;exact hg p hp;simp,hbr⟩
     ·go_wp2_with (refine(hz _).mono ?_;rintro _ w3 ⟨rfl,hb3⟩)
      go_ret
      exact⟨.inl ⟨rfl,2,by omega,rfl⟩,hbW.trans ((hbr.trans (hb3.mono hbr.size)).mono hbW.size)⟩
     ·go_wp2_with (refine(hz _).mono ?_;rintro _ w3 ⟨rfl,hb3⟩)
      go_roundg m
      case measure=>omega
      case rel=>exact⟨3,by omega,by simp,by intro p hp;rcases(show p < 2\/p=2 by omega)with hp | rfl;exact hg p hp;simp,hbr.trans (hb3.mono hbr.size)⟩
    ·rcases h3 with _ | ⟨fn,_ | _,hE,hz⟩
     ·go_wp2
      go_roundg m
      case measure=>omega
      case rel=>exact⟨4,by omega,by simp,by intro p hp;rcases(show p < 3\/p=3 by omega)with hp | rfl;exact hg p hp;simp,hbr⟩
     ·go_wp2_with (refine(hz _).mono ?_;rintro _ w3 ⟨rfl,hb3⟩)
      go_ret
      exact⟨.inl ⟨rfl,3,by omega,rfl⟩,hbW.trans ((hbr.trans (hb3.mono hbr.size)).mono hbW.size)⟩
     ·go_wp2_with (refine(hz _).mono ?_;rintro _ w3 ⟨rfl,hb3⟩)
      go_roundg m
      case measure=>omega
      case rel=>exact⟨4,by omega,by simp,by intro p hp;rcases(show p < 3\/p=3 by omega)with hp | rfl;exact hg p hp;simp,hbr.trans (hb3.mono hbr.size)⟩
end
end Go.Proofs.Tryz
namespace Go.Proofs.Tryz
open Go Go.VM Go.RowKit
section
attribute [local go_sem] Oper.semAt_some
theorem bW {w w1:World}{t:TypeId}{v0 v1 v2 v3 v4 v5:Value}(h:Below (w.alloc (.cells #[v0,v1,v2,v3,v4,v5] t)).heap.size (w.alloc (.cells #[v0,v1,v2,v3,v4,v5] t)) w1) :
  w1.cell? ⟨w.heap.size,0,none⟩=some v0/\w1.cell? ⟨w.heap.size,1,none⟩=some v1/\w1.cell? ⟨w.heap.size,2,none⟩=some v2/\w1.cell? ⟨w.heap.size,3,none⟩=some v3/\w1.cell? ⟨w.heap.size,4,none⟩=some v4/\w1.cell? ⟨w.heap.size,5,none⟩=some v5:=by
 have q:=(h.block w.heap.size (by simp)).trans (World.alloc_heap_new w _);refine⟨?_,?_,?_,?_,?_,?_⟩<;>simp[World.cell?,q]
set_option maxRecDepth 100000 in
set_option maxHeartbeats 8000000 in
theorem aPs (k b c d e f:Int)(z0 z1:Bool)(hz:(b != -1)=z0)(h105:CB 34 #[.int .i64 k,.int .i64 1,.int .i64 9] (.bool true))(h90:CB 50 #[.int .i64 k] (.tuple #[.bool true,.bool true,.bool true,.bool false]))(h99:CB 24 #[.int .i64 b] (.bool z1))(z2:Bool)(h106:CB 51 #[.int .i64 c] (.bool z2))(z3:Bool)(h107:CB 52 #[.int .i64 d] (.bool z3))(z4:Bool)(h108:CB 53 #[.agg #[.int .i64 k,.int .i64 b,.int .i64 c,.int .i64 d,.int .i64 e,.int .i64 f]] (.bool z4))(r:Int)(hr:(bif (z0&&!z1) || !z2 || !z3 || !z4 then 3 else if f≠0 then 1 else 0)=r)(w:World) :
  Calls prog 27 #[.agg #[.int .i64 k,.int .i64 b,.int .i64 c,.int .i64 d,.int .i64 e,.int .i64 f]] w λe' w'=>e'=.returned (.int .i64 r)/\Below w.heap.size w w':=by
 have hB:=Below.refl (w.alloc (.cells #[.int .i64 k,.int .i64 b,.int .i64 c,.int .i64 d,.int .i64 e,.int .i64 f] 64)).heap.size (w.alloc (.cells #[.int .i64 k,.int .i64 b,.int .i64 c,.int .i64 d,.int .i64 e,.int .i64 f] 64))
 go_enter func27,ntmps27
 by_cases hb:b=-1
 ·subst hb;have hz0:z0=false:=by rw[<-hz];rfl
  subst hz0;cases z2
  case false=>
   go_wp2_with (first | (go_at_call 34;refine(h105 _).mono ?_;clear h105;rintro _ wn ⟨rfl,hbn⟩;replace hB:=hB.trans (hbn.mono hB.size);obtain⟨k0,k1,k2,k3,k4,k5⟩:=bW hB) | (go_at_call 50;refine(h90 _).mono ?_;clear h90;rintro _ wn ⟨rfl,hbn⟩;replace hB:=hB.trans (hbn.mono hB.size);obtain⟨k0,k1,k2,k3,k4,k5⟩:=bW hB) | (go_at_call 24;refine(h99 _).mono ?_;clear h99;rintro _ wn ⟨rfl,hbn⟩;replace hB:=hB.trans (hbn.mono hB.size);obtain⟨k0,k1,k2,k3,k4,k5⟩:=bW hB) | (go_at_call 51;refine(h106 _).mono ?_;clear h106;rintro _ wn ⟨rfl,hbn⟩;replace hB:=hB.trans (hbn.mono hB.size);obtain⟨k0,k1,k2,k3,k4,k5⟩:=bW hB) | (go_at_call 52;refine(h107 _).mono ?_;clear h107;rintro _ wn ⟨rfl,hbn⟩;replace hB:=hB.trans (hbn.mono hB.size);obtain⟨k0,k1,k2,k3,k4,k5⟩:=bW hB) | (go_at_call 53;refine(h108 _).mono ?_;clear h108;rintro _ wn ⟨rfl,hbn⟩;replace hB:=hB.trans (hbn.mono hB.size);obtain⟨k0,k1,k2,k3,k4,k5⟩:=bW hB))
   go_ret
   exact⟨by rw[<-hr];simp,((Below.refl _ w).alloc (aK _) _).trans (hB.mono (by simp))⟩
  case true=>
   cases z3
   case false=>
    go_wp2_with (first | (go_at_call 34;refine(h105 _).mono ?_;clear h105;rintro _ wn ⟨rfl,hbn⟩;replace hB:=hB.trans (hbn.mono hB.size);obtain⟨k0,k1,k2,k3,k4,k5⟩:=bW hB) | (go_at_call 50;refine(h90 _).mono ?_;clear h90;rintro _ wn ⟨rfl,hbn⟩;replace hB:=hB.trans (hbn.mono hB.size);obtain⟨k0,k1,k2,k3,k4,k5⟩:=bW hB) | (go_at_call 24;refine(h99 _).mono ?_;clear h99;rintro _ wn ⟨rfl,hbn⟩;replace hB:=hB.trans (hbn.mono hB.size);obtain⟨k0,k1,k2,k3,k4,k5⟩:=bW hB) | (go_at_call 51;refine(h106 _).mono ?_;clear h106;rintro _ wn ⟨rfl,hbn⟩;replace hB:=hB.trans (hbn.mono hB.size);obtain⟨k0,k1,k2,k3,k4,k5⟩:=bW hB) | (go_at_call 52;refine(h107 _).mono ?_;clear h107;rintro _ wn ⟨rfl,hbn⟩;replace hB:=hB.trans (hbn.mono hB.size);obtain⟨k0,k1,k2,k3,k4,k5⟩:=bW hB) | (go_at_call 53;refine(h108 _).mono ?_;clear h108;rintro _ wn ⟨rfl,hbn⟩;replace hB:=hB.trans (hbn.mono hB.size);obtain⟨k0,k1,k2,k3,k4,k5⟩:=bW hB))
    go_ret
    exact⟨by rw[<-hr];simp,((Below.refl _ w).alloc (aK _) _).trans (hB.mono (by simp))⟩
   case true=>
    cases z4
    case false=>
     go_wp2_with (first | (go_at_call 34;refine(h105 _).mono ?_;clear h105;rintro _ wn ⟨rfl,hbn⟩;replace hB:=hB.trans (hbn.mono hB.size);obtain⟨k0,k1,k2,k3,k4,k5⟩:=bW hB) | (go_at_call 50;refine(h90 _).mono ?_;clear h90;rintro _ wn ⟨rfl,hbn⟩;replace hB:=hB.trans (hbn.mono hB.size);obtain⟨k0,k1,k2,k3,k4,k5⟩:=bW hB) | (go_at_call 24;refine(h99 _).mono ?_;clear h99;rintro _ wn ⟨rfl,hbn⟩;replace hB:=hB.trans (hbn.mono hB.size);obtain⟨k0,k1,k2,k3,k4,k5⟩:=bW hB) | (go_at_call 51;refine(h106 _).mono ?_;clear h106;rintro _ wn ⟨rfl,hbn⟩;replace hB:=hB.trans (hbn.mono hB.size);obtain⟨k0,k1,k2,k3,k4,k5⟩:=bW hB) | (go_at_call 52;refine(h107 _).mono ?_;clear h107;rintro _ wn ⟨rfl,hbn⟩;replace hB:=hB.trans (hbn.mono hB.size);obtain⟨k0,k1,k2,k3,k4,k5⟩:=bW hB) | (go_at_call 53;refine(h108 _).mono ?_;clear h108;rintro _ wn ⟨rfl,hbn⟩;replace hB:=hB.trans (hbn.mono hB.size);obtain⟨k0,k1,k2,k3,k4,k5⟩:=bW hB))
     go_ret
     exact⟨by rw[<-hr];simp,((Below.refl _ w).alloc (aK _) _).trans (hB.mono (by simp))⟩
    case true=>
     by_cases hv3:f=0
     ·subst hv3
      go_wp2_with (first | (go_at_call 34;refine(h105 _).mono ?_;clear h105;rintro _ wn ⟨rfl,hbn⟩;replace hB:=hB.trans (hbn.mono hB.size);obtain⟨k0,k1,k2,k3,k4,k5⟩:=bW hB) | (go_at_call 50;refine(h90 _).mono ?_;clear h90;rintro _ wn ⟨rfl,hbn⟩;replace hB:=hB.trans (hbn.mono hB.size);obtain⟨k0,k1,k2,k3,k4,k5⟩:=bW hB) | (go_at_call 24;refine(h99 _).mono ?_;clear h99;rintro _ wn ⟨rfl,hbn⟩;replace hB:=hB.trans (hbn.mono hB.size);obtain⟨k0,k1,k2,k3,k4,k5⟩:=bW hB) | (go_at_call 51;refine(h106 _).mono ?_;clear h106;rintro _ wn ⟨rfl,hbn⟩;replace hB:=hB.trans (hbn.mono hB.size);obtain⟨k0,k1,k2,k3,k4,k5⟩:=bW hB) | (go_at_call 52;refine(h107 _).mono ?_;clear h107;rintro _ wn ⟨rfl,hbn⟩;replace hB:=hB.trans (hbn.mono hB.size);obtain⟨k0,k1,k2,k3,k4,k5⟩:=bW hB) | (go_at_call 53;refine(h108 _).mono ?_;clear h108;rintro _ wn ⟨rfl,hbn⟩;replace hB:=hB.trans (hbn.mono hB.size);obtain⟨k0,k1,k2,k3,k4,k5⟩:=bW hB))
      go_ret
      exact⟨by rw[<-hr];simp,((Below.refl _ w).alloc (aK _) _).trans (hB.mono (by simp))⟩
     ·skip
      go_wp2_with (first | (go_at_call 34;refine(h105 _).mono ?_;clear h105;rintro _ wn ⟨rfl,hbn⟩;replace hB:=hB.trans (hbn.mono hB.size);obtain⟨k0,k1,k2,k3,k4,k5⟩:=bW hB) | (go_at_call 50;refine(h90 _).mono ?_;clear h90;rintro _ wn ⟨rfl,hbn⟩;replace hB:=hB.trans (hbn.mono hB.size);obtain⟨k0,k1,k2,k3,k4,k5⟩:=bW hB) | (go_at_call 24;refine(h99 _).mono ?_;clear h99;rintro _ wn ⟨rfl,hbn⟩;replace hB:=hB.trans (hbn.mono hB.size);obtain⟨k0,k1,k2,k3,k4,k5⟩:=bW hB) | (go_at_call 51;refine(h106 _).mono ?_;clear h106;rintro _ wn ⟨rfl,hbn⟩;replace hB:=hB.trans (hbn.mono hB.size);obtain⟨k0,k1,k2,k3,k4,k5⟩:=bW hB) | (go_at_call 52;refine(h107 _).mono ?_;clear h107;rintro _ wn ⟨rfl,hbn⟩;replace hB:=hB.trans (hbn.mono hB.size);obtain⟨k0,k1,k2,k3,k4,k5⟩:=bW hB) | (go_at_call 53;refine(h108 _).mono ?_;clear h108;rintro _ wn ⟨rfl,hbn⟩;replace hB:=hB.trans (hbn.mono hB.size);obtain⟨k0,k1,k2,k3,k4,k5⟩:=bW hB))
      go_ret
      exact⟨by rw[<-hr];simp[hv3],((Below.refl _ w).alloc (aK _) _).trans (hB.mono (by simp))⟩
 ·have hz0:z0=true:=by rw[<-hz];simpa using hb
  subst hz0;cases z1
  case false=>
   go_wp2_with (first | (go_at_call 34;refine(h105 _).mono ?_;clear h105;rintro _ wn ⟨rfl,hbn⟩;replace hB:=hB.trans (hbn.mono hB.size);obtain⟨k0,k1,k2,k3,k4,k5⟩:=bW hB) | (go_at_call 50;refine(h90 _).mono ?_;clear h90;rintro _ wn ⟨rfl,hbn⟩;replace hB:=hB.trans (hbn.mono hB.size);obtain⟨k0,k1,k2,k3,k4,k5⟩:=bW hB) | (go_at_call 24;refine(h99 _).mono ?_;clear h99;rintro _ wn ⟨rfl,hbn⟩;replace hB:=hB.trans (hbn.mono hB.size);obtain⟨k0,k1,k2,k3,k4,k5⟩:=bW hB) | (go_at_call 51;refine(h106 _).mono ?_;clear h106;rintro _ wn ⟨rfl,hbn⟩;replace hB:=hB.trans (hbn.mono hB.size);obtain⟨k0,k1,k2,k3,k4,k5⟩:=bW hB) | (go_at_call 52;refine(h107 _).mono ?_;clear h107;rintro _ wn ⟨rfl,hbn⟩;replace hB:=hB.trans (hbn.mono hB.size);obtain⟨k0,k1,k2,k3,k4,k5⟩:=bW hB) | (go_at_call 53;refine(h108 _).mono ?_;clear h108;rintro _ wn ⟨rfl,hbn⟩;replace hB:=hB.trans (hbn.mono hB.size);obtain⟨k0,k1,k2,k3,k4,k5⟩:=bW hB))
   go_ret
   exact⟨by rw[<-hr];simp,((Below.refl _ w).alloc (aK _) _).trans (hB.mono (by simp))⟩
  case true=>
   cases z2
   case false=>
    go_wp2_with (first | (go_at_call 34;refine(h105 _).mono ?_;clear h105;rintro _ wn ⟨rfl,hbn⟩;replace hB:=hB.trans (hbn.mono hB.size);obtain⟨k0,k1,k2,k3,k4,k5⟩:=bW hB) | (go_at_call 50;refine(h90 _).mono ?_;clear h90;rintro _ wn ⟨rfl,hbn⟩;replace hB:=hB.trans (hbn.mono hB.size);obtain⟨k0,k1,k2,k3,k4,k5⟩:=bW hB) | (go_at_call 24;refine(h99 _).mono ?_;clear h99;rintro _ wn ⟨rfl,hbn⟩;replace hB:=hB.trans (hbn.mono hB.size);obtain⟨k0,k1,k2,k3,k4,k5⟩:=bW hB) | (go_at_call 51;refine(h106 _).mono ?_;clear h106;rintro _ wn ⟨rfl,hbn⟩;replace hB:=hB.trans (hbn.mono hB.size);obtain⟨k0,k1,k2,k3,k4,k5⟩:=bW hB) | (go_at_call 52;refine(h107 _).mono ?_;clear h107;rintro _ wn ⟨rfl,hbn⟩;replace hB:=hB.trans (hbn.mono hB.size);obtain⟨k0,k1,k2,k3,k4,k5⟩:=bW hB) | (go_at_call 53;refine(h108 _).mono ?_;clear h108;rintro _ wn ⟨rfl,hbn⟩;replace hB:=hB.trans (hbn.mono hB.size);obtain⟨k0,k1,k2,k3,k4,k5⟩:=bW hB))
    go_ret
    exact⟨by rw[<-hr];simp,((Below.refl _ w).alloc (aK _) _).trans (hB.mono (by simp))⟩
   case true=>
    cases z3
    case false=>
     go_wp2_with (first | (go_at_call 34;refine(h105 _).mono ?_;clear h105;rintro _ wn ⟨rfl,hbn⟩;replace hB:=hB.trans (hbn.mono hB.size);obtain⟨k0,k1,k2,k3,k4,k5⟩:=bW hB) | (go_at_call 50;refine(h90 _).mono ?_;clear h90;rintro _ wn ⟨rfl,hbn⟩;replace hB:=hB.trans (hbn.mono hB.size);obtain⟨k0,k1,k2,k3,k4,k5⟩:=bW hB) | (go_at_call 24;refine(h99 _).mono ?_;clear h99;rintro _ wn ⟨rfl,hbn⟩;replace hB:=hB.trans (hbn.mono hB.size);obtain⟨k0,k1,k2,k3,k4,k5⟩:=bW hB) | (go_at_call 51;refine(h106 _).mono ?_;clear h106;rintro _ wn ⟨rfl,hbn⟩;replace hB:=hB.trans (hbn.mono hB.size);obtain⟨k0,k1,k2,k3,k4,k5⟩:=bW hB) | (go_at_call 52;refine(h107 _).mono ?_;clear h107;rintro _ wn ⟨rfl,hbn⟩;replace hB:=hB.trans (hbn.mono hB.size);obtain⟨k0,k1,k2,k3,k4,k5⟩:=bW hB) | (go_at_call 53;refine(h108 _).mono ?_;clear h108;rintro _ wn ⟨rfl,hbn⟩;replace hB:=hB.trans (hbn.mono hB.size);obtain⟨k0,k1,k2,k3,k4,k5⟩:=bW hB))
     go_ret
     exact⟨by rw[<-hr];simp,((Below.refl _ w).alloc (aK _) _).trans (hB.mono (by simp))⟩
    case true=>
     cases z4
     case false=>
      go_wp2_with (first | (go_at_call 34;refine(h105 _).mono ?_;clear h105;rintro _ wn ⟨rfl,hbn⟩;replace hB:=hB.trans (hbn.mono hB.size);obtain⟨k0,k1,k2,k3,k4,k5⟩:=bW hB) | (go_at_call 50;refine(h90 _).mono ?_;clear h90;rintro _ wn ⟨rfl,hbn⟩;replace hB:=hB.trans (hbn.mono hB.size);obtain⟨k0,k1,k2,k3,k4,k5⟩:=bW hB) | (go_at_call 24;refine(h99 _).mono ?_;clear h99;rintro _ wn ⟨rfl,hbn⟩;replace hB:=hB.trans (hbn.mono hB.size);obtain⟨k0,k1,k2,k3,k4,k5⟩:=bW hB) | (go_at_call 51;refine(h106 _).mono ?_;clear h106;rintro _ wn ⟨rfl,hbn⟩;replace hB:=hB.trans (hbn.mono hB.size);obtain⟨k0,k1,k2,k3,k4,k5⟩:=bW hB) | (go_at_call 52;refine(h107 _).mono ?_;clear h107;rintro _ wn ⟨rfl,hbn⟩;replace hB:=hB.trans (hbn.mono hB.size);obtain⟨k0,k1,k2,k3,k4,k5⟩:=bW hB) | (go_at_call 53;refine(h108 _).mono ?_;clear h108;rintro _ wn ⟨rfl,hbn⟩;replace hB:=hB.trans (hbn.mono hB.size);obtain⟨k0,k1,k2,k3,k4,k5⟩:=bW hB))
      go_ret
      exact⟨by rw[<-hr];simp,((Below.refl _ w).alloc (aK _) _).trans (hB.mono (by simp))⟩
     case true=>
      by_cases hv3:f=0
      ·subst hv3
       go_wp2_with (first | (go_at_call 34;refine(h105 _).mono ?_;clear h105;rintro _ wn ⟨rfl,hbn⟩;replace hB:=hB.trans (hbn.mono hB.size);obtain⟨k0,k1,k2,k3,k4,k5⟩:=bW hB) | (go_at_call 50;refine(h90 _).mono ?_;clear h90;rintro _ wn ⟨rfl,hbn⟩;replace hB:=hB.trans (hbn.mono hB.size);obtain⟨k0,k1,k2,k3,k4,k5⟩:=bW hB) | (go_at_call 24;refine(h99 _).mono ?_;clear h99;rintro _ wn ⟨rfl,hbn⟩;replace hB:=hB.trans (hbn.mono hB.size);obtain⟨k0,k1,k2,k3,k4,k5⟩:=bW hB) | (go_at_call 51;refine(h106 _).mono ?_;clear h106;rintro _ wn ⟨rfl,hbn⟩;replace hB:=hB.trans (hbn.mono hB.size);obtain⟨k0,k1,k2,k3,k4,k5⟩:=bW hB) | (go_at_call 52;refine(h107 _).mono ?_;clear h107;rintro _ wn ⟨rfl,hbn⟩;replace hB:=hB.trans (hbn.mono hB.size);obtain⟨k0,k1,k2,k3,k4,k5⟩:=bW hB) | (go_at_call 53;refine(h108 _).mono ?_;clear h108;rintro _ wn ⟨rfl,hbn⟩;replace hB:=hB.trans (hbn.mono hB.size);obtain⟨k0,k1,k2,k3,k4,k5⟩:=bW hB))
       go_ret
       exact⟨by rw[<-hr];simp,((Below.refl _ w).alloc (aK _) _).trans (hB.mono (by simp))⟩
      ·skip
       go_wp2_with (first | (go_at_call 34;refine(h105 _).mono ?_;clear h105;rintro _ wn ⟨rfl,hbn⟩;replace hB:=hB.trans (hbn.mono hB.size);obtain⟨k0,k1,k2,k3,k4,k5⟩:=bW hB) | (go_at_call 50;refine(h90 _).mono ?_;clear h90;rintro _ wn ⟨rfl,hbn⟩;replace hB:=hB.trans (hbn.mono hB.size);obtain⟨k0,k1,k2,k3,k4,k5⟩:=bW hB) | (go_at_call 24;refine(h99 _).mono ?_;clear h99;rintro _ wn ⟨rfl,hbn⟩;replace hB:=hB.trans (hbn.mono hB.size);obtain⟨k0,k1,k2,k3,k4,k5⟩:=bW hB) | (go_at_call 51;refine(h106 _).mono ?_;clear h106;rintro _ wn ⟨rfl,hbn⟩;replace hB:=hB.trans (hbn.mono hB.size);obtain⟨k0,k1,k2,k3,k4,k5⟩:=bW hB) | (go_at_call 52;refine(h107 _).mono ?_;clear h107;rintro _ wn ⟨rfl,hbn⟩;replace hB:=hB.trans (hbn.mono hB.size);obtain⟨k0,k1,k2,k3,k4,k5⟩:=bW hB) | (go_at_call 53;refine(h108 _).mono ?_;clear h108;rintro _ wn ⟨rfl,hbn⟩;replace hB:=hB.trans (hbn.mono hB.size);obtain⟨k0,k1,k2,k3,k4,k5⟩:=bW hB))
       go_ret
       exact⟨by rw[<-hr];simp[hv3],((Below.refl _ w).alloc (aK _) _).trans (hB.mono (by simp))⟩
end
end Go.Proofs.Tryz
