/- A part of the proof of FnWraps: L2Qu. -/
import Derived.Test.YtaegcoihgnobiaaL2Qt
set_option linter.unusedSimpArgs false
set_option linter.unusedVariables false
namespace Go.Proofs.Try
open Go Go.VM Go.RowKit
section
attribute [local go_sem] Oper.semAt_some
set_option maxRecDepth 100000 in
set_option maxHeartbeats 8000000 in
theorem aGQ (g n:Nat)(W:World)(S1:Value->World->Prop)(T:Nat->Nat->Nat->List Int->World->Prop)(q:Bool)(v1 v2:Int)(xs:List Int)(sm:List Int->Int)(hn:20<=n)(hn2:n<=1000000)(hxs:xs.length=n)(h10:0<=v1)(h11:v1 < n)
  (hrow:∀ gb cap j zs w,T gb cap j zs w->w.ownsRow gb 5 1 (.slice (some ⟨gb,0,none⟩) n cap) n (bV zs))
  (hset:∀ gb cap j zs w (i:Nat) (v:Int),i < n->T gb cap j zs w->T gb cap j (zs.set i v) (w.setCell ⟨gb,i,none⟩ (.int .u8 v)))
  (h72:Calls prog 72 #[.pointer (some ⟨g,0,none⟩)] W λe w'=>∃ p5,e=.returned (.agg p5)/\S1 (.agg p5) w')
  (h63:∀ p5 w,S1 (.agg p5) w->Calls prog 63 #[.agg p5] w λe w'=>∃ gb cap,e=.returned (.slice (some ⟨gb,0,none⟩) n cap)/\T gb cap 0 xs w')
  (h55:∀ gb cap w,T gb cap 0 xs w->Calls prog 55 #[.pointer (some ⟨g,0,none⟩),.int .i64 6] w λe w'=>e=.returned (.bool q)/\T gb cap 1 xs w')
  (h57:∀ gb cap w,T gb cap 1 xs w->Calls prog 57 #[.pointer (some ⟨g,0,none⟩),.slice (some ⟨w.heap.size,0,none⟩) 6 6] (w.alloc (.cells #[.int .i64 1,.int .i64 4,.int .i64 6,.int .i64 7,.int .i64 8,.int .i64 9] 2)) λe w'=>e=.returned (.int .i64 v1)/\T gb cap 2 xs w')
  (h56:∀ gb cap w,T gb cap 2 xs w->Calls prog 56 #[.pointer (some ⟨g,0,none⟩),.int .i64 3] w λe w'=>e=.returned (.int .i64 v2)/\T gb cap 3 xs w')
  (h73:∀ gb cap w zs,T gb cap 3 zs w->zs=((xs.set v1.toNat (v2 % 256)).set 10 0).set 11 0->Calls prog 73 #[.slice (some ⟨gb,0,none⟩) 20 cap] w λe w'=>e=.returned (.int .i64 (sm zs))/\T gb cap 3 zs w')
  (G:Ending->World->Prop)
  (h42a:q=false->∀ gb cap w,T gb cap 1 xs w->Calls prog 42 #[.pointer (some ⟨g,0,none⟩),.slice (some ⟨gb,0,none⟩) n cap] w λe w'=>∃ u,e=.returned u/\G (.returned u) w')
  (h42b:q=true->∀ gb cap w ys,ys=((xs.set v1.toNat (v2 % 256)).set 10 0).set 11 0->T gb cap 3 ((ys.set 10 (wrap64 ((sm ys).tdiv 256) % 256)).set 11 ((sm ys).tmod 256 % 256)) w->Calls prog 42 #[.pointer (some ⟨g,0,none⟩),.slice (some ⟨gb,0,none⟩) n cap] w λe w'=>∃ u,e=.returned u/\G (.returned u) w') :
  Calls prog 45 #[.pointer (some ⟨g,0,none⟩)] W G:=by
 cases q with
 | false=>
  have h42:=h42a rfl;clear h42a h42b h57 h56 h73
  go_enter func45,ntmps45
  go_wp2_with (first
   | (go_at_call 72;refine h72.mono ?_;rintro e w1 ⟨p5,rfl,hS1⟩)
   | (go_at_call 63;refine(h63 _ _ hS1).mono ?_;rintro e w2 ⟨gb,cap,rfl,hS2⟩)
   | (go_at_call 55;refine(h55 _ _ _ hS2).mono ?_;rintro e w3 ⟨rfl,hS3⟩)
   | (go_at_call 42;refine(h42 _ _ _ hS3).mono ?_;rintro e w9 ⟨u,rfl,hG⟩))
  exact hG
 | true=>
  have h42:=h42b rfl;clear h42a h42b
  go_enter func45,ntmps45
  go_wp2_with (first
   | (go_at_call 72;refine h72.mono ?_;rintro e w1 ⟨p5,rfl,hS1⟩)
   | (go_at_call 63;refine(h63 _ _ hS1).mono ?_;rintro e w2 ⟨gb,cap,rfl,hS2⟩)
   | (go_at_call 55;refine(h55 _ _ _ hS2).mono ?_;rintro e w3 ⟨rfl,hS3⟩)
   | (go_at_call 57;refine(h57 _ _ _ hS3).mono ?_;rintro e w4 ⟨rfl,hS4⟩)
   | (go_at_call 56;refine(h56 _ _ _ hS4).mono ?_;rintro e w5 ⟨rfl,hS5⟩;have hcap:20<=cap:=(by obtain⟨_,_,_,_,h,_⟩:=eD (hrow _ _ _ _ _ hS5);omega);obtain⟨c0,f0,_⟩:=kZ (hrow _ _ _ _ _ hS5) (i:=v1.toNat) (by omega);have hS6:=hset _ _ _ _ _ v1.toNat (v2 % 256) (by omega) hS5;obtain⟨c1,f1,_⟩:=kZ (hrow _ _ _ _ _ hS6) (i:=10) (by omega);have hS7:=hset _ _ _ _ _ 10 0 (by omega) hS6;obtain⟨c2,f2,_⟩:=kZ (hrow _ _ _ _ _ hS7) (i:=11) (by omega);have hS8:=hset _ _ _ _ _ 11 0 (by omega) hS7)
   | (go_at_call 73;refine(h73 _ _ _ _ hS8 rfl).mono ?_;rintro e w6 ⟨rfl,hS9⟩;obtain⟨c3,f3,_⟩:=kZ (hrow _ _ _ _ _ hS9) (i:=10) (by omega);have hS10:=hset _ _ _ _ _ 10 (wrap64 ((sm (((xs.set v1.toNat (v2 % 256)).set 10 0).set 11 0)).tdiv 256) % 256) (by omega) hS9;obtain⟨c4,f4,_⟩:=kZ (hrow _ _ _ _ _ hS10) (i:=11) (by omega);have hS11:=hset _ _ _ _ _ 11 ((sm (((xs.set v1.toNat (v2 % 256)).set 10 0).set 11 0)).tmod 256 % 256) (by omega) hS10)
   | (go_at_call 42;refine(h42 _ _ _ _ rfl hS11).mono ?_;rintro e w9 ⟨u,rfl,hG⟩))
  exact hG
end
end Go.Proofs.Try
