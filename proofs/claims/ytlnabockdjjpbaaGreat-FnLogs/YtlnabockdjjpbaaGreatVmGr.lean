/- A part of the proof of FnLogs: VmGr, VmGs. -/
import Derived.Test.YtlnabockdjjpbaaGreatVmPl
import Derived.WalkKit
import Derived.OwnWalkIn
import Derived.Below
import Derived.WalkMore
import Derived.Test.YtlnabockdjjpbaaGreatVmCb
set_option linter.unusedSimpArgs false
set_option linter.unusedVariables false
namespace Go
open Go.VM
open Go.IntKind (wrap)
open Go.RowKit
section
variable {P : Program} (w : World)
theorem oY (t ti ty e:TypeId)(k:IntKind)(i:TypeInfo)(z:Value)(ht:P.underlying t=some (.slice e))(hti:P.underlying ti=some (.int k))(hi:P.info? e=some i)(hz:i.zero=some z)(hzs:z.cells.size=i.size)
  (n:Nat) (h0:0 < n) (h63:(n:Int)<=9223372036854775807) (h48:n * i.bytes<=281474976710656) :
  ∃ cur:Array Value,cur.size=grownCap w n 0 e * i.size/\(Builtin.append_ #[t,ti] ty #[.slice none 0 0,.int .i64 n]).run P w=
   .ok (.slice (some ⟨w.heap.size,0,none⟩) n (grownCap w n 0 e)) (w.drew.alloc (.cells cur e)):=by
 have hn:n≠0:=by omega
 have h63':¬ (9223372036854775807 < (n:Int)):=by omega
 have h48':¬ (281474976710656 < Builtin.nextslicecap n 0 * i.bytes):=by rw[nextslicecap_zero h0];omega
 have hw:wrap .i64 (n:Int)=n:=VM.wi (by omega) h63;have hneg:¬ ((n:Int) < 0):=by omega
 have h48i:¬ (281474976710656 < (n:Int) * (i.bytes:Int)):=by
  have:((n * i.bytes:Nat):Int)=(n:Int) * (i.bytes:Int):=by simp
  omega
 have hge:=grownCap_ge w n 0 e;by_cases hs:i.size=0
 ·refine⟨#[]++Builtin.zeroCells z.cells (grownCap w n 0 e-n),?_,?_⟩
  ·simp[size_zeroCells,hzs,hs]
  ·simp[Builtin.append_,run_underlying ht,run_underlying hti,sizeOf,typeInfo,zeroValue,hi,hz,Builtin.lenOf,hn,h63',h48',Question.forced,run_firstCells_none,newRow,grownCap,hw,hneg,h48i,asInt,asIntOf,hs]
 ·refine⟨Builtin.zeroCells z.cells n++Builtin.zeroCells z.cells (grownCap w n 0 e-n),?_,?_⟩
  ·rw[Array.size_append,size_zeroCells,size_zeroCells,hzs,<-fF];congr 1;omega
  ·simp[Builtin.append_,run_underlying ht,run_underlying hti,sizeOf,typeInfo,zeroValue,hi,hz,Builtin.lenOf,hn,h63',h48',Question.forced,run_firstCells_none,newRow,grownCap,hw,hneg,h48i,asInt,asIntOf];intro h;exact absurd h (Nat.ne_of_gt (Nat.mul_pos h0 (Nat.pos_of_ne_zero hs)))
end
theorem lZ {P : Program} (w : World) {ops : Array Oper} {rest : List Oper} {o : Oper} {a : Act} {Q : Exit → Act → World → Prop} (hgd : o.guard = none) (s x : Operand) (t ti : TypeId) (k : IntKind)
    (ho : o.op = .call { callee := .builtin .append, args := #[s, x], argTypes := #[t, ti] })
    (e : TypeId) (i : TypeInfo) (z : Value) (size bytes : Nat) (ht : P.underlying t = some (.slice e)) (hti : P.underlying ti = some (.int k)) (hi : P.info? e = some i) (hz : i.zero = some z)
    (hsize : i.size = size) (hby : i.bytes = bytes) (hzs : z.cells.size = size)
    (hs : a.eval s = .slice none 0 0) (n : Nat) (hx : a.eval x = .int .i64 n) (h0 : 0 < n) (h63 : n ≤ maxLen) (hbytes : n * bytes ≤ 140737488355328)
    (h : ∀ cap w', n ≤ cap → w'.ownsRow w.heap.size e size (.slice (some ⟨w.heap.size, 0, none⟩) 0 cap) 0 [] → Below w.heap.size w w' → wpList P ops Q rest (a.put o.dst (.slice (some ⟨w.heap.size, 0, none⟩) n cap)) w') :
    wpList P ops Q (o :: rest) a w := by
  subst hsize; subst hby
  have h63i : (n : Int) ≤ 9223372036854775807 := by have : maxLen ≤ 9223372036854775807 := by decide
                                                    omega
  obtain ⟨cur, hc, hr⟩ := oY (P := P) w t ti o.type e k i z ht hti hi hz hzs n h0 h63i (by omega)
  have hcap := grownCap_le_maxLen w n 0 e h63
  have hge := grownCap_ge w n 0 e
  refine wpList_plain hgd fun K hK' => ?_
  unfold Oper.wp execOp
  simp only [ho, resolve, invoke, builtin, Sem.run_bind, Sem.run_pure, Result.andThen_ok, gD, bQ, jR, hs, hx, hr]
  exact hK' _ _ (h _ _ hge ((World.ownsRow_made w.drew cur _ (aI _) hcap hc)) (((Below.refl w.heap.size w).drew).alloc (aI _) _))
theorem pN {P:Program}(w:World)(base:Nat)(t ty e:TypeId)(i:TypeInfo)(ht:P.underlying t=some (.slice e))(hi:P.info? e=some i)(size:Nat)(v:Value)(n:Nat)(xs:List Value)(hown:w.ownsRow base e size v n xs)(c:Nat) :
  (Builtin.append_ #[t,t] ty #[v,.slice none 0 c]).run P w=.ok v w:=by
 rcases hown.2 with⟨rfl,rfl⟩ | ⟨g,cap,cur,rfl,hbg,hg,hnc,hcm,hcs,htake⟩
 ·simp[Builtin.append_,run_underlying ht,sizeOf,typeInfo,hi,Builtin.lenOf,Builtin.firstCells]
 ·simp[Builtin.append_,run_underlying ht,sizeOf,typeInfo,hi,Builtin.lenOf,Builtin.firstCells,hnc,storeCells]
theorem nJ {P:Program}(w:World){ops:Array Oper}{rest:List Oper}{o:Oper}{a:Act}{Q:Exit->Act->World->Prop}(hgd:o.guard=none)(s x:Operand)(t:TypeId)
  (ho:o.op=.call { callee:=.builtin .append,args:=#[s,x],argTypes:=#[t,t] })
  (base:Nat) (e:TypeId) (i:TypeInfo) (size:Nat) (ht:P.underlying t=some (.slice e)) (hi:P.info? e=some i)
  (v:Value) (n:Nat) (xs:List Value) (hs:a.eval s=v) (hown:w.ownsRow base e size v n xs) (c:Nat) (hx:a.eval x=.slice none 0 c)
  (h:wpList P ops Q rest (a.put o.dst v) w):wpList P ops Q (o::rest) a w:=by
 have hr:=pN (P:=P) w base t o.type e i ht hi size v n xs hown c;refine wpList_plain hgd λK hK'=>?_
 unfold Oper.wp execOp;simp only[ho,resolve,invoke,builtin,Sem.run_bind,Sem.run_pure,Result.andThen_ok,gD,bQ,jR,hs,hx,hr];exact hK' _ _ h
theorem aA9 {W W':World}{B e size n:Nat}{v:Value}{xs:List Value}(hB:B<=W.heap.size)(hown:W.ownsRow B e size v n xs)(hg:W.grownBy W' v.ownBlock):Below B W W':=
 (Below.refl B W).grown hg hB λk e=>by
  rcases hown.2 with⟨rfl,_⟩ | ⟨g,cap,cur,rfl,hb,_,_⟩
  ·cases e
  ·obtain rfl:g=k:=by simpa[Value.ownBlock]using e
   exact hb
end Go
namespace Go.VM
open Go.IntKind (wrap)
open Go Go.RowKit
section
variable {cx : Cx}
theorem aCj {w:World}{S:Nat->Prop}{n:Nat}{e:Nat}{xs:List (cx.ty e)}{u:Value}(h:RepL cx w S n (some (.inr (ro e xs))) u) :
  ∃ q c,u=.slice q xs.length c/\xs.length<=c/\(xs=[]\/∃ b off,q=some ⟨b,off,none⟩/\S b/\∀ i x,xs[i]?=some x->∀ j l,(cx.enc e false x)[j]?=some l->∃ v m,w.cell? ⟨b,off+(i * cx.size e+j),none⟩=some v/\RepL cx w S m l v):=by
 cases n with
 | zero=>exact h.elim
 | succ n=>
  obtain⟨a,cap,hu,hc,h⟩:=h;refine⟨a,cap,hu,hc,?_⟩;rcases h with h | ⟨b,off,ha,hS,h⟩
  ·exact .inl h
  ·refine .inr ⟨b,off,ha,hS,λi x hx j l hl=>?_⟩;obtain⟨v,h1,h2⟩:=h i x hx j l hl;exact⟨v,n,h1,h2⟩
theorem aBC {α β:Type}(f:α->List β)(k:Nat)(hk:0 < k)(hf:∀ x,(f x).length=k)(xs:List α)(j:Nat)(y:β)(h:(xs.flatMap f)[j]?=some y):∃ x,xs[j / k]?=some x/\(f x)[j % k]?=some y:=by
 have hj:j < (xs.flatMap f).length:=(aE.1 h).1;rw[dV f k hf]at hj;have hi:j / k < xs.length:=Nat.div_lt_of_lt_mul (by rw[kY];exact hj);have hx:=aC hi;refine⟨_,hx,?_⟩;have:=gB f k hf xs (j / k) _ hx (j % k) (rW _ hk);rw[kY,kP]at this;rw[<-this];exact h
theorem aDL (ok:cx.Ok){w:World}{S:Nat->Prop}{n:Nat}{e:Nat}(hf:cx.flat e=true)(hp:0 < cx.size e){xs:List (cx.ty e)}{u:Value}(h:RepL cx w S n (some (.inr (ro e xs))) u) :
  ∃ q c,u=.slice q xs.length c/\xs.length<=c/\(xs=[]\/∃ b off,q=some ⟨b,off,none⟩/\S b/\∀ j v,(bD cx e xs)[j]?=some v->w.cell? ⟨b,off+j,none⟩=some v):=by
 obtain⟨q,c,hu,hc,h⟩:=aCj h;refine⟨q,c,hu,hc,?_⟩;rcases h with h | ⟨b,off,ha,hS,h⟩
 ·exact .inl h
 ·refine .inr ⟨b,off,ha,hS,λj v hv=>?_⟩;have hm:(xs.flatMap (cx.enc e false))[j]?=some (lv v):=by
   rw[iL ok hf false,aL,hv];rfl
  obtain⟨x,hx,hl⟩:=aBC _ _ hp (λx=>ok.len e false x) xs j _ hm;obtain⟨v',m,h1,h2⟩:=h _ x hx _ _ hl;have e1:j / cx.size e * cx.size e+j % cx.size e=j:=by rw[kY];exact kP ..
  rw[e1]at h1;have e2:v'=v:=by
   cases m<;>simpa[RepL,lv]using h2
  rw[h1,e2]
theorem aE1 (ok:cx.Ok){w':World}{A0:Nat->Prop}{e:Nat}(hf:cx.flat e=true){xs:List (cx.ty e)}{v:Value}{N:Nat->Prop}(hN:∀ b,v.ownBlock=some b->N b/\b < w'.heap.size)
  (h:w'.ownsRow 0 e (cx.size e) v xs.length (bD cx e xs)):ResV cx w' A0 N (.inl (.inl (ls { own:=2,nm:=0,e:=e,o:=true,xs:=xs }))) v:=by
 refine⟨v.ownBlock.toList,?_,λb hb=>hN b (by simpa using hb),?_⟩
 ·cases v.ownBlock<;>simp
 ·have:=nQ (s:={ own:=2,nm:=0,e:=e,o:=true,xs:=xs }) ok hf h;show ResA cx w' (λb=>A0 b\/(N b/\b < w'.heap.size/\b∉v.ownBlock.toList)) (.inl (ls { own:=2,nm:=0,e:=e,o:=true,xs:=xs })) v v.ownBlock.toList;unfold ResA ResL;simp only[ls,if_true];exact⟨trivial,1,this⟩
theorem yV {w:World}{B e size n:Nat}{v:Value}{xs:List Value}(h:w.ownsRow B e size v n xs):w.ownsRow 0 e size v n xs:=
 ⟨h.1,h.2.imp id λ⟨g,cap,cur,h1,_,h3⟩=>⟨g,cap,cur,h1,eN _,h3⟩⟩
end
end Go.VM
