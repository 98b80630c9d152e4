/- A part of the proof of FnWraps: L2Ra, L2Rb. -/
import Derived.Test.YtaegcoihgnobiaaL2Qy
set_option linter.unusedSimpArgs false
set_option linter.unusedVariables false
set_option maxHeartbeats 0
namespace Go.Proofs.Try
open Go Go.VM Go.RowKit
abbrev hdL (f t p fp tp:Int)(o:List Int):List (L bH.ty):=[lv (.int .i64 f),lv (.int .i64 t),lv (.int .i64 p),lv (.int .i64 fp),lv (.int .i64 tp),oB o]
theorem aGm:SatP prog bH 45 (c45 oF).nres (c45 oF).F:=by
 intro w A0 g cur t0 lc l us cs hA hg hArg hlc hl hF;obtain⟨⟨c,a⟩,⟨R0,c0,a0⟩,he,hx,rfl⟩:=rG hF;have he:(.inr lc::l:List (A bH.ty))=[.inr [ls (ro 5 c),lv (.int .i64 a)]]:=he;injection he with h1 h2
 injection h1 with h1
 subst h1;subst h2;obtain rfl:us=[]:=nO.1 hl.1;have hz:okZ (c,a) 700000000:=by
  unfold oF at hx;split at hx
  ·assumption
  ·cases hx
 obtain⟨f,t,p,fp,tp,o,a1,xs,q,v1,v2,e1,e2,n1,n2,hok,e3,e4,hm,e5,b1,b2,eF,eT⟩:=aF7 hz (by omega);simp only at e1 e3 e4 e5 b1 b2 eF eT;have hb2:=hz.2.2.2;simp only at hb2;have hgl:=vM hg;have hv:0<=v1/\v1 < (xs.length:Int):=by
  simp only[bC,nU,or_false]at hm;omega
 have fin:∀ (R:List Int) (a2:Int) (b c2:Nat) (w':World),oF (c,a)=some (R,c,a2)->Sq w A0 g c b R.length c2 R a2 w'->
   ∃ (rs:List Value) (cur':Array Value),Ending.returned (.slice (some ⟨b,0,none⟩) R.length c2)=.returned (pM rs)/\rs.length=(c45 oF).nres/\(∃ t',w'.heap[g]?=some (.cells cur' t' (0,0)))/\Kept (λb=>w.heap.size<=b\/b=g) w w' ∧
    ResV bH w' A0 (λb=>w.heap.size<=b) (.inr (.inl (n45 (R0,c0,a0)))) (.tuple (rs++[Value.agg cur']).toArray):=by
  intro R a2 b c2 w' hm' hS;rw[hx]at hm';cases hm';obtain⟨cur',t',h1,h2⟩:=hS.box;refine⟨[.slice (some ⟨b,0,none⟩) R0.length c2],cur',rfl,rfl,⟨t',h1⟩,hS.kept,[b],by simp,λb' hb=>?_,[.slice (some ⟨b,0,none⟩) R0.length c2,.agg cur'],[[b],[]],rfl,rfl,rfl,rfl,λj x u fq k1 k2 k3=>?_⟩
  ·obtain rfl:b'=b:=by simpa using hb
   exact⟨hS.le,oC hS.row⟩
  ·have k1:([.inl (oB R0),.inr [ls (ro 5 c),lv (.int .i64 a0)]]:List (A bH.ty))[j]?=some x:=k1
   match j with
   | 0=>
    simp only[aI,aA]at k1 k2 k3;subst k1;subst k2;subst k3;exact⟨rfl,1,vC hS.row⟩
   | 1=>
    simp only[bX,aI,aA]at k1 k2 k3;subst k1;subst k2;subst k3;refine aFr (sL (λ_ _=>rfl) (λb' hb=>hb.imp id λh=>⟨h.1,h.2.1,?_⟩) h2);simpa using h.2.2
   | j+2=>simp at k1
 show Calls prog 45 #[.pointer (some ⟨g,0,none⟩)] w λe w'=>∃ (rs:List Value) (cur':Array Value),e=.returned (pM rs)/\rs.length=(c45 oF).nres/\(∃ t',w'.heap[g]?=some (.cells cur' t' (0,0)))/\Kept (λb=>w.heap.size<=b\/b=g) w w' ∧
   ResV bH w' A0 (λb=>w.heap.size<=b) (.inr (.inl (n45 (R0,c0,a0)))) (.tuple (rs++[Value.agg cur']).toArray)
 refine aGQ g xs.length w (λv w1=>ArgA bH w1 (λb=>b < w1.heap.size) (.inr ((hdL f t p fp tp o).map roL)) v/\Sr w A0 g c a1 w1) (λgb cap j zs w1=>Sq w A0 g c gb xs.length cap zs (a1+(j:Int)) w1) q v1 v2 xs (λzs=>lJ (zs.take 20)) (by omega) (by omega) rfl hv.1 hv.2
  (λgb cap j zs w1 h=>h.row) (λgb cap j zs w1 i v hi h=>h.set hA hgl hi v) ?_ ?_ ?_ ?_ ?_ ?_ _ ?_ ?_
 ·refine(aE0 (X:=.inr (hdL f t p fp tp o)) (a2:=a1) aIY (⟨cur,t0,hg,hArg⟩:Bq w g A0 c a) hA [] [] ⟨rfl,by simp⟩ (by
   show some ((m72 (c,a)).isSome,n72 ((m72 (c,a)).getD aH0))=_;rw[e1];rfl)).mono ?_
  rintro e W' ⟨x,f0,S',rfl,h0,k1,k2,k3,k4,k5⟩;have hsz:=k4.size;have h0':=aE8 (S':=λb=>b < W'.heap.size) (λb hb=>by
   rcases k5 b hb with hb | hb
   ·have:=hA b hb;omega
   ·exact hb.2) (λb hb=>(k2 b hb).2) h0
  obtain⟨us,_,hu,_⟩:=id h0;exact⟨us.toArray,by rw[hu],by rw[<-hu];exact h0',k3.mono rfl (λ_ _=>rfl) (λb hb=>hb.imp id λh=>⟨h.1,h.2.1⟩),k4⟩
 ·rintro p5 w1 ⟨h0,hS⟩;refine(aI0 w1 (λb=>b < w1.heap.size) (a63.enc (f,t,p,fp,tp,o)) [.agg p5] (n63 xs) (λ_ h=>h) (xB h0) (by
   show some ((m63 (f,t,p,fp,tp,o)).isSome,n63 ((m63 (f,t,p,fp,tp,o)).getD aH1))=_;rw[e2];rfl)).mono ?_
  rintro e W' ⟨u,rfl,hb,hr⟩;obtain⟨gb,cap,rfl,hq⟩:=hS.row hA hgl hb hr (by intro h;rw[h]at n1;simp at n1);exact⟨gb,cap,rfl,by simpa using hq⟩
 ·intro gb cap w1 h;exact Sq.chance hA hgl (a:=a1) (by simpa using h) e3
 ·intro gb cap w1 h;exact Sq.pick6 hA hgl (a:=a1+1) h e4
 ·intro gb cap w1 h;exact Sq.nx hA hgl (a:=a1+2) h e5
 ·rintro gb cap w1 zs h rfl;exact Sq.sum hA hgl h (by omega) (aAJ hok)
 ·intro hq gb cap w1 h;refine(aD2 hA hgl (a:=a1+1) h (okZ.at hz (c:=900000000) (by simp only;omega) (by omega)) (by omega) (by omega)).mono ?_;rintro e W' ⟨R,a2,b2,c2,hT,rfl,hS⟩;exact⟨_,rfl,fin R a2 b2 c2 W' ((eF hq).trans hT) hS⟩
 ·rintro hq gb cap w1 ys rfl h;refine(aD2 hA hgl (a:=a1+3) (xs:=uO v1 v2 xs) h (okZ.at hz (c:=900000000) (by simp only;omega) (by omega)) (by omega) (by omega)).mono ?_;rintro e W' ⟨R,a2,b2,c2,hT,rfl,hS⟩;exact⟨_,rfl,fin R a2 b2 c2 W' ((eT hq).trans hT) hS⟩
end Go.Proofs.Try
set_option maxHeartbeats 0
namespace Go.Proofs.Try
open Go Go.VM Go.RowKit
section
attribute [local go_sem] Oper.semAt_some
set_option maxRecDepth 100000 in
theorem aMb (u0:Value)(w:World)(S:Nat->Nat->World->Prop)(T U:Nat->Value->World->Prop)(v1 v2:Int)(G:Ending->World->Prop)
  (h41:Calls prog 41 #[u0] w λe w1=>∃ g,e=.returned (.pointer (some ⟨g,0,none⟩))/\S 0 g w1)
  (h44a:∀ g w1,S 0 g w1->Calls prog 44 #[.pointer (some ⟨g,0,none⟩)] w1 λe w2=>e=.returned (.int .i64 v1)/\S 1 g w2)
  (h44b:∀ g w1,S 1 g w1->Calls prog 44 #[.pointer (some ⟨g,0,none⟩)] w1 λe w2=>e=.returned (.int .i64 v2)/\S 2 g w2)
  (h45:∀ g w1,S 2 g w1->Calls prog 45 #[.pointer (some ⟨g,0,none⟩)] w1 λe w2=>∃ u,e=.returned u/\T g u w2)
  (h43:∀ g u w1,T g u w1->Calls prog 43 #[.int .i64 v1,.int .i64 v2,u] w1 λe w2=>∃ u',e=.returned u'/\U g u' w2)
  (h42:∀ g u w1,U g u w1->Calls prog 42 #[.pointer (some ⟨g,0,none⟩),u] w1 λe w2=>∃ u',e=.returned u'/\G (.returned u') w2) :
  Calls prog 11 #[u0] w G:=by
 go_enter func11,ntmps11
 go_wp2_with (first
  | (go_at_call 41;refine h41.mono ?_;clear h41;rintro e w1 ⟨g,rfl,hS0⟩)
  | (go_at_call 44;first | (refine(h44a _ _ hS0).mono ?_;clear h44a;rintro e w2 ⟨rfl,hS1⟩) | (refine(h44b _ _ hS1).mono ?_;clear h44b;rintro e w3 ⟨rfl,hS2⟩))
  | (go_at_call 45;refine(h45 _ _ hS2).mono ?_;rintro e w4 ⟨u,rfl,hT⟩)
  | (go_at_call 43;refine(h43 _ _ _ hT).mono ?_;rintro e w5 ⟨u2,rfl,hU⟩)
  | (go_at_call 42;refine(h42 _ _ _ hU).mono ?_;rintro e w6 ⟨u3,rfl,hG⟩))
 exact hG
end
def xJ (c:List Int):Option (List Int):=if okC c then
  match iT (c,0)with
  | none=>none
  | some (v1,c1,a1)=>
   match iT (c1,a1)with
   | none=>none
   | some (v2,c2,a2)=>
    match oF (c2,a2)with
    | none=>none
    | some (o,c3,a3)=>
     match lL (v1,v2,o)with
     | none=>none
     | some xs=>(qZ ((c3,a3),xs)).map (λt=>t.1)
 else none
theorem aDa {c:List Int}(h:okC c):∃ v1 v2 o a3,iT (c,0)=some (v1,c,3)/\iT (c,3)=some (v2,c,6)/\oF (c,6)=some (o,c,a3)/\lL (v1,v2,o)=some (eP v1 v2 o)/\gE o=true/\o.length<=33/\0<=a3/\a3<=200 ∧
  xJ c=(qZ ((c,a3),eP v1 v2 o)).map (λt=>t.1):=by
 obtain⟨v1,e1⟩:=oS h.src (by omega);have s1:=h.src.add (k:=3) (by omega);obtain⟨v2,e2⟩:=oS s1 (by omega);have s2:=s1.add (k:=3) (by omega);obtain⟨o,a3,e3,ho,hl,h1,h2⟩:=aE1 s2 (by omega);simp only[show(0:Int)+3=3 from rfl,show(3:Int)+3=6 from rfl]at e1 e2 e3 h1 h2;have e4:lL (v1,v2,o)=some (eP v1 v2 o):=if_pos (by show o.length<=100000;omega);refine⟨v1,v2,o,a3,e1,e2,e3,e4,ho,hl,by omega,by omega,?_⟩;unfold xJ;rw[if_pos h,e1];simp only;rw[e2];simp only;rw[e3];simp only;rw[e4]
theorem aHY {c:List Int}(h:okC c):∃ R,xJ c=some R/\gE R=true/\R.length<=60:=by
 obtain⟨v1,v2,o,a3,e1,e2,e3,e4,ho,hl,h1,h2,e⟩:=aDa h;have hlen:=mA v1 v2 o;obtain⟨q,i,k,v,_,_,_,_,_,_,eT⟩:=aCt (s:=(c,a3)) (okZ.at h.src (by simpa using h1) (c:=800000000) (by omega)) (by omega) (xs:=eP v1 v2 o) (by omega);have:=uS (q:=q) (i:=i) (k:=k) (v:=v) (uN (f:=v1) (t:=v2) ho);exact⟨_,by rw[e,eT];rfl,this.1,by omega⟩
theorem aI9:Sat prog bH 11 (c11 xJ):=by
 intro w A0 l us r hA hargs hF;obtain⟨c,t,rfl,hx,rfl⟩:=aAd hF;obtain⟨u0,rfl,_⟩:=aFB (show ArgAs bH w A0 [.inl (ls (ro 5 c))] us from hargs);have hok:okC c:=by
  unfold xJ at hx;split at hx
  ·assumption
  ·cases hx
 obtain⟨v1,v2,o,a3,e1,e2,e3,e4,ho,hl,h1,h2,e⟩:=aDa hok;have hlen:=mA v1 v2 o;show Calls prog 11 #[u0] w λe w'=>∃ u,e=.returned u/\Below w.heap.size w w'/\ResV bH w' A0 (λb=>w.heap.size<=b) (n11 t) u
 refine aMb u0 w (λk g W=>w.heap.size<=g/\g < W.heap.size/\Below w.heap.size w W/\Bq W g (λb=>b < W.heap.size/\b≠g) c (3 * (k:Int)))
  (λg u W=>w.heap.size<=g/\g < W.heap.size/\Below w.heap.size w W/\Bq W g (λb=>b < W.heap.size/\b≠g) c a3/\ArgA bH W (λb=>b < W.heap.size) (.inl (ls (ro 5 o))) u)
  (λg u W=>∃ w0 gb cap,w.heap.size<=g/\g < w0.heap.size/\Below w.heap.size w w0/\u=.slice (some ⟨gb,0,none⟩) (eP v1 v2 o).length cap/\Sq w0 (λb=>b < w0.heap.size/\b≠g) g c gb (eP v1 v2 o).length cap (eP v1 v2 o) a3 W) v1 v2 _ ?_ ?_ ?_ ?_ ?_ ?_
 ·refine(aGn w A0 (a41.enc c) [u0] [ls (ro 5 c),lv (.int .i64 0)] hA hargs rfl).mono ?_;rintro e w1 ⟨g,cur,t,rfl,hg,hh,hb,hArg⟩;have hs:=hb.size;exact⟨g,rfl,hg,vM hh,hb,⟨cur,t,hh,sL (λ_ _=>rfl) (λb hb'=>by
   rcases hb' with h | h
   ·have:=hA b h;exact⟨by omega,by omega⟩
   ·exact⟨h.2.1,h.2.2⟩) hArg⟩⟩
 ·rintro g w1 ⟨q1,q2,q3,q4⟩;refine(aC9 (v:=.int .i64 v1) (a2:=3) aCy q4 (λb hb=>hb) [] [] ⟨rfl,by simp⟩ (by
   show some ((iT (c,0)).isSome,n44 ((iT (c,0)).getD aF1))=_;rw[e1];rfl)).mono ?_
  rintro e w2 ⟨rfl,k1,k2⟩;have hs:=k2.size;have hs1:=q3.size;exact⟨rfl,q1,by omega,q3.trans ⟨k2.os,k2.tape,k2.output,k2.size,λk hk=>k2.block k (by omega)⟩,k1.mono rfl (λ_ _=>rfl) λb hb=>by omega⟩
 ·rintro g w1 ⟨q1,q2,q3,q4⟩;refine(aC9 (v:=.int .i64 v2) (a2:=6) aCy q4 (λb hb=>hb) [] [] ⟨rfl,by simp⟩ (by
   show some ((iT (c,3)).isSome,n44 ((iT (c,3)).getD aF1))=_;rw[e2];rfl)).mono ?_
  rintro e w2 ⟨rfl,k1,k2⟩;have hs:=k2.size;have hs1:=q3.size;exact⟨rfl,q1,by omega,q3.trans ⟨k2.os,k2.tape,k2.output,k2.size,λk hk=>k2.block k (by omega)⟩,k1.mono rfl (λ_ _=>rfl) λb hb=>by omega⟩
 ·rintro g w1 ⟨q1,q2,q3,q4⟩;refine(aE0 (X:=.inl (oB o)) (a2:=a3) aGm q4 (λb hb=>hb) [] [] ⟨rfl,by simp⟩ (by
   show some ((oF (c,6)).isSome,n45 ((oF (c,6)).getD aKk))=_;rw[e3];rfl)).mono ?_
  rintro e w2 ⟨u,f0,S',rfl,k0,_,kf,k1,k2,k3⟩;have hs:=k2.size;have hs1:=q3.size;refine⟨u,rfl,q1,by omega,q3.trans ⟨k2.os,k2.tape,k2.output,k2.size,λk hk=>k2.block k (by omega)⟩,k1.mono rfl (λ_ _=>rfl) λb hb=>by omega,ArgA.leaf rfl (aDf (l:=oB o) (aCD (S:=S') dG (λb hb=>?_) (λb hb=>(kf b hb).2) k0))⟩;have:=k3 b hb;omega
 ·rintro g u w1 ⟨q1,q2,q3,q4,q5⟩;refine(aEf w1 (λb=>b < w1.heap.size) (a43.enc (v1,v2,o)) [.int .i64 v1,.int .i64 v2,u] (n43 (eP v1 v2 o)) (λ_ h=>h) ⟨rfl,λj x y k1 k2=>?_⟩ (by
   show some ((lL (v1,v2,o)).isSome,n43 ((lL (v1,v2,o)).getD aH5))=_;rw[e4];rfl)).mono ?_
  ·have k1:([.inl (lv (.int .i64 v1)),.inl (lv (.int .i64 v2)),.inl (ls (ro 5 o))]:List (A bH.ty))[j]?=some x:=k1
   match j with
   | 0=>
    simp only[aI,aA]at k1 k2;subst k1;subst k2;exact rfl
   | 1=>
    simp only[bX,aI,aA]at k1 k2;subst k1;subst k2;exact rfl
   | 2=>
    simp only[bX,aI,aA]at k1 k2;subst k1;subst k2;exact q5
   | j+3=>simp at k1
  ·rintro e w2 ⟨u',rfl,hb,hr⟩;obtain⟨gb,cap,rfl,hq⟩:=Sr.row (w0:=w1) (A0:=λb=>b < w1.heap.size/\b≠g) (g:=g) (c:=c) (a:=a3) (λb hb=>hb) q2 ⟨q4.mono rfl (λ_ _=>rfl) λb hb=>.inl hb,Kept.refl _ _⟩ hb hr (by intro h;rw[h]at hlen;simp at hlen;omega);exact⟨_,rfl,w1,gb,cap,q1,q2,q3,rfl,hq⟩
 ·rintro g u w1 ⟨w0,gb,cap,q1,q2,q3,rfl,q4⟩;refine(aD2 (λb hb=>hb) q2 q4 (okZ.at hok.src (by simpa using h1) (by omega)) (by omega) (by omega)).mono ?_;rintro e w2 ⟨R,a2,b2,c2,hT,rfl,hS⟩;have hR:t=R:=by
   rw[hx,hT]at e;simpa using e
  subst hR;have hk:=hS.kept;have hle:=hS.le;have hs:=q3.size;refine⟨_,rfl,_,rfl,q3.trans ⟨hk.os,hk.tape,hk.output,hk.size,λk hk'=>hk.block k (by omega)⟩,[b2],by simp,λb hb=>?_,rfl,1,vC hS.row⟩;obtain rfl:b=b2:=by simpa using hb
  exact⟨by omega,oC hS.row⟩
end Go.Proofs.Try
