/- A part of the proof of FnExactApplyCmd: VmB, VmC, VmD, VmE, VmF, VmG, VmH, VmI. -/
import Derived.Test.YtfncedbejffggaaGreatVmA17
set_option linter.unusedSimpArgs false
set_option linter.unusedVariables false
namespace Go.VM
open Go.IntKind (wrap)
open Go.RowKit
section
variable {cx : Cx} {P : Program}
def aF9 {β:Type}(P:Program)(o:Oper)(slots:List (V cx.ty))(op:BinOp)(x y:Operand)(k:Eff cx.ty->Option β):Option β:=
 match op,dU slots x,dU slots y with
 | .quo,.inl (.inl (some (.inl (.int kx a)))),.inl (.inl (some (.inl (.int ky b))))=>
  if kx=ky then bif b == 0 then none else k (fY (vv (.int kx (kx.wrap (a.tdiv b)))) [])else none
 | .rem,.inl (.inl (some (.inl (.int kx a)))),.inl (.inl (some (.inl (.int ky b))))=>
  if kx=ky then bif b == 0 then none else k (fY (vv (.int kx (a.tmod b))) [])else none
 | .shl,.inl (.inl (some (.inl (.int kx a)))),.inl (.inl (some (.inl (.int _ b))))=>
  bif decide (b < 0)then none else k (fY (vv (.int kx (kx.wrap (a * 2 ^ (min b.toNat kx.bits))))) [])
 | .shr,.inl (.inl (some (.inl (.int kx a)))),.inl (.inl (some (.inl (.int _ b))))=>
  bif decide (b < 0)then none else k (fY (vv (.int kx (a.fdiv (2 ^ (min b.toNat kx.bits))))) [])
 | .add,.inl (.inl (some (.inl (.string a)))),.inl (.inl (some (.inl (.string b))))=>
  bif decide (a.size+b.size<=1000000000)then k (fY (vv (.string (a++b))) [])else none
 | _,_,_=>pY P o slots k
theorem aEc {β:Type}{o:Oper}{slots:List (V cx.ty)}{nm0:Nat}{op:BinOp}{xt yt:TypeId}{x y:Operand}(ho:o.op=.binOp op xt x y yt){k:Eff cx.ty->Option β}{r:β}
  (h:aF9 P o slots op x y k=some r):∃ ef,k ef=some r/\EffOK P cx o slots nm0 ef:=by
 have hxm:x∈o.op.operands:=by simp[ho,Op.operands]
 have hym:y∈o.op.operands:=by simp[ho,Op.operands]
 unfold aF9 at h;split at h
 ·rename_i kx a ky b hx hy;split at h
  ·rename_i hk;subst hk;cases hb:(b == 0)with
   | true=>rw[hb]at h;simp at h
   | false=>
    rw[hb]at h;refine⟨_,h,eC λc ρ hw hop _=>?_⟩;have h1:=hop x hxm;rw[hx]at h1;have h1:ρ x=.int kx a:=h1;have h2:=hop y hym;rw[hy]at h2;have h2:ρ y=.int kx b:=h2;have hb0:¬ b=0:=by simpa using hb
    refine⟨_,?_,rfl⟩;unfold execOp;simp[ho,h1,h2,eqGuard,binOp,Op.intDiv,hb0]
  ·simp at h
 ·rename_i kx a ky b hx hy;split at h
  ·rename_i hk;subst hk;cases hb:(b == 0)with
   | true=>rw[hb]at h;simp at h
   | false=>
    rw[hb]at h;refine⟨_,h,eC λc ρ hw hop _=>?_⟩;have h1:=hop x hxm;rw[hx]at h1;have h1:ρ x=.int kx a:=h1;have h2:=hop y hym;rw[hy]at h2;have h2:ρ y=.int kx b:=h2;have hb0:¬ b=0:=by simpa using hb
    refine⟨_,?_,rfl⟩;unfold execOp;simp[ho,h1,h2,eqGuard,binOp,Op.intDiv,hb0]
  ·simp at h
 ·rename_i kx a ky b hx hy;cases hb:decide (b < 0)with
  | true=>rw[hb]at h;simp at h
  | false=>
   rw[hb]at h;refine⟨_,h,eC λc ρ hw hop _=>?_⟩;have h1:=hop x hxm;rw[hx]at h1;have h1:ρ x=.int kx a:=h1;have h2:=hop y hym;rw[hy]at h2;have h2:ρ y=.int ky b:=h2;have hb0:¬ b < 0:=by simpa using hb
   refine⟨_,?_,rfl⟩;unfold execOp;simp[ho,h1,h2,eqGuard,binOp,Op.shift,hb0]
 ·rename_i kx a ky b hx hy;cases hb:decide (b < 0)with
  | true=>rw[hb]at h;simp at h
  | false=>
   rw[hb]at h;refine⟨_,h,eC λc ρ hw hop _=>?_⟩;have h1:=hop x hxm;rw[hx]at h1;have h1:ρ x=.int kx a:=h1;have h2:=hop y hym;rw[hy]at h2;have h2:ρ y=.int ky b:=h2;have hb0:¬ b < 0:=by simpa using hb
   refine⟨_,?_,rfl⟩;unfold execOp;simp[ho,h1,h2,eqGuard,binOp,Op.shift,hb0]
 ·rename_i a b hx hy;cases hb:decide (a.size+b.size<=1000000000)with
  | false=>rw[hb]at h;simp at h
  | true=>
   rw[hb]at h;refine⟨_,h,eC λc ρ hw hop _=>?_⟩;have h1:=hop x hxm;rw[hx]at h1;have h1:ρ x=.string a:=h1;have h2:=hop y hym;rw[hy]at h2;have h2:ρ y=.string b:=h2;have hle:=of_decide_eq_true hb;refine⟨_,?_,rfl⟩;have hr:=run_string_add_sum (P:=P) (w:=c.w) a b (by omega);unfold execOp;simp[ho,h1,h2,eqGuard,binOp,hr]
 ·exact kC h
theorem aAW {o:Oper}{slots:List (V cx.ty)}{nm0:Nat}{x:Operand}(ho:o.op=.move x\/o.op=.assign x):EffOK P cx o slots nm0 (fY (dU slots x) []):=
 eC λc ρ hw hop _=>by
  refine⟨ρ x,?_,hop x (by rcases ho with ho | ho<;>simp[ho,Op.operands])⟩;unfold execOp;rcases ho with ho | ho<;>simp[ho]
abbrev Kt (cx:Cx):=FuncId->Option (List (A cx.ty)->Option (Bool×V cx.ty))
def aAQ {β:Type}(P:Program)(Kc:Kt cx)(o:Oper)(cl:Call)(slots:List (V cx.ty))(nm0:Nat)(k:Eff cx.ty->Option β):Option β:=
 match cl.callee with
 | .value (.func f)=>aFf P Kc slots f cl.args.toList cl.argTypes.toList nm0 k
 | .value x=>match dU slots x with
  | .inl (.inl (some (.inl (.func (.func f) a b))))=>if a.toList.isEmpty&&b.toList.isEmpty then aFf P Kc slots f cl.args.toList cl.argTypes.toList nm0 k else none
  | .inr (.inr p)=>aCY P Kc slots p cl.args.toList cl.argTypes.toList nm0 k
  | _=>none
 | .builtin .len=>match cl.args.toList,cl.argTypes.toList with
  | [x],[t]=>aIF P o slots t x k
  | _,_=>none
 | .builtin .append=>match cl.args.toList,cl.argTypes.toList with
  | [x,y],[t,t']=>if t=t' then rJ P cx slots t x y nm0 k else none
  | _,_=>none
 | _=>pY P o slots k
theorem aEa (ok:cx.Ok)(hZ:cx.POk P){Kc:Kt cx}(hK:KOk P cx Kc){β:Type}{o:Oper}{cl:Call}{slots:List (V cx.ty)}{nm0:Nat}(ho:o.op=.call cl){k:Eff cx.ty->Option β}{r:β}
  (h:aAQ P Kc o cl slots nm0 k=some r):∃ ef,k ef=some r/\EffOK P cx o slots nm0 ef:=by
 obtain⟨callee,args,ts⟩:=cl;unfold aAQ at h;dsimp only at h;split at h
 ·exact aB4 ok (xf:=.func _) rfl hK ho h
 ·split at h
  ·rename_i f a b hx;split at h
   ·rename_i hc;simp only[aJ,qD]at hc;have ha:a=#[]:=gO hc.1;have hb:b=#[]:=gO hc.2;subst ha;subst hb;exact aB4 ok hx hK ho h
   ·simp at h
  ·rename_i p hx;exact aFb ok hx hK ho h
  ·simp at h
 ·split at h
  ·rename_i x t ha ht;have ha':args=#[x]:=gO (by simpa using ha);have ht':ts=#[t]:=gO (by simpa using ht);subst ha';subst ht';exact aIE ok ho h
  ·simp at h
 ·split at h
  ·rename_i x y t t2 ha ht;split at h
   ·rename_i htt;subst htt;have ha':args=#[x,y]:=gO (by simpa using ha);have ht':ts=#[t,t]:=gO (by simpa using ht);subst ha';subst ht';exact aAU ok hZ ho h
   ·simp at h
  ·simp at h
 ·exact kC h
def aM1 {β:Type}(P:Program)(o:Oper)(slots:List (V cx.ty))(fn:Fn)(a b:List Operand)(k:Eff cx.ty->Option β):Option β:=
 match fn,a,b with
 | .func f,[x],[]=>(match dU slots x with
  | .inr (.inr p)=>
   if p.kind == 0&&p.i == 0&&p.off == 0 then k (fY (.inr (.inr { p with i:=1,off:=f })) [])
   else if p.kind == 2&&p.nm == 0 then k (fY (.inr (.inr { p with nm:=f+1 })) [])else none
  | _=>pY P o slots k)
 | _,_,_=>pY P o slots k
theorem aKh {β:Type}{o:Oper}{slots:List (V cx.ty)}{nm0:Nat}{fn:Fn}{a b:Array Operand}(ho:o.op=.makeFunc fn a b){k:Eff cx.ty->Option β}{r:β}
  (h:aM1 P o slots fn a.toList b.toList k=some r):∃ ef,k ef=some r/\EffOK P cx o slots nm0 ef:=by
 unfold aM1 at h;split at h
 ·rename_i f x ha hb;have ha':a=#[x]:=gO (by simpa using ha);have hb':b=#[]:=gO (by simpa using hb);subst ha';subst hb';split at h
  ·rename_i p hx;have key:∀ (c:Ct cx.ty) (ρ:Operand->Value),(∀ y∈o.op.operands,RepV cx c (dU slots y) (ρ y))->RepP cx c p (ρ x)/\(execOp ρ o).run P c.w=.ok (.value (.func (.func f) #[ρ x] #[])) c.w:=λc ρ hop=>by
    have hr:=hop x (by simp[ho,Op.operands]);rw[hx]at hr;refine⟨hr,?_⟩;unfold execOp;simp[ho,Instr.makeFunc]
   split at h
   ·rename_i hc;simp only[aJ,beq_iff_eq]at hc;obtain⟨⟨hk,hi⟩,hoff⟩:=hc;refine⟨_,h,eC λc ρ hw hop _=>?_⟩;obtain⟨hr,hrun⟩:=key c ρ hop;refine⟨_,hrun,?_⟩;unfold RepP at hr;simp only[hk,hi,hoff]at hr;obtain⟨tk,ht,hnm,hcc,g,hu,hpa⟩:=hr;have hpa:ρ x=.pointer (some ⟨g,0,none⟩):=hpa;show RepP cx c { p with i:=1,off:=f } _;unfold RepP;simp only[hk];exact⟨tk,ht,hnm,hcc,g,hu,by rw[hpa];rfl⟩
   ·split at h
    ·rename_i hc;simp only[aJ,beq_iff_eq]at hc;obtain⟨hk,hn⟩:=hc;refine⟨_,h,eC λc ρ hw hop _=>?_⟩;obtain⟨hr,hrun⟩:=key c ρ hop;refine⟨_,hrun,?_⟩;unfold RepP at hr;simp only[hk,hn]at hr;obtain⟨b,o2,hu,hel⟩:=hr;have hu:ρ x=.pointer (some ⟨b,o2+p.off,none⟩):=hu;show RepP cx c { p with nm:=f+1 } _;unfold RepP;simp only[hk];exact⟨b,o2,by rw[hu];rfl,hel⟩
    ·simp at h
  ·exact kC h
 ·exact kC h
def xR {β:Type}(P:Program)(Kc:Kt cx)(o:Oper)(slots:List (V cx.ty))(nm0:Nat)(k:Eff cx.ty->Option β):Option β:=
 match o.op with
 | .move x=>k (fY (dU slots x) [])
 | .assign x=>k (fY (dU slots x) [])
 | .pick c a b=>aEZ slots c a b k
 | .extract x i=>wI slots x i k
 | .field t x i=>aCR P slots t x i k
 | .fieldAddr t x i=>rG P slots t x i k
 | .indexAddr t x ix=>pL P slots t x ix k
 | .load t x=>aE3 P slots t x k
 | .nilCheck x=>aID P o slots x k
 | .index t x ix=>aCQ P o slots t x ix k
 | .binOp .eql t x y _=>aIH P o slots .eql t x y k
 | .binOp .neq t x y _=>(match dU slots x with
  | .inl (.inr _)=>aIH P o slots .neq t x y k
  | _=>aF9 P o slots .neq x y k)
 | .binOp op _ x y _=>aF9 P o slots op x y k
 | .call cl=>aAQ P Kc o cl slots nm0 k
 | .alloc t=>aC3 P t nm0 k
 | .box _ x=>aIK slots x nm0 k
 | .build t parts=>aAS P slots t parts.toList k
 | .buildSlice t len parts=>tW P cx slots t len parts.toList nm0 k
 | .makeSlice t l c=>aCP P cx slots t l c nm0 k
 | .convert src dst x=>aII P cx o slots src dst x k
 | .slice t x lo hi mx=>aD7 P cx slots t x lo hi mx k
 | .makeFunc fn a b=>aM1 P o slots fn a.toList b.toList k
 | _=>pY P o slots k
theorem aF8 (ok:cx.Ok)(hZ:cx.POk P){Kc:Kt cx}(hK:KOk P cx Kc){β:Type}{o:Oper}{slots:List (V cx.ty)}{nm0:Nat}{k:Eff cx.ty->Option β}{r:β}
  (h:xR P Kc o slots nm0 k=some r):∃ ef,k ef=some r/\EffOK P cx o slots nm0 ef:=by
 unfold xR at h;split at h
 ·rename_i x ho;exact⟨_,h,aAW (.inl ho)⟩
 ·rename_i x ho;exact⟨_,h,aAW (.inr ho)⟩
 ·rename_i ho;exact aG5 ho h
 ·rename_i ho;exact aCS ho h
 ·rename_i ho;exact aE5 ho h
 ·rename_i ho;exact aAO ok ho h
 ·rename_i ho;exact xS ok ho h
 ·rename_i ho;exact aG7 ok ho h
 ·rename_i ho;exact aIC ho h
 ·rename_i ho;exact aE4 ho h
 ·rename_i ho;exact aD9 ho h
 ·rename_i ho;split at h
  ·exact aD9 ho h
  ·exact aEc ho h
 ·rename_i ho;exact aEc ho h
 ·rename_i ho;exact aEa ok hZ hK ho h
 ·rename_i ho;exact aFh ho h
 ·rename_i ho;exact aIJ ho h
 ·rename_i ho;exact aEb ho h
 ·rename_i ho;exact aBv ok hZ ho h
 ·rename_i ho;exact aE1 ok hZ ho h
 ·rename_i ho;exact aG8 ok hZ ho h
 ·rename_i ho;exact aD6 ok ho h
 ·rename_i ho;exact aKh ho h
 ·exact kC h
def mX {ty:Nat->Type}(ops:Array Oper)(slots:List (V ty))(j:Nat):Option Bool:=
 match (ops[j]?).bind (·.dst)with
 | some d=>match slots.getD d aN with
  | .inl (.inl (some (.inl (.bool b))))=>some b
  | _=>none
 | none=>none
theorem xB {c:Ct cx.ty}{slots:List (V cx.ty)}{a:Act}(h:∀ t,RepV cx c (slots.getD t aN) (a.tmps.getD t undef)){ops:Array Oper}{j:Nat}{b:Bool}(hg:mX ops slots j=some b):yielded ops a.tmps j=some b:=by
 unfold mX at hg;unfold yielded;cases hd:(ops[j]?).bind (·.dst)with
 | none=>simp[hd]at hg
 | some d=>
  simp only[hd]at hg;split at hg
  ·rename_i b' hb;simp only[aB]at hg;subst hg;have:=h d;rw[hb]at this;have this:a.tmps.getD d undef=.bool b':=this;simp only[iB];cases ht:a.tmps[d]? with
   | none=>
    simp[aZ,ht,undef]at this
   | some v=>
    have hv:v=.bool b':=by simpa[aZ,ht]using this
    rw[hv]
  ·simp at hg
def tT {ty:Nat->Type}(ops:Array Oper)(slots:List (V ty))(j:Nat):Bool:=
 match (ops[j]?).bind (·.dst)with
 | some d=>match slots.getD d aN with
  | .inl (.inl (some (.inl (.bool _))))=>false
  | .inl (.inl (some (.inl _)))=>true
  | _=>false
 | none=>false
theorem aDZ {c:Ct cx.ty}{slots:List (V cx.ty)}{a:Act}(h:∀ t,RepV cx c (slots.getD t aN) (a.tmps.getD t undef)){ops:Array Oper}{j:Nat}(hg:tT ops slots j=true):yielded ops a.tmps j=none:=by
 unfold tT at hg;unfold yielded;cases hd:(ops[j]?).bind (·.dst)with
 | none=>simp
 | some d=>
  simp only[hd]at hg;split at hg
  ·simp at hg
  ·rename_i v hnb hv;have hr:=h d;rw[hv]at hr;have hr:a.tmps.getD d undef=v:=hr;simp only[iB];cases ht:a.tmps[d]? with
   | none=>rfl
   | some x=>
    have hx:x=v:=by simpa[aZ,ht]using hr
    subst hx;cases x with
    | bool b=>exact absurd rfl (hnb b)
    | _=>rfl
  ·simp at hg
def kX {ty:Nat->Type}(ops:Array Oper)(slots:List (V ty))(j:Nat)(b:Bool):List (V ty):=
 match (ops[j]?).bind (·.dst)with
 | some d=>slots.set d (vv (.bool b))
 | none=>slots
theorem aCn {ty:Nat->Type}{ops:Array Oper}{slots:List (V ty)}{j:Nat}{b:Bool}(h:mX ops slots j=some b):kX ops slots j b=slots:=by
 unfold mX at h;unfold kX;split at h
 ·rename_i d hd;split at h
  ·rename_i b' hb;simp only[aB]at h;subst h;simp only[List.getD]at hb;cases hx:slots[d]? with
   | none=>rw[hx]at hb;simp[aN]at hb
   | some v=>
    rw[hx]at hb;simp only[fK]at hb;subst hb;obtain⟨hlt,hv⟩:=aI.1 hx;show slots.set d (vv (.bool b'))=slots;have:vv (.bool b')=slots[d]:=hv.symm;rw[this,List.set_getElem_self]
  ·simp at h
 ·simp at h
theorem both {α:Type}(b:Bool)(E:Bool->α):(bif b then E true else E false)=E b:=by cases b<;>rfl
def yW (o:Oper):Option (TypeId×Operand×Operand):=
 match o.op with
 | .store t a x=>if o.dst.isNone&&o.guard.isNone then some (t,a,x)else none
 | _=>none
theorem aEA {o:Oper}{t:TypeId}{a x:Operand}(h:yW o=some (t,a,x)):o.op=.store t a x/\o.dst=none/\o.guard=none:=by
 unfold yW at h;split at h
 ·rename_i t' a' x' ho;split at h
  ·rename_i hc;simp only[aB,aY]at h;obtain⟨rfl,rfl,rfl⟩:=h;simp only[aJ,Option.isNone_iff_eq_none]at hc;exact⟨ho,hc.1,hc.2⟩
  ·simp at h
 ·simp at h
def fW {β:Type}(P:Program)(Kc:Kt cx)(Kw:Kwt cx)(kt:Value->St cx.ty->Option β)(ops:Array Oper)(k:St cx.ty->Option β):List Oper->St cx.ty->Option β
  | [],st=>k st
  | o::rest,st0=>(λst:St cx.ty=>
    match yW o with
    | some (t,a,x)=>match aMw P st t a x with
      | some st'=>fW P Kc Kw kt ops k rest st'
      | none=>none
    | none=>
      match aF1 P Kw st o rest with
      | some q=>if xP st.lo o.dst then fW P Kc Kw kt ops k rest { st with slots:=jD st.slots o.dst aN,pend:=some q }else none
      | none=>
      match aFW st o with
      | some v=>if xP st.lo o.dst then fW P Kc Kw kt ops k rest { st with slots:=jD st.slots o.dst v }else none
      | none=>
      match rT Kw o with
      | some (f,W,cl)=>if iX o.dst&&xP st.lo o.dst then
          match W.p with
          | 0=>aCT P f W st.slots cl.args.toList cl.argTypes.toList (fN st.ctr o.dst) λef ps=>if chk st ef then fW P Kc Kw kt ops k rest (st.appW o.dst ef ps)else none
          | 1=>sK P f W st o.dst cl.args.toList cl.argTypes.toList λst'=>fW P Kc Kw kt ops k rest st'
          | 3=>aCV P f W st cl.args.toList cl.argTypes.toList (fN st.ctr o.dst) kt λef=>if chk st ef then fW P Kc Kw kt ops k rest (st.app o.dst ef)else none
          | 4=>aC0 P f W st.slots cl.args.toList cl.argTypes.toList (fN st.ctr o.dst) λef ps=>if chk st ef then fW P Kc Kw kt ops k rest (st.appH o.dst ef ps)else none
          | 5=>aC1 P f W st cl.args.toList (fN st.ctr o.dst) λef ps=>if chk st ef then fW P Kc Kw kt ops k rest (st.appH o.dst ef ps)else none
          | 6=>aCW P f W st o.dst cl.args.toList cl.argTypes.toList λst'=>fW P Kc Kw kt ops k rest st'
          | 7=>aCZ P f W st o.dst cl.args.toList cl.argTypes.toList λst'=>fW P Kc Kw kt ops k rest st'
          | _=>aCX P f W st.slots cl.args.toList cl.argTypes.toList (fN st.ctr o.dst) λef=>if chk st ef then fW P Kc Kw kt ops k rest (st.app o.dst ef)else none
        else none
      | none=>
      match aCd Kw o with
      | some (g,want,f,W,cl)=>if iX o.dst&&xP st.lo o.dst then
          match mX ops st.slots g with
          | some b=>bif b then
              (bif true == want then sK P f W { st with slots:=kX ops st.slots g true } o.dst cl.args.toList cl.argTypes.toList λst'=>fW P Kc Kw kt ops k rest st'
               else fW P Kc Kw kt ops k rest (St.app { st with slots:=kX ops st.slots g true } o.dst (fY (vv undef) [])))
            else
              (bif false == want then sK P f W { st with slots:=kX ops st.slots g false } o.dst cl.args.toList cl.argTypes.toList λst'=>fW P Kc Kw kt ops k rest st'
               else fW P Kc Kw kt ops k rest (St.app { st with slots:=kX ops st.slots g false } o.dst (fY (vv undef) [])))
          | none=>none
        else none
      | none=>
      match yV st.slots o rest with
      | some (t,x,hi)=>if iX o.dst&&xP st.lo o.dst then
          aCL P cx st.slots t x hi (fN st.ctr o.dst) λef=>if chk st ef then fW P Kc Kw kt ops k rest (st.app o.dst ef)else none
        else none
      | none=>
      match zC P cx ops st.slots o with
      | some (p,⟨e,xs⟩)=>if xP st.lo o.dst then fW P Kc Kw kt ops k rest (st.frzB o.dst p.nm (vs (ro e xs)))else none
      | none=>
      match stC P cx st o with
      | some st'=>if xP st.lo o.dst then fW P Kc Kw kt ops k rest st' else none
      | none=>
      if iX o.dst&&xP st.lo o.dst then
        match o.guard with
        | none=>xR P Kc o st.slots (fN st.ctr o.dst) λef=>if chk st ef then fW P Kc Kw kt ops k rest (st.app o.dst ef)else none
        | some (g,want)=>match mX ops st.slots g with
          | some b=>bif b then
              (bif true == want then xR P Kc o (kX ops st.slots g true) (fN st.ctr o.dst) λef=>if chk { st with slots:=kX ops st.slots g true } ef then fW P Kc Kw kt ops k rest (St.app { st with slots:=kX ops st.slots g true } o.dst ef)else none
               else fW P Kc Kw kt ops k rest (St.app { st with slots:=kX ops st.slots g true } o.dst (fY (vv undef) [])))
            else
              (bif false == want then xR P Kc o (kX ops st.slots g false) (fN st.ctr o.dst) λef=>if chk { st with slots:=kX ops st.slots g false } ef then fW P Kc Kw kt ops k rest (St.app { st with slots:=kX ops st.slots g false } o.dst ef)else none
               else fW P Kc Kw kt ops k rest (St.app { st with slots:=kX ops st.slots g false } o.dst (fY (vv undef) [])))
          | none=>if tT ops st.slots g then fW P Kc Kw kt ops k rest (st.app o.dst (fY (vv undef) []))else none
      else none) (aH0 P cx st0 o)
theorem RS.skip {c:Ct cx.ty}{st:St cx.ty}{a:Act}(h:RS cx c st a){d:Option Tmp}(hlo:xP st.lo d=true):RS cx c (st.app d (fY (vv undef) [])) (a.put d undef):=by
 refine⟨h.wf,lW h.size d _ _,nI h.size h.rep d (by exact rfl),by rw[iL];exact h.defers,λn=>by simp[St.app,fY,h.dead n],λn=>by simp[St.app,fY,h.frz n],λn hn=>?_,λp u' hp=>⟨(h.kp p u' hp).1,(pE hlo undef (h.kp p u' hp).1).trans (h.kp p u' hp).2⟩,h.pr,PdOK.none⟩;exact cN (h.names n hn) (aQ _ (nA _))
theorem aAK (ok:cx.Ok)(hZ:cx.POk P){Kc:Kt cx}(hK:KOk P cx Kc){Kw:Kwt cx}(hKw:KwOk P cx Kw){β:Type}{W:World}{S N:Nat->Prop}{KK:List (Nat×Value)}{ops:Array Oper}{Q:Exit->Act->World->Prop}{k:St cx.ty->Option β}{kt:Value->St cx.ty->Option β}{r:β}(hQt:∀ v c st a,RS cx c st a->c.S=S->(c.N=N/\c.K=KK)->Kept N W c.w->kt v st=some r->Q (.panic [{ v:=v,recovered:=false }]) a c.w){o:Oper}{rest:List Oper}{i:Nat}(h0:ops[i]?=some o)
    {st0:St cx.ty} {c0:Ct cx.ty} {a:Act} (h00:RS cx c0 st0 a) (hS:c0.S=S) (hb:(c0.N=N/\c0.K=KK)) (hbl:Kept N W c0.w) (he:fW P Kc Kw kt ops k (o::rest) st0=some r) {K:Act->World->Prop}
    (hKn:∀ c' st' a',RS cx c' st' a'->c'.S=S->(c'.N=N/\c'.K=KK)->Kept N W c'.w->fW P Kc Kw kt ops k rest st'=some r->K a' c'.w):wpOp P ops Q i K a c0.w:=by
  unfold wpOp
  simp only[h0]
  simp only[fW]at he
  obtain⟨c,h,q1,q2,q3,q4⟩:=aHZ (P:=P) ok o h00
  generalize aH0 P cx st0 o=st at h he
  rw[<-q1]at hbl ⊢
  replace hS:=q2.trans hS
  replace hb:=(⟨q3.trans hb.1,q4.trans hb.2⟩:c.N=N/\c.K=KK)
  clear h00 q1 q2 q3 q4
  cases hso:yW o with
  | some q=>
    obtain⟨t,sa,sx⟩:=q
    rw[hso]at he
    obtain⟨ho,hdst,hgd⟩:=aEA hso
    simp only at he
    split at he
    · rename_i st' hst
      obtain⟨w',c2,hrun,hrs,rfl,e2,e3,e4,hbel⟩:=aJy ok ho hst h
      have hwant:Region.wanted o (yielded ops a.tmps)=true:=by simp[Region.wanted,hgd]
      rw[if_pos hwant]
      refine .inl (Oper.wp_of_runs ?_)
      unfold Runs
      rw[hrun]
      have hput:a.put o.dst undef=a:=by rw[hdst];rfl
      show K (a.put o.dst undef) c2.w
      rw[hput]
      exact hKn _ _ _ hrs (e2.trans hS) ⟨e3.trans hb.1,e4.trans hb.2⟩ (hbl.trans (by rw[<-hb.1];exact hbel)) he
    · simp at he
  | none=>
  rw[hso]at he
  simp only at he
  cases hle:aF1 P Kw st o rest with
  | some q=>
    obtain⟨d,p⟩:=q
    rw[hle]at he
    simp only at he
    split at he
    · rename_i hlo
      obtain⟨hgd,hdst,hrun⟩:=aIk ok hle h hlo
      have hwant:Region.wanted o (yielded ops a.tmps)=true:=by simp[Region.wanted,hgd]
      rw[if_pos hwant]
      refine .inl (Oper.wp_of_runs ?_)
      refine hrun.mono λu w' ⟨hw',hrs⟩=>?_
      rw[hw']
      exact hKn _ _ _ hrs hS hb hbl he
    · simp at he
  | none=>
  rw[hle]at he
  simp only at he
  cases hme:aFW st o with
  | some v=>
    rw[hme]at he
    simp only at he
    split at he
    · rename_i hlo
      obtain⟨hgd,hrun⟩:=aIc (P:=P) hme h hlo
      have hwant:Region.wanted o (yielded ops a.tmps)=true:=by simp[Region.wanted,hgd]
      rw[if_pos hwant]
      refine .inl (Oper.wp_of_runs ?_)
      refine hrun.mono λu w' ⟨hw',hrs⟩=>?_
      rw[hw']
      exact hKn _ _ _ hrs hS hb hbl he
    · simp at he
  | none=>
  rw[hme]at he
  simp only at he
  cases hwc:rT Kw o with
  | some q=>
    obtain⟨f,F,cl⟩:=q
    rw[hwc]at he
    simp only at he
    split at he
    · rename_i hsm0
      obtain⟨hsm,hlo⟩:=Bool.and_eq_true_iff.1 hsm0
      obtain⟨hgd,hkw,hop⟩:=zG hwc
      have hso':=hKw f F hkw
      unfold SatOf at hso'
      have hwant:Region.wanted o (yielded ops a.tmps)=true:=by simp[Region.wanted,hgd]
      split at he
      · rename_i hp0
        rw[hp0]at hso'
        obtain⟨ef,ps,hk,hrun⟩:=aE6 (nm0:=fN st.ctr o.dst) ok hso' hop he
        split at hk
        · rename_i hc
          have hcs:=mZ h hc
          rw[if_pos hwant]
          refine .inl (Oper.wp_of_runs ?_)
          refine(hrun c a.eval h.wf (λx _=>eP h.rep x) hcs.1 (h.fresh _)).mono λu w' ⟨T',hg⟩=>?_
          exact hKn _ _ _ (h.appW hsm hlo hg) hS hb (hbl.trans (by rw[<-hb.1];exact hg.below)) hk
        · simp at hk
      · rename_i hp1
        rw[hp1]at hso'
        rw[if_pos hwant]
        refine .inl (Oper.wp_of_runs ?_)
        refine(aAP ok hso' hop h hsm hlo he).mono λu w' ⟨c',st',hk,hrs,hw',h1,h2,h3,h4⟩=>?_
        subst hw'
        exact hKn _ _ _ hrs (h1.trans hS) ⟨h2.trans hb.1,h3.trans hb.2⟩ (hbl.trans (by rw[<-hb.1];exact h4)) hk
      · rename_i hp3
        rw[hp3]at hso'
        rw[if_pos hwant]
        rcases aE8 (nm0:=fN st.ctr o.dst) ok hso' hop he with⟨ef,hk,hef⟩ | ⟨v,hk,hthr⟩
        · split at hk
          · rename_i hc
            have hcs:=mZ h hc
            refine .inl (Oper.wp_of_runs ?_)
            have hrun:=hef.go c a.eval h.wf (λx _=>eP h.rep x) hcs.1 hcs.2 (h.fresh _)
            refine hrun.mono λu w' ⟨T',hg⟩=>?_
            exact hKn _ _ _ (h.app hsm hlo hg) hS hb (hbl.trans (by rw[<-hb.1];exact hg.below)) hk
          · simp at hk
        · obtain⟨hrun,hcall⟩:=hthr c a h
          refine .inl ?_
          unfold Oper.wp
          rw[hrun]
          refine hcall.mono λe w' ⟨he2,hbw⟩=>?_
          subst he2
          obtain⟨c',hrs,e1,e2,e3,e4,e5⟩:=h.later hbw
          show Q (.panic [{ v:=v,recovered:=false }]) a w'
          rw[<-e1]
          exact hQt v c' st a hrs (e2.trans hS) ⟨e3.trans hb.1,e4.trans hb.2⟩ (by rw[e1];exact hbl.trans (by rw[<-hb.1];exact e5)) hk
      · rename_i hp4
        rw[hp4]at hso'
        obtain⟨ef,ps,hk,hrun⟩:=aFd (nm0:=fN st.ctr o.dst) ok hso' hop he
        split at hk
        · rename_i hc
          have hcs:=mZ h hc
          rw[if_pos hwant]
          refine .inl (Oper.wp_of_runs ?_)
          refine(hrun c a.eval st.F h.wf (λx _=>eP h.rep x) hcs.1 (h.fresh _) h.frz).mono λu w' ⟨T',hg⟩=>?_
          exact hKn _ _ _ (h.appH hsm hlo hg) hS hb (hbl.trans (by rw[<-hb.1];exact hg.below)) hk
        · simp at hk
      · rename_i hp5
        rw[hp5]at hso'
        obtain⟨ef,ps,hk,hrun⟩:=aFe (nm0:=fN st.ctr o.dst) ok hso' hop he
        split at hk
        · rename_i hc
          have hcs:=mZ h hc
          rw[if_pos hwant]
          refine .inl (Oper.wp_of_runs ?_)
          refine(hrun c a h hcs.1 (h.fresh _)).mono λu w' ⟨T',hg⟩=>?_
          exact hKn _ _ _ (h.appH hsm hlo hg) hS hb (hbl.trans (by rw[<-hb.1];exact hg.below)) hk
        · simp at hk
      · rename_i hp6
        rw[hp6]at hso'
        rw[if_pos hwant]
        refine .inl (Oper.wp_of_runs ?_)
        refine(aE9 ok hso' hop h hsm hlo he).mono λu w' ⟨c',st',hk,hrs,hw',h1,h2,h3,h4⟩=>?_
        subst hw'
        exact hKn _ _ _ hrs (h1.trans hS) ⟨h2.trans hb.1,h3.trans hb.2⟩ (hbl.trans (by rw[<-hb.1];exact h4)) hk
      · rename_i hp7
        rw[hp7]at hso'
        rw[if_pos hwant]
        refine .inl (Oper.wp_of_runs ?_)
        refine(aFc ok hso' hop h hsm hlo he).mono λu w' ⟨c',st',hk,hrs,hw',h1,h2,h3,h4⟩=>?_
        subst hw'
        exact hKn _ _ _ hrs (h1.trans hS) ⟨h2.trans hb.1,h3.trans hb.2⟩ (hbl.trans (by rw[<-hb.1];exact h4)) hk
      · rename_i hp0 hp1 hp3 hp4 hp5 hp6 hp7
        have hso2:SatN P cx f F.F:=by
          revert hso'
          split
          · rename_i hh;exact absurd hh hp0
          · rename_i hh;exact absurd hh hp1
          · rename_i hh;exact absurd hh hp3
          · rename_i hh;exact absurd hh hp4
          · rename_i hh;exact absurd hh hp5
          · rename_i hh;exact absurd hh hp6
          · rename_i hh;exact absurd hh hp7
          · exact λh=>h
        obtain⟨ef,hk,hef⟩:=aFa (nm0:=fN st.ctr o.dst) (slots:=st.slots) ok hso2 hop he
        split at hk
        · rename_i hc
          have hcs:=mZ h hc
          rw[if_pos hwant]
          refine .inl (Oper.wp_of_runs ?_)
          have hrun:=hef.go c a.eval h.wf (λx _=>eP h.rep x) hcs.1 hcs.2 (h.fresh _)
          refine hrun.mono λu w' ⟨T',hg⟩=>?_
          exact hKn _ _ _ (h.app hsm hlo hg) hS hb (hbl.trans (by rw[<-hb.1];exact hg.below)) hk
        · simp at hk
    · simp at he
  | none=>
  rw[hwc]at he
  simp only at he
  cases hwg:aCd Kw o with
  | some q=>
    obtain⟨g,want,f,F,cl⟩:=q
    rw[hwg]at he
    simp only at he
    obtain⟨hg,hkw,hop,hp1⟩:=aGp hwg
    split at he
    · rename_i hsm0
      obtain⟨hsm,hlo⟩:=Bool.and_eq_true_iff.1 hsm0
      have hso':=hKw f F hkw
      unfold SatOf at hso'
      rw[hp1]at hso'
      split at he
      · rename_i b hb'
        have hy:=xB h.rep hb'
        replace he:=(both b (λv=>(bif v == want then sK P f F { st with slots:=kX ops st.slots g v } o.dst cl.args.toList cl.argTypes.toList λst'=>fW P Kc Kw kt ops k rest st'
               else fW P Kc Kw kt ops k rest (St.app { st with slots:=kX ops st.slots g v } o.dst (fY (vv undef) []))))).symm.trans he
        simp only[aCn hb']at he
        cases hbw:(b == want)with
        | true=>
          rw[hbw,cond_true]at he
          have:Region.wanted o (yielded ops a.tmps)=true:=by simp only[Region.wanted,hg,hy];simpa using hbw
          rw[if_pos this]
          refine .inl (Oper.wp_of_runs ?_)
          refine(aAP ok hso' hop h hsm hlo he).mono λu w' ⟨c',st',hk,hrs,hw',h1,h2,h3,h4⟩=>?_
          subst hw'
          exact hKn _ _ _ hrs (h1.trans hS) ⟨h2.trans hb.1,h3.trans hb.2⟩ (hbl.trans (by rw[<-hb.1];exact h4)) hk
        | false=>
          rw[hbw,cond_false]at he
          have:Region.wanted o (yielded ops a.tmps)=false:=by simp only[Region.wanted,hg,hy];simpa using hbw
          rw[if_neg (by simp[this])]
          exact hKn c _ _ (h.skip hlo) hS hb hbl he
      · simp at he
    · simp at he
  | none=>
  rw[hwg]at he
  simp only at he
  cases htr:yV st.slots o rest with
  | some q=>
    obtain⟨t,x,hi⟩:=q
    rw[htr]at he
    simp only at he
    split at he
    · rename_i hsm0
      obtain⟨hsm,hlo⟩:=Bool.and_eq_true_iff.1 hsm0
      obtain⟨hgd,hop⟩:=aEz htr
      have hwant:Region.wanted o (yielded ops a.tmps)=true:=by simp[Region.wanted,hgd]
      obtain⟨ef,hk,hef⟩:=aEX (nm0:=fN st.ctr o.dst) ok hop he
      split at hk
      · rename_i hc
        have hcs:=mZ h hc
        rw[if_pos hwant]
        refine .inl (Oper.wp_of_runs ?_)
        have hrun:=hef.go c a.eval h.wf (λx _=>eP h.rep x) hcs.1 hcs.2 (h.fresh _)
        refine hrun.mono λu w' ⟨T',hg⟩=>?_
        exact hKn _ _ _ (h.app hsm hlo hg) hS hb (hbl.trans (by rw[<-hb.1];exact hg.below)) hk
      · simp at hk
    · simp at he
  | none=>
  rw[htr]at he
  simp only at he
  cases hab:zC P cx ops st.slots o with
  | some q=>
    obtain⟨p,e,xs⟩:=q
    rw[hab]at he
    simp only at he
    split at he
    · rename_i hlo
      obtain⟨hgd,hrun⟩:=aHd ok (aFn hab) h hlo
      have hwant:Region.wanted o (yielded ops a.tmps)=true:=by simp[Region.wanted,hgd]
      rw[if_pos hwant]
      refine .inl (Oper.wp_of_runs ?_)
      refine hrun.mono λu w' ⟨c',hrs,hw',h1,h2,h3,h4⟩=>?_
      rw[<-hw']
      exact hKn _ _ _ hrs (h1.trans hS) ⟨h2.trans hb.1,h3.trans hb.2⟩ (by rw[hw',h4];exact hbl) he
    · simp at he
  | none=>
  rw[hab]at he
  simp only at he
  cases hsc:stC P cx st o with
  | some st'=>
    rw[hsc]at he
    simp only at he
    split at he
    · rename_i hlo
      obtain⟨hgd,hrun⟩:=aMt ok hZ hsc h hlo
      have hwant:Region.wanted o (yielded ops a.tmps)=true:=by simp[Region.wanted,hgd]
      rw[if_pos hwant]
      refine .inl (Oper.wp_of_runs ?_)
      refine hrun.mono λu w' ⟨c',hrs,hw',h1,h2,h3,h4⟩=>?_
      rw[<-hw']
      exact hKn _ _ _ hrs (h1.trans hS) ⟨h2.trans hb.1,h3.trans hb.2⟩ (by rw[hw'];exact hbl.trans (by rw[<-hb.1];exact h4)) he
    · simp at he
  | none=>
  rw[hsc]at he
  simp only at he
  split at he
  · rename_i hsm0
    obtain⟨hsm,hlo⟩:=Bool.and_eq_true_iff.1 hsm0
    have run:∀ hr:(xR P Kc o st.slots (fN st.ctr o.dst) λef=>if chk st ef then fW P Kc Kw kt ops k rest (st.app o.dst ef)else none)=some r,o.wp P a c.w K Q:=by
      intro hr
      obtain⟨ef,hk,hef⟩:=aF8 (nm0:=fN st.ctr o.dst) ok hZ hK hr
      split at hk
      · rename_i hc
        have hcs:=mZ h hc
        apply Oper.wp_of_runs
        have hrun:=hef.go c a.eval h.wf (λx _=>eP h.rep x) hcs.1 hcs.2 (h.fresh _)
        refine hrun.mono λu w' ⟨T',hg⟩=>?_
        exact hKn _ _ _ (h.app hsm hlo hg) hS hb (hbl.trans (by rw[<-hb.1];exact hg.below)) hk
      · simp at hk
    split at he
    · rename_i hg
      simp only[Region.wanted,hg,if_true]
      exact .inl (run he)
    · rename_i g want hg
      split at he
      · rename_i b hb'
        have hy:=xB h.rep hb'
        replace he:=(both b (λv=>(bif v == want then xR P Kc o (kX ops st.slots g v) (fN st.ctr o.dst) λef=>if chk { st with slots:=kX ops st.slots g v } ef then fW P Kc Kw kt ops k rest (St.app { st with slots:=kX ops st.slots g v } o.dst ef)else none
               else fW P Kc Kw kt ops k rest (St.app { st with slots:=kX ops st.slots g v } o.dst (fY (vv undef) []))))).symm.trans he
        simp only[aCn hb']at he
        cases hbw:(b == want)with
        | true=>
          rw[hbw,cond_true]at he
          have:Region.wanted o (yielded ops a.tmps)=true:=by simp only[Region.wanted,hg,hy];simpa using hbw
          rw[if_pos this]
          exact .inl (run he)
        | false=>
          rw[hbw,cond_false]at he
          have:Region.wanted o (yielded ops a.tmps)=false:=by simp only[Region.wanted,hg,hy];simpa using hbw
          rw[if_neg (by simp[this])]
          exact hKn c _ _ (h.skip hlo) hS hb hbl he
      · split at he
        · rename_i hu
          have hy:=aDZ h.rep hu
          have:Region.wanted o (yielded ops a.tmps)=false:=by simp only[Region.wanted,hg,hy];rfl
          rw[if_neg (by simp[this])]
          exact hKn c _ _ (h.skip hlo) hS hb hbl he
        · simp at he
  · simp at he
theorem aAL (ok:cx.Ok)(hZ:cx.POk P){Kc:Kt cx}(hK:KOk P cx Kc){Kw:Kwt cx}(hKw:KwOk P cx Kw){β:Type}{W:World}{S N:Nat->Prop}{KK:List (Nat×Value)}{ops:Array Oper}{Q:Exit->Act->World->Prop}{k:St cx.ty->Option β}{kt:Value->St cx.ty->Option β}{r:β}
  (hQt:∀ v c st a,RS cx c st a->c.S=S->(c.N=N/\c.K=KK)->Kept N W c.w->kt v st=some r->Q (.panic [{ v:=v,recovered:=false }]) a c.w)
  (hQ:∀ c st a,RS cx c st a->c.S=S->(c.N=N/\c.K=KK)->Kept N W c.w->k st=some r->Q .normal a c.w) :
  ∀ (l:List Oper) (i:Nat),(∀ j,l[j]?=ops[i+j]?)->∀ (st:St cx.ty) (c:Ct cx.ty) (a:Act),RS cx c st a->c.S=S->(c.N=N/\c.K=KK)->Kept N W c.w->fW P Kc Kw kt ops k l st=some r->
   wpOps P ops Q (List.range' i l.length) a c.w
 | [],i,_,st,c,a,h,hS,hb,hbl,he=>hQ c st a h hS hb hbl he
 | o::rest,i,hl,st,c,a,h,hS,hb,hbl,he=>by
  have h0:ops[i]?=some o:=by simpa using(hl 0).symm
  have hl':∀ j,rest[j]?=ops[i+1+j]?:=λj=>by have:=hl (j+1);simpa[gT,fX 1 j]using this
  simp only[cB,List.range'_succ];rw[wpOps_cons];exact aAK ok hZ hK hKw hQt h0 h hS hb hbl he λc' st' a' h1 h2 h3 h4 h5=>aAL ok hZ hK hKw hQt hQ rest (i+1) hl' st' c' a' h1 h2 h3 h4 h5
end
section
variable {cx : Cx} {P : Program}
def jV (ops:Array Oper)(i:Nat):List Nat:=
 match ops[i]? with
 | some o=>(o.after.toList.filter (Region.binds .any)).map (·.on)
 | none=>[]
def aIT (ops:Array Oper):Nat->List Nat->List Nat
 | 0,l=>l
 | n+1,l=>aIT ops n (l++l.flatMap (jV ops)).eraseDups
def aDW (ops:Array Oper)(p:Nat):Bool:=
 (List.range ops.size).all λr=>decide (r < p) || (List.range r).all λi=>(aIT ops 3 (jV ops r)).contains i
def tZ (ops:Array Oper)(p:Nat):Bool:=
 ((List.range ops.size).all λj=>(jV ops j).all λi=>decide (i < j)) &&
 ((List.range p).all λj=>(List.range j).all λi=>
  match ops[i]?,ops[j]? with
  | some oi,some oj=>((jV ops j).contains i || oi.apart ops oj)&&oi.dst != oj.dst
  | _,_=>false)
def tN {ty:Nat->Type}(D F R:List Nat)(ef:Eff ty):Bool:=ef.frz.isEmpty&&ef.live.all (λn=>!D.contains n&&!F.contains n)&&ef.read.all (λn=>!D.contains n)&&ef.dead.all (λn=>!R.contains n)
theorem aGz {D F R:List Nat}{ef:Eff cx.ty}(h:tN D F R ef=true):ef.frz=[]/\(∀ n∈ef.live,n∉D/\n∉F)/\(∀ n∈ef.read,n∉D)/\∀ n∈ef.dead,n∉R:=by
 simp only[tN,aJ,qD,cG]at h;obtain⟨⟨⟨h1,h2⟩,h3⟩,h4⟩:=h;exact⟨h1,λn hn=>by have:=h2 n hn;simpa using this,λn hn=>by have:=h3 n hn;simpa using this,λn hn=>by have:=h4 n hn;simpa using this⟩
def aIO (len lo:Nat)(d:Option Nat):Bool:=iX d&&xP lo d&&(match d with | some d=>decide (d < len) | none=>true)
theorem aFi {len lo:Nat}{d:Option Nat}(h:aIO len lo d=true):iX d=true/\xP lo d=true/\∀ x,d=some x->x < len:=by
 simp only[aIO,aJ]at h;exact⟨h.1.1,h.1.2,λx hx=>by rw[hx]at h;simpa using h.2⟩
def oV {β:Type}(P:Program)(Kc:Kt cx)(ops:Array Oper)(ctr len lo:Nat)(F:List Nat)(k:List (V cx.ty)->List Nat->Option β):List Oper->List (V cx.ty)->List Nat->List Nat->Option β
  | [],slots,D,_=>k slots D
  | o::rest,slots,D,R=>
    if aIO len lo o.dst then
      match o.guard with
      | none=>xR P Kc o slots (fN ctr o.dst) λef=>if tN D F R ef then oV P Kc ops ctr len lo F k rest (jD slots o.dst ef.v) (ef.dead++D) ((ef.read++ef.live)++R)else none
      | some (g,want)=>match mX ops slots g with
        | some b=>bif b then
            (bif true == want then xR P Kc o (kX ops slots g true) (fN ctr o.dst) λef=>if tN D F R ef then oV P Kc ops ctr len lo F k rest (jD (kX ops slots g true) o.dst ef.v) (ef.dead++D) ((ef.read++ef.live)++R)else none
             else oV P Kc ops ctr len lo F k rest (jD (kX ops slots g true) o.dst (vv undef)) D R)
          else
            (bif false == want then xR P Kc o (kX ops slots g false) (fN ctr o.dst) λef=>if tN D F R ef then oV P Kc ops ctr len lo F k rest (jD (kX ops slots g false) o.dst ef.v) (ef.dead++D) ((ef.read++ef.live)++R)else none
             else oV P Kc ops ctr len lo F k rest (jD (kX ops slots g false) o.dst (vv undef)) D R)
        | none=>if tT ops slots g then oV P Kc ops ctr len lo F k rest (jD slots o.dst (vv undef)) D R else none
    else none
def kN {ty:Nat->Type}:List Oper->List (V ty)->List (V ty)->List (V ty)
 | o::l,v::E,s=>kN l E (jD s o.dst v)
 | _,_,s=>s
def vC {ty:Nat->Type}(ops:Array Oper)(o:Oper)(slots:List (V ty)):Prop:=
 match o.guard with
 | none=>True
 | some (g,want)=>∃ b,mX ops slots g=some b/\(b == want)=true
def OpFact (P:Program)(cx:Cx)(ops:Array Oper)(D F:List Nat)(ctr len lo:Nat)(o:Oper)(slots:List (V cx.ty))(v:V cx.ty)(dj:List Nat)(oth:Nat->Prop):Prop:=
  iX o.dst=true/\xP lo o.dst=true/\(∀ d,o.dst=some d->d < len) ∧
  ((∃ ef,vC ops o slots/\EffOK P cx o slots (fN ctr o.dst) ef/\ef.v=v/\ef.frz=[]/\ef.dead=dj/\(∀ n∈ef.read,n∉D/\¬ oth n)/\∀ n∈ef.live,(n∉D/\n∉F)/\¬ oth n) ∨
   (v=vv undef/\dj=[]/\∃ g want,o.guard=some (g,want)/\((∃ b,mX ops slots g=some b/\(b == want)=false)\/tT ops slots g=true)))
theorem OpFact.mono {ops:Array Oper}{D D1 F:List Nat}{ctr len lo:Nat}{o:Oper}{slots:List (V cx.ty)}{v:V cx.ty}{dj:List Nat}{oth oth1:Nat->Prop}(h:OpFact P cx ops D1 F ctr len lo o slots v dj oth1)
  (hD:∀ n,n∈D->n∈D1) (ho:∀ n,oth n->n∈D1\/oth1 n):OpFact P cx ops D F ctr len lo o slots v dj oth:=by
 obtain⟨h1,h2,h3,h4⟩:=h;refine⟨h1,h2,h3,?_⟩;rcases h4 with⟨ef,g1,g2,g3,g4,g5,g6,g7⟩ | h4
 ·exact .inl ⟨ef,g1,g2,g3,g4,g5,λn hn=>⟨λh=>(g6 n hn).1 (hD n h),λh=>(ho n h).elim (g6 n hn).1 (g6 n hn).2⟩,
   λn hn=>⟨⟨λh=>(g7 n hn).1.1 (hD n h),(g7 n hn).1.2⟩,λh=>(ho n h).elim (g7 n hn).1.1 (g7 n hn).2⟩⟩
 ·exact .inr h4
theorem xH (ok:cx.Ok)(hZ:cx.POk P){Kc:Kt cx}(hK:KOk P cx Kc){β:Type}{ops:Array Oper}{ctr len lo:Nat}{F:List Nat}{k:List (V cx.ty)->List Nat->Option β}{r:β} :
    ∀ (l:List Oper) (slots:List (V cx.ty)) (D R:List Nat),oV P Kc ops ctr len lo F k l slots D R=some r->∃ (E:List (V cx.ty)) (dd:List (List Nat)) (D':List Nat),E.length=l.length/\k (kN l E slots) D'=some r ∧
      (∀ n,n∈D'↔n∈D\/∃ i,i < l.length/\n∈dd.getD i [])/\(∀ i,∀ n∈dd.getD i [],n∉R) ∧
      ∀ (j:Nat) o v,l[j]?=some o->E[j]?=some v->OpFact P cx ops D F ctr len lo o (kN (l.take j) (E.take j) slots) v (dd.getD j []) (λn=>∃ i,i≠j/\n∈dd.getD i [])
  | [],slots,D,R,h=>⟨[],[],D,rfl,h,λn=>by simp,λi n hn=>by simp at hn,λj o v h=>by simp at h⟩
  | o::rest,slots,D,R,h=>by
    simp only[oV]at h
    split at h
    · rename_i hsm
      obtain⟨hsm,hlo,hlen⟩:=aFi hsm
      have glue:∀ v (dj RR:List Nat),(∀ oth:Nat->Prop,(∀ n∈RR,¬ oth n)->OpFact P cx ops D F ctr len lo o slots v dj oth)->(∀ n∈dj,n∉R)->oV P Kc ops ctr len lo F k rest (jD slots o.dst v) (dj++D) (RR++R)=some r->
          ∃ (E:List (V cx.ty)) (dd:List (List Nat)) (D':List Nat),E.length=(o::rest).length/\k (kN (o::rest) E slots) D'=some r ∧
            (∀ n,n∈D'↔n∈D\/∃ i,i < (o::rest).length/\n∈dd.getD i [])/\(∀ i,∀ n∈dd.getD i [],n∉R) ∧
            ∀ (j:Nat) o' v,(o::rest)[j]?=some o'->E[j]?=some v->OpFact P cx ops D F ctr len lo o' (kN ((o::rest).take j) (E.take j) slots) v (dd.getD j []) (λn=>∃ i,i≠j/\n∈dd.getD i []):=by
        intro v dj RR hv hdj hr
        obtain⟨E,dd,D',h1,h2,h4,h5,h3⟩:=xH ok hZ hK rest _ _ _ hr
        refine⟨v::E,dj::dd,D',by simp[h1],h2,λn=>?_,λi n hn=>?_,λj o' v' e1 e2=>?_⟩
        · rw[h4 n]
          constructor
          · rintro(hn | ⟨i,hi,hn⟩)
            · rcases aA.1 hn with hn | hn
              · exact .inr ⟨0,by simp,by simpa using hn⟩
              · exact .inl hn
            · exact .inr ⟨i+1,by simp;omega,by simpa using hn⟩
          · rintro(hn | ⟨i,hi,hn⟩)
            · exact .inl (aA.2 (.inr hn))
            · cases i with
              | zero=>exact .inl (aA.2 (.inl (by simpa using hn)))
              | succ i=>exact .inr ⟨i,by simp at hi;omega,by simpa using hn⟩
        · cases i with
          | zero=>exact hdj n (by simpa using hn)
          | succ i=>exact λhR=>h5 i n (by simpa using hn) (aA.2 (.inr hR))
        · cases j with
          | zero=>
            simp only[aP,aB]at e1 e2
            subst e1;subst e2
            refine hv _ λn hn=>?_
            rintro⟨i,hi,hni⟩
            cases i with
            | zero=>exact hi rfl
            | succ i=>exact h5 i n (by simpa using hni) (aA.2 (.inl hn))
          | succ j=>
            have hf:=h3 j o' v' (by simpa using e1) (by simpa using e2)
            have hf2:OpFact P cx ops D F ctr len lo o' (kN ((o::rest).take (j+1)) ((v::E).take (j+1)) slots) v' (dd.getD j []) (λn=>∃ i,i≠j+1/\n∈(dj::dd).getD i []):=by
              refine OpFact.mono (D1:=dj++D) (oth1:=λn=>∃ i,i≠j/\n∈dd.getD i []) hf (λn hn=>aA.2 (.inr hn)) ?_
              rintro n ⟨i,hi,hn⟩
              cases i with
              | zero=>exact .inl (aA.2 (.inl (by simpa using hn)))
              | succ i=>exact .inr ⟨i,λe=>hi (by rw[e]),by simpa using hn⟩
            simpa using hf2
      have run:vC ops o slots->(xR P Kc o slots (fN ctr o.dst) λef=>if tN D F R ef then oV P Kc ops ctr len lo F k rest (jD slots o.dst ef.v) (ef.dead++D) ((ef.read++ef.live)++R)else none)=some r->
          ∃ (E:List (V cx.ty)) (dd:List (List Nat)) (D':List Nat),E.length=(o::rest).length/\k (kN (o::rest) E slots) D'=some r ∧
            (∀ n,n∈D'↔n∈D\/∃ i,i < (o::rest).length/\n∈dd.getD i [])/\(∀ i,∀ n∈dd.getD i [],n∉R) ∧
            ∀ (j:Nat) o' v,(o::rest)[j]?=some o'->E[j]?=some v->OpFact P cx ops D F ctr len lo o' (kN ((o::rest).take j) (E.take j) slots) v (dd.getD j []) (λn=>∃ i,i≠j/\n∈dd.getD i []):=by
        intro hg hr
        obtain⟨ef,hk,hef⟩:=aF8 (nm0:=fN ctr o.dst) ok hZ hK hr
        split at hk
        · rename_i hq
          obtain⟨hfz,hlv,hrd,hdd⟩:=aGz hq
          exact glue ef.v ef.dead (ef.read++ef.live) (λoth hoth=>⟨hsm,hlo,hlen,.inl ⟨ef,hg,hef,rfl,hfz,rfl,λn hn=>⟨hrd n hn,hoth n (aA.2 (.inl hn))⟩,λn hn=>⟨hlv n hn,hoth n (aA.2 (.inr hn))⟩⟩⟩) hdd hk
        · simp at hk
      split at h
      · rename_i hg
        exact run (by unfold vC;rw[hg];trivial) h
      · rename_i g want hg
        split at h
        · rename_i b hb
          replace h:=(both b (λv=>(bif v == want then xR P Kc o (kX ops slots g v) (fN ctr o.dst) λef=>if tN D F R ef then oV P Kc ops ctr len lo F k rest (jD (kX ops slots g v) o.dst ef.v) (ef.dead++D) ((ef.read++ef.live)++R)else none
             else oV P Kc ops ctr len lo F k rest (jD (kX ops slots g v) o.dst (vv undef)) D R))).symm.trans h
          simp only[aCn hb]at h
          cases hbw:(b == want)with
          | true=>
            rw[hbw]at h
            exact run (by unfold vC;rw[hg];exact⟨b,hb,hbw⟩) h
          | false=>
            rw[hbw]at h
            exact glue (vv undef) [] [] (λ_ _=>⟨hsm,hlo,hlen,.inr ⟨rfl,rfl,g,want,hg,.inl ⟨b,hb,hbw⟩⟩⟩) (λn hn=>by cases hn) h
        · split at h
          · rename_i hu
            exact glue (vv undef) [] [] (λ_ _=>⟨hsm,hlo,hlen,.inr ⟨rfl,rfl,g,want,hg,.inr hu⟩⟩) (λn hn=>by cases hn) h
          · simp at h
    · simp at h
def vOf {ty:Nat->Type}(dst:Nat->Option Nat)(E:Nat->V ty)(s0:Nat->V ty)(p:Nat)(X:Nat->Bool)(t:Nat):V ty:=
 match (List.range p).find? (λi=>X i&&dst i == some t)with
 | some i=>E i
 | none=>s0 t
theorem rV {ty:Nat->Type}{dst:Nat->Option Nat}{E:Nat->V ty}{s0:Nat->V ty}{p:Nat}{X Y:Nat->Bool}{t:Nat}(h:∀ i,i < p->dst i=some t->X i=Y i):vOf dst E s0 p X t=vOf dst E s0 p Y t:=by
 unfold vOf;have:(List.range p).find? (λi=>X i&&dst i == some t)=(List.range p).find? (λi=>Y i&&dst i == some t):=by
  have key:∀ l:List Nat,(∀ i∈l,i < p)->l.find? (λi=>X i&&dst i == some t)=l.find? (λi=>Y i&&dst i == some t):=by
   intro l
   induction l with
   | nil=>intro _;rfl
   | cons a r ih=>
    intro hl;have ha:=hl a (bR ..);have hr:=ih (λi hi=>hl i (bG _ hi));simp only[List.find?_cons];by_cases hd:dst a=some t
    ·rw[h a ha hd,hr]
    ·have:(dst a == some t)=false:=by simpa using hd
     simp only[this,Bool.and_false];exact hr
  exact key _ (λi hi=>gG.1 hi)
 rw[this]
theorem aFt {ty:Nat->Type}{dst:Nat->Option Nat}{E:Nat->V ty}{s0:Nat->V ty}{p:Nat}{X:Nat->Bool}{t i:Nat}(hd:∀ i j,i < p->j < p->dst i=some t->dst j=some t->i=j)(hi:i < p)(hX:X i=true)(ht:dst i=some t):vOf dst E s0 p X t=E i:=by
 unfold vOf;cases hf:(List.range p).find? (λi=>X i&&dst i == some t)with
 | none=>
  have:=nW.1 hf i (gG.2 hi);simp[hX,ht]at this
 | some j=>
  have h1:=lI hf;have h2:=gG.1 (fJ hf);simp only[aJ,beq_iff_eq]at h1;rw[hd i j hi h2 ht h1.2]
theorem aDt {ty:Nat->Type}{dst:Nat->Option Nat}{E:Nat->V ty}{s0:Nat->V ty}{p:Nat}{X:Nat->Bool}{t:Nat}(h:∀ i,i < p->X i=true->dst i≠some t):vOf dst E s0 p X t=s0 t:=by
 unfold vOf;have:(List.range p).find? (λi=>X i&&dst i == some t)=none:=by
  rw[nW];intro i hi;have:=h i (gG.1 hi);simp only[aJ,beq_iff_eq,not_and];exact this
 rw[this]
theorem pJ {ty:Nat->Type}:∀ (l:List Oper) (E:List (V ty)) (s:List (V ty)),(kN l E s).length=s.length
 | [],_,_=>rfl
 | _::_,[],_=>rfl
 | o::l,v::E,s=>by
  simp only[kN];rw[pJ l E];cases o.dst<;>simp[jD]
theorem aAJ {ty:Nat->Type}:∀ (l:List Oper) (E:List (V ty)) (s:List (V ty)) (o:Oper) (v:V ty),E.length=l.length->kN (l++[o]) (E++[v]) s=jD (kN l E s) o.dst v
 | [],[],_,_,_,_=>rfl
 | [],_::_,_,_,_,h=>by simp at h
 | _::_,[],_,_,_,h=>by simp at h
 | a::l,b::E,s,o,v,h=>by
  simp only[List.cons_append,kN];exact aAJ l E _ o v (by simpa using h)
theorem aGw {ty:Nat->Type}(s:List (V ty))(d:Option Nat)(v:V ty)(t:Nat)(hd:∀ x,d=some x->x < s.length):(jD s d v).getD t aN=if d=some t then v else s.getD t aN:=by
 cases d with
 | none=>simp[jD]
 | some d=>
  have:=hd d rfl;by_cases h:d=t
  ·subst h;simp[jD,List.getD,this]
  ·have h':¬ some d=some t:=by simpa using h
   simp[jD,List.getD,fF h,h']
theorem aAI {ty:Nat->Type}{l:List Oper}{E:List (V ty)}{s:List (V ty)}(hE:E.length=l.length)(hlen:∀ (j:Nat) o d,l[j]?=some o->o.dst=some d->d < s.length)
  (hdist:∀ t i j,i < l.length->j < l.length->(l[i]?).bind (·.dst)=some t->(l[j]?).bind (·.dst)=some t->i=j) :
  ∀ j,j<=l.length->∀ t,(kN (l.take j) (E.take j) s).getD t aN=vOf (λi=>(l[i]?).bind (·.dst)) (λi=>E.getD i aN) (λt=>s.getD t aN) l.length (λi=>decide (i < j)) t
 | 0,_,t=>by
  rw[aDt (λi _ h=>by simp at h)]
  rfl
 | j+1,hj,t=>by
  have hlt:j < l.length:=hj;have hltE:j < E.length:=by omega
  have e1:l.take (j+1)=l.take j++[l[j]]:=by rw[List.take_succ_eq_append_getElem hlt]
  have e2:E.take (j+1)=E.take j++[E[j]]:=by rw[List.take_succ_eq_append_getElem hltE]
  rw[e1,e2,aAJ _ _ _ _ _ (by simp;omega),aGw _ _ _ _ (λx hx=>by rw[pJ];exact hlen j _ x (aC hlt) hx)];by_cases hd:l[j].dst=some t
  ·have hdj:(l[j]?).bind (·.dst)=some t:=by rw[aC hlt];exact hd
   rw[if_pos hd,aFt (λa b ha hb h1 h2=>hdist t a b ha hb h1 h2) hlt (by simp) hdj];simp[List.getD,aC hltE]
  ·rw[if_neg hd,aAI hE hlen hdist j (by omega) t];apply rV;intro i hi ht;have hij:i≠j:=by
    intro h;subst h;rw[aC hlt]at ht;exact hd ht
   simp only[decide_eq_decide];omega
theorem uS {ops:Array Oper}{o:Oper}{t:Nat}(h:Operand.tmp t∈o.op.operands):t∈o.looksAt ops:=by
 unfold Oper.looksAt;refine aA.2 (.inl (List.mem_filterMap.2 ⟨.tmp t,by simpa using h,rfl⟩))
theorem pV {ops:Array Oper}{o:Oper}{g:Nat}{want:Bool}{t:Nat}(h:o.guard=some (g,want))(ht:(ops[g]?).bind (·.dst)=some t):t∈o.looksAt ops:=by
 unfold Oper.looksAt;refine aA.2 (.inr ?_);rw[h];simp[ht]
end
section
variable {cx : Cx} {P : Program}
def ClosedL (ops:Array Oper)(listed:Array Bool):Prop:=∀ i,listed.getD i false=true->∀ x∈jV ops i,listed.getD x false=true
theorem rL {ops:Array Oper}{listed:Array Bool}(hc:ClosedL ops listed):∀ (n:Nat) (l:List Nat),(∀ x∈l,listed.getD x false=true)->∀ x∈aIT ops n l,listed.getD x false=true
 | 0,l,h,x,hx=>h x hx
 | n+1,l,h,x,hx=>by
  refine rL hc n _ (λy hy=>?_) x hx;have hy:=List.mem_eraseDups.1 hy;rcases aA.1 hy with hy | hy
  ·exact h y hy
  ·obtain⟨z,hz,hy⟩:=bB.1 hy;exact hc z (h z hz) y hy
theorem wT {ops:Array Oper}{i:Nat}{o:Oper}(ho:ops[i]?=some o){x:Nat}:x∈jV ops i↔∃ e∈o.after,Region.binds .any e=true/\e.on=x:=by
 simp only[jV,ho,aM,eH,Array.mem_toList_iff];exact⟨λ⟨e,⟨h1,h2⟩,h3⟩=>⟨e,h1,h2,h3⟩,λ⟨e,h1,h2,h3⟩=>⟨e,⟨h1,h2⟩,h3⟩⟩
theorem oP {ops:Array Oper}{listed:Array Bool}{j:Nat}:j∈Region.ready .any ops listed↔listed.getD j true=false/\(∃ o,ops[j]?=some o)/\∀ x∈jV ops j,listed.getD x false=true:=by
 rw[mem_ready];constructor
 ·rintro⟨h1,o,ho,h2⟩;refine⟨h1,⟨o,ho⟩,λx hx=>?_⟩;obtain⟨e,he,hb,rfl⟩:=(wT ho).1 hx;exact h2 e he hb
 ·rintro⟨h1,⟨o,ho⟩,h2⟩;exact⟨h1,o,ho,λe he hb=>h2 _ ((wT ho).2 ⟨e,he,hb,rfl⟩)⟩
theorem oR {listed:Array Bool}{j:Nat}(hj:j < listed.size)(b:Bool):listed.getD j b=listed.getD j false:=by
 simp[hj]
theorem kB {listed:Array Bool}{j:Nat}(hj:j < listed.size)(b:Bool):(listed.setIfInBounds j true).getD j b=true:=by
 simp[hj]
theorem rK {ops:Array Oper}{p:Nat}(h:tZ ops p=true){j:Nat}(hj:j < ops.size):∀ i∈jV ops j,i < j:=by
 simp only[tZ,aJ,cG,gG,decide_eq_true_eq]at h;exact h.1 j hj
theorem lS {ops:Array Oper}{p:Nat}(h:tZ ops p=true){i j:Nat}(hj:j < p)(hi:i < j){oi oj:Oper}(h1:ops[i]?=some oi)(h2:ops[j]?=some oj):(i∈jV ops j\/oi.apart ops oj=true)/\oi.dst≠oj.dst:=by
 simp only[tZ,aJ,cG,gG]at h;have:=h.2 j hj i hi;simp only[h1,h2,aJ,gL,bne_iff_ne,ne_eq]at this;refine⟨?_,this.2⟩;rcases this.1 with h | h
 ·exact .inl (by simpa using h)
 ·exact .inr h
theorem aDV {ops:Array Oper}{p:Nat}(h:aDW ops p=true){r:Nat}(hr:r < ops.size)(hp:p<=r){i:Nat}(hi:i < r):i∈aIT ops 3 (jV ops r):=by
 simp only[aDW,cG,gG]at h;have:=h r hr;simp only[gL,decide_eq_true_eq]at this;rcases this with h | h
 ·omega
 ·simp only[cG,gG]at h;simpa using h i hi
theorem aFv (ok:cx.Ok)(hZ:cx.POk P){Kc:Kt cx}(hK:KOk P cx Kc){Kw:Kwt cx}(hKw:KwOk P cx Kw){β:Type}{W:World}{S N:Nat->Prop}{KK:List (Nat×Value)}{ops:Array Oper}{p:Nat}(hearly:tZ ops p=true)(hlate:aDW ops p=true){Q:Exit->Act->World->Prop}{k:St cx.ty->Option β}{kt:Value->St cx.ty->Option β}{r:β}
  (hQt:∀ v c st a,RS cx c st a->c.S=S->(c.N=N/\c.K=KK)->Kept N W c.w->kt v st=some r->Q (.panic [{ v:=v,recovered:=false }]) a c.w)
  (hQ:∀ c st a,RS cx c st a->c.S=S->(c.N=N/\c.K=KK)->Kept N W c.w->k st=some r->Q .normal a c.w) :
  ∀ (l:List Oper) (i:Nat),p<=i->i+l.length=ops.size->(∀ j,l[j]?=ops[i+j]?)->∀ (listed:Array Bool) (st:St cx.ty) (c:Ct cx.ty) (a:Act),listed.size=ops.size->(∀ x,x < ops.size->listed.getD x false=decide (x < i))->
   RS cx c st a->c.S=S->(c.N=N/\c.K=KK)->Kept N W c.w->fW P Kc Kw kt ops k l st=some r->wpAny P .any ops Q l.length listed a c.w
 | [],i,hpi,hil,_,listed,st,c,a,hls,hl,h,hS,hb,hbl,he=>by
  refine⟨?_,hQ c st a h hS hb hbl he⟩;rw[iV];intro j hj;obtain⟨h1,⟨o,ho⟩,_⟩:=oP.1 hj;have hjs:j < ops.size:=(aL.1 ho).1;rw[oR (by omega),hl j hjs]at h1;simp at hil;simp at h1;omega
 | o::rest,i,hpi,hil,hll,listed,st,c,a,hls,hl,h,hS,hb,hbl,he=>by
  have h0:ops[i]?=some o:=by simpa using(hll 0).symm
  have his:i < ops.size:=(aL.1 h0).1;have hcl:ClosedL ops listed:=by
   intro y hy x hx;by_cases hys:y < ops.size
   ·rw[hl y hys]at hy;have hxy:=rK hearly hys x hx;rw[hl x (by omega)];simp at hy ⊢;omega
   ·have:listed[y]?=none:=Array.getElem?_eq_none (by omega);simp[aZ,this]at hy
  refine⟨λhnil=>?_,λj hj=>?_⟩
  ·have:i∈Region.ready .any ops listed:=by
    refine oP.2 ⟨?_,⟨o,h0⟩,λx hx=>?_⟩
    ·rw[oR (by omega),hl i his];simp
    ·have:=rK hearly his x hx;rw[hl x (by omega)];simpa using this
   rw[hnil]at this;cases this
  ·obtain⟨h1,⟨oj,hoj⟩,h2⟩:=oP.1 hj;have hjs:j < ops.size:=(aL.1 hoj).1;rw[oR (by omega),hl j hjs]at h1;have hij:i<=j:=by simp at h1;omega
   have hji:j=i:=by
    rcases eR i j with hlt | hge
    ·have h3:=rL hcl 3 _ h2 i (aDV hlate hjs (by omega) hlt);rw[hl i his]at h3;simp at h3
    ·omega
   subst hji;refine aAK ok hZ hK hKw hQt h0 h hS hb hbl he λc' st' a' k1 k2 k3 k4 k5=>?_
   refine aFv ok hZ hK hKw hearly hlate hQt hQ rest (j+1) (by omega) (by simp at hil;omega) (λx=>by have:=hll (x+1);simpa[gT,fX 1 x]using this) _ st' c' a' (by simpa using hls) (λx hx=>?_) k1 k2 k3 k4 k5;by_cases hxj:x=j
   ·subst hxj;rw[kB (by omega)];simp
   ·rw[getD_set_ne _ (Ne.symm hxj),hl x hx];simp only[decide_eq_decide];omega
theorem aFm {ctr n:Nat}{d d':Option Nat}(h1:iX d=true)(h2:iX d'=true)(hne:d≠d')(hb:fN ctr d<=n/\n < fN ctr d+64)(hb':fN ctr d'<=n/\n < fN ctr d'+64):False:=by
 unfold fN at hb hb';cases d with
 | none=>
  cases d' with
  | none=>exact hne rfl
  | some y=>
   have:y < 1000:=by simpa[iX]using h2
   simp only at hb hb';omega
 | some x=>
  have h3:x < 1000:=by simpa[iX]using h1
  cases d' with
  | none=>simp only at hb hb';omega
  | some y=>
   have:x≠y:=λe=>hne (by rw[e])
   simp only at hb hb';omega
structure SF (cx:Cx) (dst:Nat->Option Nat) (E:Nat->V cx.ty) (s0:Nat->V cx.ty) (p len ctr lo:Nat) (D F:List Nat) (dd:Nat->List Nat) (X:Nat->Bool) (c:Ct cx.ty) (a:Act):Prop where
 wf:Wf cx c
 size:a.tmps.size=len
 rep:∀ t,RepV cx c (vOf dst E s0 p X t) (a.tmps.getD t undef)
 defers:a.defers=[]
 dead:∀ n,n∈c.D↔n∈D\/∃ i,i < p/\X i=true/\n∈dd i
 frz:∀ n,n∈c.F↔n∈F
 names:∀ n,Nm c n->n < ctr * 65536\/∃ i,i < p/\X i=true/\fN ctr (dst i)<=n/\n < fN ctr (dst i)+64
 kp:∀ q u,(q,u)∈c.K->q < lo/\a.tmps.getD q undef=u
theorem aCK {q:Nat->Prop}:∀ (n:Nat),q n->∃ m,m<=n/\q m/\∀ k,k < m->¬ q k:=by
 intro n
 induction n using Nat.strongRecOn with
 | _ n ih=>
  intro h;rcases Classical.em (∃ k,k < n/\q k)with⟨k,hk,hq⟩ | hno
  ·obtain⟨m,h1,h2,h3⟩:=ih k hk hq;exact⟨m,by omega,h2,h3⟩
  ·exact⟨n,aK _,h,λk hk hq=>hno ⟨k,hk,hq⟩⟩
theorem aAX (listed:Array Bool)(j:Nat)(hj:j < listed.size)(hf:listed.getD j false=false):∀ p,(List.range p).countP (λi=>!listed.getD i false)=(List.range p).countP (λi=>!(listed.setIfInBounds j true).getD i false)+(if j < p then 1 else 0)
 | 0=>by simp
 | p+1=>by
  rw[List.range_succ,List.countP_append,List.countP_append,aAX listed j hj hf p];by_cases h:j=p
  ·subst h;have e1:(listed.setIfInBounds j true).getD j false=true:=kB hj false;simp only[mD,hf,e1,tF,eM,if_true,Nat.lt_irrefl,if_false,Nat.lt_succ_self,jR];simp
  ·have e1:(listed.setIfInBounds j true).getD p false=listed.getD p false:=getD_set_ne false h;rw[mD,mD,e1];have h2:(j < p+1)↔(j < p):=by omega
   simp only[h2];omega
theorem aFJ {W:World}{S N:Nat->Prop}{KK:List (Nat×Value)}{ops:Array Oper}{p:Nat}(hp:p<=ops.size)(hearly:tZ ops p=true)(hlate:aDW ops p=true){Q:Exit->Act->World->Prop}
  {slots E:List (V cx.ty)} {dd:List (List Nat)} {ctr lo:Nat} {D F:List Nat} (hE:E.length=p)
  (hfact:∀ (j:Nat) o v,(ops.toList.take p)[j]?=some o->E[j]?=some v->OpFact P cx ops D F ctr slots.length lo o (kN ((ops.toList.take p).take j) (E.take j) slots) v (dd.getD j []) (λn=>∃ i,i≠j/\n∈dd.getD i []))
  (hend:∀ (listed:Array Bool) (c:Ct cx.ty) (a:Act),listed.size=ops.size->(∀ x,x < ops.size->listed.getD x false=decide (x < p))->SF cx (λi=>((ops.toList.take p)[i]?).bind (·.dst)) (λi=>E.getD i aN) (λt=>slots.getD t aN) p slots.length ctr lo D F (λi=>dd.getD i []) (λi=>listed.getD i false) c a->
   c.S=S->(c.N=N/\c.K=KK)->Kept N W c.w->wpAny P .any ops Q (ops.size-p) listed a c.w) :
  ∀ (m:Nat) (listed:Array Bool) (c:Ct cx.ty) (a:Act),listed.size=ops.size->ClosedL ops listed->(∀ i,p<=i->listed.getD i false=false)->(List.range p).countP (λi=>!listed.getD i false)=m->
   SF cx (λi=>((ops.toList.take p)[i]?).bind (·.dst)) (λi=>E.getD i aN) (λt=>slots.getD t aN) p slots.length ctr lo D F (λi=>dd.getD i []) (λi=>listed.getD i false) c a->c.S=S->(c.N=N/\c.K=KK)->Kept N W c.w->
   wpAny P .any ops Q (m+(ops.size-p)) listed a c.w
 | 0,listed,c,a,hls,_,hbehind,hm,h,hS,hb,hbl=>by
  rw[cX];refine hend listed c a hls (λx hx=>?_) h hS hb hbl;by_cases hxp:x < p
  ·have:=List.countP_eq_zero.1 hm x (gG.2 hxp);simpa[hxp]using this
  ·rw[hbehind x (by omega)];simpa using hxp
 | m+1,listed,c,a,hls,hcl,hbehind,hm,h,hS,hb,hbl=>by
  have hops:∀ j,j < p->∃ o,ops[j]?=some o/\(ops.toList.take p)[j]?=some o:=by
   intro j hj;have hjs:j < ops.size:=by omega
   exact⟨ops[j],gI hjs,by rw[bK,if_pos hj];simp[hjs]⟩
  have hl0:(ops.toList.take p).length=p:=by simp;omega
  have hdist:∀ t i j,i < p->j < p->((ops.toList.take p)[i]?).bind (·.dst)=some t->((ops.toList.take p)[j]?).bind (·.dst)=some t->i=j:=by
   have key:∀ t i j,i < j->j < p->((ops.toList.take p)[i]?).bind (·.dst)=some t->((ops.toList.take p)[j]?).bind (·.dst)=some t->False:=by
    intro t i j hij hj h1 h2;obtain⟨oi,a1,a2⟩:=hops i (by omega);obtain⟨oj,b1,b2⟩:=hops j hj;rw[a2]at h1;rw[b2]at h2;have h1:oi.dst=some t:=h1;have h2:oj.dst=some t:=h2;exact(lS hearly hj hij a1 b1).2 (by rw[h1,h2])
   intro t i j hi hj h1 h2;rcases gC i j with hlt | heq | hgt
   ·exact(key t i j hlt hj h1 h2).elim
   ·exact heq
   ·exact(key t j i hgt hi h2 h1).elim
  have hex:∃ i,i < p/\listed.getD i false=false:=by
   have hpos:0 < (List.range p).countP (λi=>!listed.getD i false):=by omega
   obtain⟨i,hi,hi2⟩:=List.countP_pos_iff.1 hpos;exact⟨i,gG.1 hi,by simpa using hi2⟩
  obtain⟨i0,hi0,hu0⟩:=hex;rw[show m+1+(ops.size-p)=(m+(ops.size-p))+1 by omega];refine⟨λhnil=>?_,λj hj=>?_⟩
  ·obtain⟨i1,hle,⟨hi1,hu1⟩,hleast⟩:=aCK (q:=λi=>i < p/\listed.getD i false=false) i0 ⟨hi0,hu0⟩;obtain⟨o1,ho1,_⟩:=hops i1 hi1;have:i1∈Region.ready .any ops listed:=by
    refine oP.2 ⟨by rw[oR (by omega)];exact hu1,⟨o1,ho1⟩,λx hx=>?_⟩;have hx1:=rK hearly (by omega) x hx;rcases hxx:listed.getD x false with _ | _
    ·exact absurd ⟨by omega,hxx⟩ (hleast x hx1)
    ·rfl
   rw[hnil]at this;cases this
  ·obtain⟨h1,⟨oj,hoj⟩,h2⟩:=oP.1 hj;have hjs:j < ops.size:=(aL.1 hoj).1;rw[oR (by omega)]at h1;have hjp:j < p:=by
    rcases eR j p with hlt | hge
    ·exact hlt
    ·have h3:=rL hcl 3 _ h2 i0 (aDV hlate hjs hge (by omega));rw[hu0]at h3;cases h3
   obtain⟨oj',hoj',hlj⟩:=hops j hjp;rw[hoj]at hoj';simp only[aB]at hoj';subst hoj';obtain⟨v,hv⟩:∃ v,E[j]?=some v:=⟨_,aC (by omega)⟩
   have hf:=hfact j oj v hlj hv;obtain⟨hsm,hlo,hdl,hf⟩:=hf;have hlook:∀ t,t∈oj.looksAt ops->vOf (λi=>((ops.toList.take p)[i]?).bind (·.dst)) (λi=>E.getD i aN) (λt=>slots.getD t aN) p (λi=>listed.getD i false) t=
     (kN ((ops.toList.take p).take j) (E.take j) slots).getD t aN:=by
    intro t ht;have hfv:=aAI (l:=ops.toList.take p) (E:=E) (s:=slots) (by omega) (λx o d e1 e2=>by
     have hx:x < p:=by have:=(aI.1 e1).1;omega
     obtain⟨vx,hvx⟩:∃ v,E[x]?=some v:=⟨_,aC (by omega)⟩
     exact(hfact x o vx e1 hvx).2.2.1 d e2) (λt a b ha hb=>hdist t a b (by omega) (by omega)) j (by omega) t
    rw[hl0]at hfv;rw[hfv];apply rV;intro i hi hti;obtain⟨oi,ho1,ho2⟩:=hops i hi;rw[ho2]at hti;have hti:oi.dst=some t:=hti;rcases gC i j with hlt | heq | hgt
    ·have hpair:=(lS hearly hjp hlt ho1 hoj).1;rcases hpair with hp1 | hp1
     ·rw[h2 i hp1];simp[hlt]
     ·exact absurd ht ((Oper.apart_spec hp1).1 t hti)
    ·subst heq;rw[h1];simp
    ·have hpair:=(lS hearly hi hgt hoj ho1).1;rcases hpair with hp1 | hp1
     ·have hnl:listed.getD i false=false:=by
       rcases hli:listed.getD i false with _ | _
       ·rfl
       ·have:=hcl i hli j hp1;rw[h1]at this;cases this
      rw[hnl];simp;omega
     ·exact absurd ht ((Oper.apart_spec hp1).2.2 t hti)
   have step:∀ (c':Ct cx.ty) (a':Act),Wf cx c'->a'.tmps.size=slots.length->a'.defers=[]->(∀ n,n∈c'.D↔n∈dd.getD j []\/n∈c.D)->(∀ n,n∈c'.F↔n∈F)->c'.S=S->(c'.N=N/\c'.K=KK)->Kept N W c'.w->
     (∀ n,Nm c' n->Nm c n\/(fN ctr oj.dst<=n/\n < fN ctr oj.dst+64))->
     (∀ t,RepV cx c' (if oj.dst=some t then v else vOf (λi=>((ops.toList.take p)[i]?).bind (·.dst)) (λi=>E.getD i aN) (λt=>slots.getD t aN) p (λi=>listed.getD i false) t) (a'.tmps.getD t undef))->(∀ q u,(q,u)∈c'.K->q < lo/\a'.tmps.getD q undef=u)->
     wpAny P .any ops Q (m+(ops.size-p)) (listed.setIfInBounds j true) a' c'.w:=by
    intro c' a' k1 k2 k3 k4 k5 k6 k7 k8 k9 k10 k11;refine aFJ hp hearly hlate hE hfact hend m _ c' a' (by simpa using hls) ?_ ?_ ?_ ⟨k1,k2,λt=>?_,k3,λn=>?_,k5,λn hn=>?_,k11⟩ k6 k7 k8
    ·intro y hy x hx;by_cases hyj:y=j
     ·subst hyj;exact getD_set_true (h2 x hx)
     ·rw[getD_set_ne false (Ne.symm hyj)]at hy;exact getD_set_true (hcl y hy x hx)
    ·intro i hi;rw[getD_set_ne false (by omega)];exact hbehind i hi
    ·have:=aAX listed j (by omega) h1 p;rw[if_pos hjp]at this;omega
    ·have hk:=k10 t;by_cases hd:oj.dst=some t
     ·rw[if_pos hd]at hk;rw[aFt (i:=j) (λa b ha hb=>hdist t a b ha hb) hjp (kB (by omega) false) (by rw[hlj];exact hd)];simpa[List.getD,hv]using hk
     ·rw[if_neg hd]at hk;have:vOf (λi=>((ops.toList.take p)[i]?).bind (·.dst)) (λi=>E.getD i aN) (λt=>slots.getD t aN) p (λi=>(listed.setIfInBounds j true).getD i false) t=
        vOf (λi=>((ops.toList.take p)[i]?).bind (·.dst)) (λi=>E.getD i aN) (λt=>slots.getD t aN) p (λi=>listed.getD i false) t:=by
       apply rV;intro i hi hti;have hij:i≠j:=by
        intro e;subst e;rw[hlj]at hti;exact hd hti
       exact getD_set_ne false (Ne.symm hij)
      rw[this];exact hk
    ·rw[k4 n,h.dead n];constructor
     ·rintro(hn | hn | ⟨i,hi,hX,hn⟩)
      ·exact .inr ⟨j,hjp,kB (by omega) false,hn⟩
      ·exact .inl hn
      ·exact .inr ⟨i,hi,getD_set_true hX,hn⟩
     ·rintro(hn | ⟨i,hi,hX,hn⟩)
      ·exact .inr (.inl hn)
      ·by_cases hij:i=j
       ·subst hij;exact .inl hn
       ·rw[getD_set_ne false (Ne.symm hij)]at hX;exact .inr (.inr ⟨i,hi,hX,hn⟩)
    ·rcases k9 n hn with hn | hn
     ·rcases h.names n hn with hn | ⟨i,hi,hX,hn⟩
      ·exact .inl hn
      ·exact .inr ⟨i,hi,getD_set_true hX,hn⟩
     ·exact .inr ⟨j,hjp,kB (by omega) false,by rw[hlj];exact hn⟩
   have hrep:∀ t,RepV cx c (vOf (λi=>((ops.toList.take p)[i]?).bind (·.dst)) (λi=>E.getD i aN) (λt=>slots.getD t aN) p (λi=>listed.getD i false) t) (a.tmps.getD t undef):=h.rep;have put:∀ {c':Ct cx.ty} {u:Value},(∀ t,RepV cx c' (vOf (λi=>((ops.toList.take p)[i]?).bind (·.dst)) (λi=>E.getD i aN) (λt=>slots.getD t aN) p (λi=>listed.getD i false) t) (a.tmps.getD t undef))->RepV cx c' v u->
     ∀ t,RepV cx c' (if oj.dst=some t then v else vOf (λi=>((ops.toList.take p)[i]?).bind (·.dst)) (λi=>E.getD i aN) (λt=>slots.getD t aN) p (λi=>listed.getD i false) t) ((a.put oj.dst u).tmps.getD t undef):=by
    intro c' u g1 g2 t;cases hd:oj.dst with
    | none=>simpa[Act.put]using g1 t
    | some d=>
     by_cases hdt:d=t
     ·subst hdt;have hdd:=hdl d hd;have e2:(a.put (some d) u).tmps.getD d undef=u:=by simp[Act.put,h.size,hdd]
      rw[if_pos rfl,e2];exact g2
     ·have e2:(a.put (some d) u).tmps.getD t undef=a.tmps.getD t undef:=by simp[Act.put,fD hdt]
      rw[if_neg (by simpa using hdt),e2];exact g1 t
   have psize:∀ u,(a.put oj.dst u).tmps.size=slots.length:=by
    intro u;cases oj.dst<;>simp[Act.put,h.size]
   have hguard:∀ g want b,oj.guard=some (g,want)->mX ops (kN ((ops.toList.take p).take j) (E.take j) slots) g=some b->yielded ops a.tmps g=some b:=by
    intro g want b hg hb';unfold mX at hb';cases hd:(ops[g]?).bind (·.dst)with
    | none=>simp[hd]at hb'
    | some d=>
     simp only[hd]at hb';have hl:=hlook d (pV hg hd);rw[<-hl]at hb';have hr:=hrep d;split at hb'
     ·rename_i b' hbb;simp only[aB]at hb';subst hb';rw[hbb]at hr;have hr:a.tmps.getD d undef=.bool b':=hr;unfold yielded;simp only[hd,iB];cases ht:a.tmps[d]? with
      | none=>simp[aZ,ht,undef]at hr
      | some x=>
       have hx:x=.bool b':=by simpa[aZ,ht]using hr
       rw[hx]
     ·simp at hb'
   have hguardU:∀ g want,oj.guard=some (g,want)->tT ops (kN ((ops.toList.take p).take j) (E.take j) slots) g=true->yielded ops a.tmps g=none:=by
    intro g want hg hb';unfold tT at hb';cases hd:(ops[g]?).bind (·.dst)with
    | none=>simp[hd]at hb'
    | some d=>
     simp only[hd]at hb';have hl:=hlook d (pV hg hd);rw[<-hl]at hb';have hr:=hrep d;split at hb'
     ·simp at hb'
     ·rename_i v hnb hv;rw[hv]at hr;have hr:a.tmps.getD d undef=v:=hr;unfold yielded;simp only[hd,iB];cases ht:a.tmps[d]? with
      | none=>rfl
      | some x=>
       have hx:x=v:=by simpa[aZ,ht]using hr
       subst hx;cases x with
       | bool b=>exact absurd rfl (hnb b)
       | _=>rfl
     ·simp at hb'
   unfold wpOp;simp only[hoj];have hnd:∀ n,n∉D->(¬ ∃ i,i≠j/\n∈dd.getD i [])->n∉c.D:=λn q1 q2 q3=>by
    rcases(h.dead n).1 q3 with q3 | ⟨i,hi,hX,q3⟩
    ·exact q1 q3
    ·refine q2 ⟨i,λe=>?_,q3⟩;subst e;rw[h1]at hX;cases hX
   rcases hf with⟨ef,hgo,heff,rfl,hfz,hdj,hrd,hlv⟩ | ⟨hvj,hdj,g,want,hg,hnw⟩
   ·have hwant:Region.wanted oj (yielded ops a.tmps)=true:=by
     unfold vC at hgo;unfold Region.wanted;split at hgo
     ·rename_i hg;rw[hg]
     ·rename_i g want hg;obtain⟨b,hb',hbw⟩:=hgo;rw[hg];simp only;rw[hguard g want b hg hb'];simpa using hbw
    rw[if_pos hwant];refine .inl (Oper.wp_of_runs ?_);have hrun:=heff.go c a.eval h.wf (λx hx=>?_) (λn hn=>⟨hnd n (hlv n hn).1.1 (hlv n hn).2,λhF=>(hlv n hn).1.2 ((h.frz n).1 hF)⟩) (λn hn=>hnd n (hrd n hn).1 (hrd n hn).2) (λn hn hband=>?_)
    ·refine hrun.mono λu w' ⟨T',hg⟩=>?_
     exact step (c.nx ef w' T') _ hg.wf (psize u) (by rw[iL];exact h.defers) (λn=>by rw[<-hdj];exact aA) (λn=>by show n∈ef.frz++c.F↔n∈F;rw[hfz];exact h.frz n) hS hb (hbl.trans (by rw[<-hb.1];exact hg.below)) hg.names
      (put (λt=>RepV.pres cx hg.pres (hrep t)) hg.rep) (λq u' hq=>⟨(h.kp q u' hq).1,(pE hlo u (h.kp q u' hq).1).trans (h.kp q u' hq).2⟩)
    ·cases x with
     | tmp t=>
      have:=hlook t (uS hx);show RepV cx c ((kN ((ops.toList.take p).take j) (E.take j) slots).getD t aN) (a.tmps.getD t undef);rw[<-this];exact hrep t
     | const v=>exact rfl
     | global g=>trivial
     | func f=>exact rfl
    ·rcases h.names n hn with hlt | ⟨i,hi,hX,hb1,hb2⟩
     ·have:ctr * 65536<=fN ctr oj.dst:=Nat.le_add_right _ _;omega
     ·obtain⟨oi,ho1,ho2⟩:=hops i hi;rw[ho2]at hb1 hb2;have hb1:fN ctr oi.dst<=n:=hb1;have hb2:n < fN ctr oi.dst+64:=hb2;have hij:i≠j:=by
       intro e;subst e;rw[h1]at hX;cases hX
      have hne:oi.dst≠oj.dst:=by
       rcases Nat.lt_or_gt_of_ne hij with hlt | hgt
       ·exact(lS hearly hjp hlt ho1 hoj).2
       ·exact λe=>(lS hearly hi hgt hoj ho1).2 e.symm
      obtain⟨vi,hvi⟩:∃ v,E[i]?=some v:=⟨_,aC (by omega)⟩
      have hsi:=(hfact i oi vi ho2 hvi).1;exact aFm hsi hsm hne ⟨hb1,hb2⟩ hband
   ·have hwant:Region.wanted oj (yielded ops a.tmps)=false:=by
     unfold Region.wanted;rw[hg];simp only;rcases hnw with⟨b,hb',hbw⟩ | hu
     ·rw[hguard g want b hg hb'];simpa using hbw
     ·rw[hguardU g want hg hu]
      rfl
    rw[if_neg (by simp[hwant])];refine step c _ h.wf (psize undef) (by rw[iL];exact h.defers) (λn=>by rw[hdj];simp) h.frz hS hb hbl (λn hn=>.inl hn) (put hrep (by rw[hvj];exact rfl)) (λq u' hq=>⟨(h.kp q u' hq).1,(pE hlo undef (h.kp q u' hq).1).trans (h.kp q u' hq).2⟩)
end
section
variable {cx : Cx} {P : Program}
def rnL {ty:Nat->Type}(ns:List Nat):L ty->L ty
 | some (.inr s)=>if s.own == 1&&ns.contains s.nm then some (.inr (ro s.e s.xs))else some (.inr s)
 | l=>l
def rnA {ty:Nat->Type}(ns:List Nat):A ty->A ty
 | .inl l=>.inl (rnL ns l)
 | .inr l=>.inr (l.map (rnL ns))
def rnV {ty:Nat->Type}(ns:List Nat):V ty->V ty
 | .inl a=>.inl (rnA ns a)
 | .inr (.inl l)=>.inr (.inl (l.map (rnA ns)))
 | .inr (.inr p)=>if p.kind == 0 then .inr (.inr { p with cells:=p.cells.map (rnL ns) })else .inr (.inr p)
def rnT {ty:Nat->Type}(ns:List Nat)(tk:Tk ty):Tk ty:=match tk.c with
 | .inl _=>tk
 | .inr l=>{ tk with c:=.inr (l.map (rnL ns)) }
theorem aCq {ty:Nat->Type}(ns:List Nat)(tk:Tk ty):(rnT ns tk).nm=tk.nm:=by unfold rnT;split<;>rfl
theorem aDD {ty:Nat->Type}(ns:List Nat)(tk:Tk ty):(rnT ns tk).u=tk.u:=by unfold rnT;split<;>rfl
theorem aEJ {ty:Nat->Type}(ns:List Nat)(tk:Tk ty):(rnT ns tk).fp=tk.fp:=by unfold rnT;split<;>rfl
theorem aCp {ty:Nat->Type}{ns:List Nat}{tk:Tk ty}{s:SlD ty}(h:tk.c=.inl s):rnT ns tk=tk:=by unfold rnT;rw[h]
theorem aFA {ty:Nat->Type}{ns:List Nat}{tk:Tk ty}{l:List (L ty)}(h:tk.c=.inr l):(rnT ns tk).c=.inr (l.map (rnL ns)):=by unfold rnT;rw[h]
def Ct.rn {ty:Nat->Type}(c:Ct ty)(ns:List Nat):Ct ty:={ c with T:=c.T.map (rnT ns) }
theorem aBD {c:Ct cx.ty}{ns:List Nat}{b:Nat}(h:Rd c b):Rd (c.rn ns) b:=by
 refine⟨h.1,h.2.1,λtk ht=>?_⟩;obtain⟨t2,h2,rfl⟩:=aM.1 ht;rw[aDD];exact h.2.2 t2 h2
theorem aCr {c:Ct cx.ty}{ns:List Nat}(hns:∀ n∈ns,n∈c.F/\n∉c.D){l:L cx.ty}{u:Value}(h:RepLS cx c l u):RepLS cx (c.rn ns) (rnL ns l) u:=by
 match l,h with
 | none,_=>trivial
 | some (.inl v),h=>exact h
 | some (.inr s),h=>
  unfold RepLS at h;show RepLS cx (c.rn ns) (if s.own == 1&&ns.contains s.nm then some (.inr (ro s.e s.xs))else some (.inr s)) u;simp only at h;by_cases h1:s.own=1
  ·by_cases hm:s.nm∈ns
   ·simp only[h1,if_true,(hns _ hm).2,(hns _ hm).1,if_false]at h;have hc:(s.own == 1&&ns.contains s.nm)=true:=by simp[h1,hm]
    rw[if_pos hc];obtain⟨_,n,h⟩:=h;exact⟨n,RepL_mono cx (λ_ _=>rfl) (λb hb=>aBD hb) n _ u (aHW h)⟩
   ·have hc:¬ (s.own == 1&&ns.contains s.nm)=true:=by simp[hm]
    rw[if_neg hc];simp only[h1,if_true]at h;unfold RepLS;simp only[h1,if_true];obtain⟨hsl,h⟩:=h;refine⟨hsl,?_⟩;show if s.nm∈c.D then True else if s.nm∈c.F then _ else _
    split at h
    ·rename_i hd;rw[if_pos hd];trivial
    ·rename_i hd;rw[if_neg hd];split at h
     ·rename_i hf;rw[if_pos hf];obtain⟨n,h⟩:=h;exact⟨n,RepL_mono cx (λ_ _=>rfl) (λb hb=>aBD hb) n _ u h⟩
     ·rename_i hf;rw[if_neg hf];obtain⟨tk,k1,k2,k3,k4⟩:=h;exact⟨tk,aM.2 ⟨tk,k1,aCp k3⟩,k2,k3,k4⟩
  ·have hc:¬ (s.own == 1&&ns.contains s.nm)=true:=by simp[h1]
   rw[if_neg hc];simp only[h1,if_false]at h;unfold RepLS;simp only[h1,if_false];obtain⟨n,h⟩:=h;exact⟨n,RepL_mono cx (λ_ _=>rfl) (λb hb=>aBD hb) n _ u h⟩
theorem aFB {c:Ct cx.ty}{ns:List Nat}(hns:∀ n∈ns,n∈c.F/\n∉c.D){a:A cx.ty}{u:Value}(h:RepA cx c a u):RepA cx (c.rn ns) (rnA ns a) u:=by
 match a,h with
 | .inl l,h=>exact aCr hns h
 | .inr l,⟨us,hu,h⟩=>exact⟨us,hu,h.mapE λl u h=>aCr hns h⟩
theorem aJE {c:Ct cx.ty}{ns:List Nat}(hns:∀ n∈ns,n∈c.F/\n∉c.D){v:V cx.ty}{u:Value}(h:RepV cx c v u):RepV cx (c.rn ns) (rnV ns v) u:=by
 match v,h with
 | .inl a,h=>exact aFB hns h
 | .inr (.inl l),⟨us,hu,h⟩=>
  refine⟨us,hu,by rw[dK];exact h.1,λj a u e1 e2=>?_⟩;rw[aX]at e1;cases e0:l[j]? with
  | none=>rw[e0]at e1;simp at e1
  | some a0=>
   rw[e0]at e1;simp only[aD,aB]at e1;subst e1;exact aFB hns (h.2 j a0 u e0 e2)
 | .inr (.inr p),h=>
  have el:∀ {s:SlD cx.ty} {i b o:Nat},RepEl cx c s i b o->RepEl cx (c.rn ns) s i b o:=by
   rintro s i b o ⟨hb,x,hx,n,hr⟩;refine⟨aBD hb,x,hx,n,λj l hl=>?_⟩;obtain⟨v,hv,hr⟩:=hr j l hl;exact⟨v,hv,RepL_mono cx (λ_ _=>rfl) (λb hb=>aBD hb) _ _ _ hr⟩
  have h:RepP cx c p u:=h;unfold rnV;simp only;by_cases hk0:p.kind=0
  ·have hc:(p.kind == 0)=true:=by simp[hk0]
   rw[if_pos hc];show RepP cx (c.rn ns) _ u;unfold RepP at h ⊢;simp only[hk0]at h ⊢;obtain⟨tk,k1,k2,k3,g,k4,k5⟩:=h;exact⟨rnT ns tk,aM.2 ⟨tk,k1,rfl⟩,(aCq ns tk).trans k2,aFA k3,g,(aDD ns tk).trans k4,k5⟩
  ·have hc:¬ (p.kind == 0)=true:=by simp[hk0]
   rw[if_neg hc];show RepP cx (c.rn ns) p u;unfold RepP at h ⊢;split at h
   ·rename_i hk;exact absurd hk hk0
   ·split at h
    ·rename_i hd;show if p.nm∈c.D then _ else _;rw[if_pos hd];trivial
    ·rename_i hd;show if p.nm∈c.D then _ else if p.nm∈c.F then _ else _
     rw[if_neg hd];split at h
     ·rename_i hf;rw[if_pos hf];obtain⟨b,o,h1,h2⟩:=h;exact⟨b,o,h1,el h2⟩
     ·rename_i hf;rw[if_neg hf];obtain⟨tk,k1,k2,k3,k4⟩:=h;exact⟨tk,aM.2 ⟨tk,k1,aCp k3⟩,k2,k3,k4⟩
   ·obtain⟨b,o,h1,h2⟩:=h;exact⟨b,o,h1,el h2⟩
   ·trivial
theorem aHQ {ty:Nat->Type}(ns:List Nat):rnV ns (aN:V ty)=aN:=rfl
theorem RS.rn {c:Ct cx.ty}{st:St cx.ty}{a:Act}(h:RS cx c st a){ns:List Nat}(hns:∀ n∈ns,n∈c.F/\n∉c.D):RS cx (c.rn ns) { st with slots:=st.slots.map (rnV ns),pend:=none } a:=by
 refine⟨⟨?_,?_,?_,?_,h.wf.start,?_,h.wf.size⟩,by simp[h.size],λt=>?_,h.defers,h.dead,h.frz,λn hn=>?_,h.kp,h.pr.keep rfl rfl (λb _=>rfl),PdOK.none⟩
 ·show((c.T.map (rnT ns)).map (·.nm)).Nodup;rw[iI];have:((λt2:Tk cx.ty=>t2.nm)∘rnT ns)=λt2=>t2.nm:=funext (aCq ns)
  rw[this];exact h.wf.names
 ·show((c.T.map (rnT ns)).flatMap _).Nodup;rw[gR];have:(λt2=>vb (rnT ns t2).u++(rnT ns t2).fp)=λt2:Tk cx.ty=>vb t2.u++t2.fp:=funext λt2=>by rw[aDD,aEJ]
  rw[this];exact h.wf.nodup
 ·intro t2 ht2 b hb;obtain⟨t3,h3,rfl⟩:=aM.1 ht2;rw[aDD,aEJ]at hb;exact h.wf.bound t3 h3 b hb
 ·intro t2 ht2;obtain⟨t3,h3,rfl⟩:=aM.1 ht2;have hold:=h.wf.rep t3 h3;cases hc:t3.c with
  | inl s=>
   rw[aCp hc];unfold TokRep at hold ⊢;rw[hc]at hold ⊢;simp only at hold ⊢;obtain⟨hv,hold⟩:=hold;refine⟨hv,?_⟩;split at hold
   ·rename_i hso;rw[if_pos hso];exact hold
   ·rename_i hso;rw[if_neg hso];obtain⟨hf,us,n,hrow,hl2,hr⟩:=hold;exact⟨hf,us,n,hrow,hl2,λj l v h1 h2=>RepL_mono cx (λ_ _=>rfl) (λb hb=>aBD hb) n l v (hr j l v h1 h2)⟩
  | inr l=>
   unfold TokRep at hold;rw[hc]at hold;obtain⟨hf,g2,cur2,e2,hu2,hh2,hx⟩:=hold;unfold TokRep;rw[aFA hc];simp only;rw[aDD,aEJ];exact⟨hf,g2,cur2,e2,hu2,hh2,hx.mapE λl u h=>aCr hns h⟩
 ·intro t2 ht2;obtain⟨t3,h3,rfl⟩:=aM.1 ht2;rw[aCq];exact h.wf.live t3 h3
 ·have:(st.slots.map (rnV ns)).getD t aN=rnV ns (st.slots.getD t aN):=by
   by_cases hlt:t < st.slots.length
   ·simp[List.getD,hlt]
   ·simp[List.getD,bQ (fC hlt),aHQ]
  show RepV cx _ ((st.slots.map (rnV ns)).getD t aN) _;rw[this];exact aJE hns (h.rep t)
 ·rcases hn with⟨t2,ht2,rfl⟩ | hn | hn
  ·obtain⟨t3,h3,rfl⟩:=aM.1 ht2;rw[aCq];exact h.names _ (.inl ⟨t3,h3,rfl⟩)
  ·exact h.names _ (.inr (.inl hn))
  ·exact h.names _ (.inr (.inr hn))
def bnW {ty:Nat->Type}:V ty->List Nat
 | .inl (.inl l)=>bnL l
 | .inl (.inr l)=>l.flatMap bnL
 | .inr (.inr p)=>if p.kind == 0 then p.cells.flatMap bnL else[]
 | _=>[]
theorem aI1 {c:Ct cx.ty}(hw:Wf cx c){v:V cx.ty}{u:Value}(h:RepV cx c v u){n:Nat}(hn:n∈bnW v)(hd:n∉c.D):n∈c.F\/∃ tk∈c.T,tk.nm=n/\∃ s,tk.c=.inl s:=by
 match v,h,hn with
 | .inl (.inl l),h,hn=>exact vK (l:=l) h hn hd
 | .inl (.inr l),h,hn=>exact aI2 (v:=.inl (.inr l)) h hn hd
 | .inr (.inl _),_,hn=>simp[bnW]at hn
 | .inr (.inr p),h,hn=>
  unfold bnW at hn;simp only at hn;split at hn
  ·rename_i hk;have hk:p.kind=0:=by simpa using hk
   have h:RepP cx c p u:=h;unfold RepP at h;simp only[hk]at h;obtain⟨tk,ht,_,hcc,_⟩:=h;have htr:=hw.rep tk ht;unfold TokRep at htr;rw[hcc]at htr;obtain⟨_,g',cur,t,_,_,hcells⟩:=htr;obtain⟨a,ha,hn⟩:=bB.1 hn;obtain⟨j,hj⟩:=dW ha;have hjl:j < cur.toList.length:=by rw[hcells.1];exact(aI.1 hj).1
   exact vK (hcells.2 j a _ hj (aC hjl)) hn hd
  ·simp at hn
def St.frzN {ty:Nat->Type}(st:St ty)(ns:List Nat):St ty:={ slots:=st.slots.map (rnV ns),D:=st.D,F:=ns++st.F,ctr:=st.ctr+1,lo:=st.lo,ps:=st.ps }
theorem RS.frzN (ok:cx.Ok){c:Ct cx.ty}{st:St cx.ty}{a:Act}(h:RS cx c st a){ns:List Nat}(hns:∀ n∈ns,n∉st.D/\∃ v∈st.slots,n∈bnW v) :
  ∃ c',RS cx c' (st.frzN ns) a/\c'.w=c.w/\c'.S=c.S/\c'.N=c.N/\c'.K=c.K:=by
 have hsrc:∀ n∈ns,n∈c.F\/∃ tk∈c.T,tk.nm=n/\∃ s,tk.c=.inl s:=λn hn=>by
  obtain⟨hd,v,hv,hb⟩:=hns n hn;obtain⟨t,ht⟩:=dW hv;have hr:=h.rep t;rw[show st.slots.getD t aN=v by simp[List.getD,ht]]at hr;exact aI1 h.wf hr hb (λhx=>hd ((h.dead n).1 hx))
 have hsl:∀ tk∈c.T,tk.nm∈ns->∃ s,tk.c=.inl s:=λt2 h2 hn2=>by
  rcases hsrc _ hn2 with h3 | ⟨t3,h3,h4,s,h5⟩
  ·exact absurd h3 (h.wf.live t2 h2).2
  ·have:=iF h.wf h3 h2 h4;subst this;exact⟨s,h5⟩
 have hgz:=vD ok h.wf (nm0:=fN st.ctr none) (fn:=ns) (r:=[]) (v:=(aN:V cx.ty)) (u:=undef) (λn hn'=>by
  rcases hsrc n hn' with h3 | ⟨t3,h3,h4,_⟩
  ·exact .inr (.inr h3)
  ·exact .inl ⟨t3,h3,h4⟩) hsl (λ_ _ _ _=>trivial)
 have h1:=h.app (d:=none) rfl rfl hgz;have h1:RS cx (c.nx { v:=(aN:V cx.ty),dead:=[],frz:=ns,live:=[],read:=[] } c.w (c.T.filter (λtk=>!ns.contains tk.nm))) { slots:=st.slots,D:=st.D,F:=ns++st.F,ctr:=st.ctr+1,lo:=st.lo,ps:=st.ps } a:=h1;exact⟨_,h1.rn (ns:=ns) (λn hn=>⟨aA.2 (.inl hn),λhd=>(hns n hn).1 ((h.dead n).1 (by simpa[Ct.nx]using hd))⟩),rfl,rfl,rfl,rfl⟩
def aSn (P:Program)(slots:List (V cx.ty))(o:Oper):V cx.ty:=
 match o.op with
 | .move x=>dU slots x
 | .assign x=>dU slots x
 | .nilCheck x=>dU slots x
 | .fieldAddr t x i=>match dU slots x,nR P t i with
  | .inr (.inr p),some f=>if p.kind == 0&&p.i == 0 then .inr (.inr { p with off:=p.off+f.offset })else aN
  | _,_=>aN
 | .load t x=>match dU slots x with
  | .inr (.inr p)=>if p.kind == 0&&p.i == 0 then(match aCk P t p.cells p.off with | some a=>.inl a | none=>aN)else aN
  | _=>aN
 | .field t x i=>match dU slots x,nR P t i with
  | .inl (.inr l),some f=>(match aCk P f.type l f.offset with | some a=>.inl a | none=>aN)
  | _,_=>aN
 | _=>aN
def aJz {ty:Nat->Type}(v:V ty):List Nat:=match v with
 | .inl (.inl l)=>bnL l
 | _=>[]
def aL4 (P:Program):List Oper->List (V cx.ty)->List Nat
 | [],_=>[]
 | o::r,slots=>(match o.op with | .slice _ x _ _ _=>aJz (dU slots x) | _=>[])++aL4 P r (jD slots o.dst (aSn P slots o))
end
section
variable {cx : Cx} {P : Program}
def aR5 (ops:Array Oper):List Bool:=(List.range ops.size).map λr=>(List.range r).all λi=>(aIT ops 3 (jV ops r)).contains i
def jX (ops:Array Oper):Nat:=ops.size-((aR5 ops).reverse.takeWhile (λb=>b)).length
def mQ {β:Type}(P:Program)(Kc:Kt cx)(Kw:Kwt cx)(kt:Value->St cx.ty->Option β)(ops:Array Oper)(draw:Bool)(k:St cx.ty->Option β)(st:St cx.ty):Option β:=
 if draw then
  if decide (jX ops<=ops.size)&&tZ ops (jX ops)&&aDW ops (jX ops)then
   oV P Kc ops st.ctr st.slots.length st.lo st.F (λslots D'=>fW P Kc Kw kt ops k (ops.toList.drop (jX ops)) { slots:=slots,D:=D',F:=st.F,ctr:=st.ctr+1,lo:=st.lo,ps:=st.ps }) (ops.toList.take (jX ops)) st.slots st.D []
  else none
 else fW P Kc Kw kt ops k ops.toList st
def Ct.inw {ty:Nat->Type}(c:Ct ty)(w':World):Ct ty:={ c with w:=w' }
theorem aDK {c:Ct cx.ty}(h:Wf cx c){w':World}(hh:w'.heap=c.w.heap):Pres cx c (c.inw w'):=by
 refine⟨λb hb=>⟨⟨by show b < w'.heap.size;rw[hh];exact hb.1,hb.2.1,hb.2.2⟩,by show w'.heap[b]?=_;rw[hh]⟩,λ_ h=>h,λ_ h=>h,λ_ h _ _=>h,λ_ h _ _=>h,λtk ht _ _ _ hf=>absurd hf (h.live tk ht).2⟩
theorem aMl {c:Ct cx.ty}(h:Wf cx c){w':World}(hh:w'.heap=c.w.heap):Wf cx (c.inw w'):=
 ⟨h.names,h.nodup,λtk ht b hb=>⟨(h.bound tk ht b hb).1,by show b < w'.heap.size;rw[hh];exact(h.bound tk ht b hb).2⟩,
  λtk ht=>TokRep.pres cx (aDK h hh) (λb _=>by show w'.heap[b]?=_;rw[hh]) (h.rep tk ht),h.start,h.live,λb hb=>h.size b (by rw[<-hh];exact hb)⟩
theorem RS.inw {c:Ct cx.ty}{st:St cx.ty}{a:Act}(h:RS cx c st a){w':World}(hh:w'.heap=c.w.heap):RS cx (c.inw w') st a:=
 ⟨aMl h.wf hh,h.size,λt=>RepV.pres cx (aDK h.wf hh) (h.rep t),h.defers,h.dead,h.frz,h.names,h.kp,h.pr.keep rfl rfl (λb _=>by show w'.heap[b]?=_;rw[hh]),λd p hq=>by
  obtain⟨h1,h2,tk,h3,h4,h5,h6,g,n,cap,h7,h8⟩:=h.pd d p hq;refine⟨h1,h2,tk,h3,h4,h5,h6,g,n,cap,h7,?_⟩;show w'.cell? _=_;rw[World.cell?_of_block (show w'.heap[g]?=c.w.heap[g]? by rw[hh])];exact h8⟩
theorem tA (ok:cx.Ok)(hZ:cx.POk P){Kc:Kt cx}(hK:KOk P cx Kc){Kw:Kwt cx}(hKw:KwOk P cx Kw){β:Type}{W:World}{S N:Nat->Prop}{KK:List (Nat×Value)}{ops:Array Oper}{Q:Exit->Act->World->Prop}{k:St cx.ty->Option β}{kt:Value->St cx.ty->Option β}{r:β}
  (hQt:∀ v c st a,RS cx c st a->c.S=S->(c.N=N/\c.K=KK)->Kept N W c.w->kt v st=some r->Q (.panic [{ v:=v,recovered:=false }]) a c.w)
  (hQ:∀ c st a,RS cx c st a->c.S=S->(c.N=N/\c.K=KK)->Kept N W c.w->k st=some r->Q .normal a c.w)
  {st:St cx.ty} {c:Ct cx.ty} {a:Act} (h:RS cx c st a) (hS:c.S=S) (hb:(c.N=N/\c.K=KK)) (hbl:Kept N W c.w) (he:mQ P Kc Kw kt ops true k st=some r):wpAny P .any ops Q ops.size (Array.replicate ops.size false) a { c.w with drawn:=c.w.drawn+1 }:=by
 unfold mQ at he;simp only[if_true]at he;split at he
 ·rename_i hc;simp only[aJ,decide_eq_true_eq]at hc;obtain⟨⟨hp,hearly⟩,hlate⟩:=hc;obtain⟨E,dd,D',hE,hk,hD',_,hfact⟩:=xH ok hZ hK _ _ _ _ he;have hE:E.length=jX ops:=by rw[hE];simp;omega
  have hbl':Kept N W ({ c.w with drawn:=c.w.drawn+1 }:World):=Kept.drew hbl;have h':RS cx (c.inw { c.w with drawn:=c.w.drawn+1 }) st a:=h.inw rfl;have hdead0:∀ n,n∈(c.inw { c.w with drawn:=c.w.drawn+1 }).D↔n∈st.D\/∃ i,i < jX ops/\(Array.replicate ops.size false).getD i false=true/\n∈dd.getD i []:=λn=>by
   rw[h'.dead n];refine⟨Or.inl,λhn=>hn.elim (λh=>h) ?_⟩;rintro⟨i,_,hX,_⟩;exfalso;have h0:∀ i,(Array.replicate ops.size false).getD i false=false:=λi=>by simp[aZ,gN];split<;>rfl
   rw[h0 i]at hX;cases hX
  have hstart:=aFJ (dd:=dd) (Q:=Q) (W:=W) (S:=S) hp hearly hlate (slots:=st.slots) (ctr:=st.ctr) (lo:=st.lo) (KK:=KK) (N:=N) (D:=st.D) (F:=st.F) hE hfact (λlisted c' a' hls hl hsf h1 h2 h3=>?_)
  ·have:=hstart (jX ops) (Array.replicate ops.size false) (c.inw { c.w with drawn:=c.w.drawn+1 }) a (by simp) (λi hi=>by simp[aZ,gN]at hi;split at hi<;>simp at hi)
    (λi _=>by simp[aZ,gN];split<;>rfl)
    (by
     have:∀ p,(List.range p).countP (λi=>!(Array.replicate ops.size false).getD i false)=p:=by
      intro p;have h0:∀ i,(Array.replicate ops.size false).getD i false=false:=λi=>by simp[aZ,gN];split<;>rfl
      simp[h0]
     exact this _)
    ⟨h'.wf,h'.size,λt=>by
     have h0:∀ i,(Array.replicate ops.size false).getD i false=false:=λi=>by simp[aZ,gN];split<;>rfl
     rw[aDt (λi _ hX=>by rw[h0 i]at hX;cases hX)];exact h'.rep t,h'.defers,hdead0,h'.frz,λn hn=>.inl (h'.names n hn),h'.kp⟩ hS hb hbl'
   rw[show jX ops+(ops.size-jX ops)=ops.size by omega]at this;exact this
  ·have hlen:(ops.toList.drop (jX ops)).length=ops.size-jX ops:=by simp
   rw[<-hlen];refine aFv ok hZ hK hKw hearly hlate hQt hQ (ops.toList.drop (jX ops)) (jX ops) (aK _) (by simp;omega) (λj=>by simp) listed _ c' a' hls hl ?_ h1 h2 h3 hk;have hops:∀ j,j < jX ops->∃ o,ops[j]?=some o/\(ops.toList.take (jX ops))[j]?=some o:=by
    intro j hj;have hjs:j < ops.size:=by omega
    exact⟨ops[j],gI hjs,by rw[bK,if_pos hj];simp[hjs]⟩
   have hl0:(ops.toList.take (jX ops)).length=jX ops:=by simp;omega
   refine⟨hsf.wf,by rw[hsf.size,pJ],λt=>?_,hsf.defers,λn=>?_,hsf.frz,λn hn=>?_,hsf.kp,h.pr.keep (h1.trans hS.symm) (h2.2.trans hb.2.symm) (λb hb'=>by
    have hn:¬ N b:=by rw[<-hb.1];exact h.wf.start b hb'
    rw[h3.block b hn,hbl.block b hn]),PdOK.none⟩
   ·have hfv:=aAI (l:=ops.toList.take (jX ops)) (E:=E) (s:=st.slots) (by omega) (λx o d e1 e2=>by
     have hx:x < jX ops:=by have:=(aI.1 e1).1;omega
     obtain⟨vx,hvx⟩:∃ v,E[x]?=some v:=⟨_,aC (by omega)⟩
     exact(hfact x o vx e1 hvx).2.2.1 d e2) (λt i j hi hj e1 e2=>by
      have key:∀ i j,i < j->j < jX ops->((ops.toList.take (jX ops))[i]?).bind (·.dst)=some t->((ops.toList.take (jX ops))[j]?).bind (·.dst)=some t->False:=by
       intro i j hij hj h1 h2;obtain⟨oi,a1,a2⟩:=hops i (by omega);obtain⟨oj,b1,b2⟩:=hops j hj;rw[a2]at h1;rw[b2]at h2;have h1:oi.dst=some t:=h1;have h2:oj.dst=some t:=h2;exact(lS hearly hj hij a1 b1).2 (by rw[h1,h2])
      rcases gC i j with hlt | heq | hgt
      ·exact(key i j hlt (by omega) e1 e2).elim
      ·exact heq
      ·exact(key j i hgt (by omega) e2 e1).elim) (jX ops) (by omega) t
    have e1:(ops.toList.take (jX ops)).take (jX ops)=ops.toList.take (jX ops):=cT (by omega);have e2:E.take (jX ops)=E:=cT (by omega);rw[e1,e2,hl0]at hfv;show RepV cx c' ((kN (ops.toList.take (jX ops)) E st.slots).getD t aN) _;rw[hfv];have:=hsf.rep t
    rwa [rV (Y:=λi=>decide (i < jX ops)) (λi hi _=>by simp only[hl i (by omega)])]at this
   ·show n∈c'.D↔n∈D';rw[hsf.dead n,hD' n,hl0];constructor
    ·rintro(hn | ⟨i,hi,_,hn⟩)
     ·exact .inl hn
     ·exact .inr ⟨i,hi,hn⟩
    ·rintro(hn | ⟨i,hi,hn⟩)
     ·exact .inl hn
     ·exact .inr ⟨i,hi,by rw[hl i (by omega)];simpa using hi,hn⟩
   ·rcases hsf.names n hn with hn | ⟨i,hi,_,hb1⟩
    ·exact cN hn (aQ _ (nA _))
    ·obtain⟨o,ho1,ho2⟩:=hops i hi;obtain⟨vi,hvi⟩:∃ v,E[i]?=some v:=⟨_,aC (by omega)⟩
     have hsm:=(hfact i o vi ho2 hvi).1;rw[ho2]at hb1;exact zB hsm hb1
 ·simp at he
theorem aCN (ok:cx.Ok)(hZ:cx.POk P){Kc:Kt cx}(hK:KOk P cx Kc){Kw:Kwt cx}(hKw:KwOk P cx Kw)(hm:P.follows .mixedOrders=true){β:Type}{W:World}{S N:Nat->Prop}{KK:List (Nat×Value)}{id:Nat}{ops:Array Oper}{draw:Bool}{Q:Exit->Act->World->Prop}{k:St cx.ty->Option β}{kt:Value->St cx.ty->Option β}{r:β}
  (hQt:∀ v c st a,RS cx c st a->c.S=S->(c.N=N/\c.K=KK)->Kept N W c.w->kt v st=some r->Q (.panic [{ v:=v,recovered:=false }]) a c.w)
  (hQ:∀ c st a,RS cx c st a->c.S=S->(c.N=N/\c.K=KK)->Kept N W c.w->k st=some r->Q .normal a c.w)
  {st:St cx.ty} {c:Ct cx.ty} {a:Act} (h:RS cx c st a) (hS:c.S=S) (hb:(c.N=N/\c.K=KK)) (hbl:Kept N W c.w) (he:mQ P Kc Kw kt ops draw k st=some r):(Code.region id ops draw).wp P Q a c.w:=by
 cases draw with
 | false=>
  unfold mQ at he;simp only[dF,if_false]at he;have:=aAL ok hZ hK hKw hQt hQ ops.toList 0 (λj=>by simp) st c a h hS hb hbl he;refine wp_region ?_;rw[List.range_eq_range'];simpa using this
 | true=>exact wp_region_any hm (tA ok hZ hK hKw hQt hQ h hS hb hbl he)
def aKf {ty:Nat->Type}(p:Pt ty):Bool:=(p.kind == 0&&p.i == 0) || (p.kind == 2&&p.nm == 0)
def aVC (o:Oper):Bool:=o.guard.isNone&&(match o.op with
 | .move _=>true
 | .nilCheck _=>true
 | .fieldAddr _ _ _=>true
 | .binOp .add _ _ _ _=>true
 | .binOp .sub _ _ _ _=>true
 | _=>false)
def aD5 (ops:Array Oper):List Nat:=
 (List.range ops.size).foldl (λl i=>match ops[i]? with
  | some o=>if aVC o&&(jV ops i).all (λj=>l.contains j)then l++[i]else l
  | none=>l) []
def aCJ (fl:List Nat)(r:Nat):Array Edge:=((fl.filter (λi=>decide (i < r))).map λi=>({ on:=i,ground:=.data }:Edge)).toArray
def kV (ops:Array Oper)(fl:List Nat):Array Oper:=ops.mapIdx λr o=>if fl.contains r then o else{ o with after:=o.after++aCJ fl r }
def aIA (P:Program){ty:Nat->Type}(slots:List (V ty))(o:Oper):Option (V ty):=
 match o.op with
 | .move x=>some (dU slots x)
 | .nilCheck x=>(match dU slots x with
  | .inr (.inr p)=>if aKf p then some (.inr (.inr p))else none
  | _=>none)
 | .fieldAddr t x i=>(match dU slots x,nR P t i with
  | .inr (.inr p),some f=>if aKf p&&(P.underlying f.type).isSome&&P.cellsOf f.type != 0 then some aN else none
  | _,_=>none)
 | .binOp _ _ _ _ _=>if aA8 slots o.op.operands.toList then
   (match uN P (execOp (λx=>(sQ (dU slots x)).getD undef) o)with
   | some v=>some (aFR v)
   | none=>none)
  else none
 | _=>none
theorem aD4 {c:Ct cx.ty}{p:Pt cx.ty}(hp:aKf p=true){u:Value}(hr:RepP cx c p u):∃ b o,u=.pointer (some ⟨b,o,none⟩):=by
 unfold aKf at hp;simp only[gL,aJ,beq_iff_eq]at hp;unfold RepP at hr;rcases hp with⟨h1,h2⟩ | ⟨h1,h2⟩
 ·simp only[h1,h2]at hr;obtain⟨tk,_,_,_,g,_,hu⟩:=hr;exact⟨g,p.off,hu⟩
 ·simp only[h1]at hr;obtain⟨b,o2,hu,_⟩:=hr;rw[h2]at hu;exact⟨b,_,hu⟩
theorem aIz {c:Ct cx.ty}{slots:List (V cx.ty)}{a:Act}(hrep:∀ t,RepV cx c (slots.getD t aN) (a.tmps.getD t undef)){o:Oper}{v':V cx.ty}(h:aIA P slots o=some v') :
  ∃ v,(∀ w,(execOp a.eval o).run P w=.ok (.value v) w)/\RepV cx c v' v:=by
 unfold aIA at h;split at h
 ·rename_i x ho;simp only[aB]at h;subst h;exact⟨a.eval x,λw=>by unfold execOp;simp[ho],eP hrep x⟩
 ·rename_i x ho;split at h
  ·rename_i p hx;split at h
   ·rename_i hp;simp only[aB]at h;subst h;have hr:=eP hrep x;rw[hx]at hr;obtain⟨b,o2,hu⟩:=aD4 hp (show RepP cx c p (a.eval x) from hr);exact⟨a.eval x,λw=>by unfold execOp;simp[ho,hu],hr⟩
   ·simp at h
  ·simp at h
 ·rename_i t x i ho;split at h
  ·rename_i p f hx hf;split at h
   ·rename_i hp;simp only[aJ,bne_iff_ne,ne_eq]at hp;obtain⟨⟨hp,hs⟩,hz⟩:=hp;simp only[aB]at h;subst h;have hr:=eP hrep x;rw[hx]at hr;obtain⟨b,o2,hu⟩:=aD4 hp (show RepP cx c p (a.eval x) from hr);obtain⟨d,hd⟩:=cH.1 hs;refine⟨.pointer (some ⟨b,o2+f.offset,none⟩),λw=>?_,by show RepV cx c aN _;exact trivial⟩;unfold nR at hf;split at hf
    ·rename_i fs hfs;unfold execOp;simp[ho,Instr.fieldAt,Instr.sureAddr,run_underlying hfs,hf,hu,fieldPlace,eD hd,hz,Addr.add_lit]
    ·simp at hf
   ·simp at h
  ·simp at h
 ·rename_i ho;split at h
  ·rename_i hc;split at h
   ·rename_i v hv;simp only[aB]at h;subst h;refine⟨v,λw=>?_,aBR v⟩;rw[execOp_congr (ρ:=a.eval) (ρ':=λx=>(sQ (dU slots x)).getD undef) o ?_ ?_]
    ·exact aBK w _ _ hv
    ·intro cs b e;rw[e]at ho;simp at ho
    ·intro x hx;obtain⟨y,hy⟩:=rN _ hc x (by simpa using hx);show a.eval x=(sQ (dU slots x)).getD undef;rw[hy];exact aBA (eP hrep x) hy
   ·simp at h
  ·simp at h
 ·simp at h
def aKg (P:Program){ty:Nat->Type}(ops ops':Array Oper):List Nat->Array Bool->List (V ty)->Bool
 | [],_,_=>true
 | i::l,listed,s=>match ops[i]?,ops'[i]? with
  | some o,some _=>o.guard.isNone&&Region.free .any ops listed i&&(Region.ready .any ops listed).contains i&&(Region.ready .any ops' listed).contains i&&(match aIA P s o with
   | some v=>aKg P ops ops' l (listed.setIfInBounds i true) (jD s o.dst v)
   | none=>false)
  | _,_=>false
theorem tH {ops:Array Oper}{fl:List Nat}{i:Nat}:(kV ops fl)[i]?=(ops[i]?).map λo=>if fl.contains i then o else{ o with after:=o.after++aCJ fl i }:=by
 unfold kV;simp[Array.getElem?_mapIdx]
theorem aBy {ops:Array Oper}{fl:List Nat}{Q:Exit->Act->World->Prop}{i:Nat}{K:Act->World->Prop}{a:Act}{w:World}(h:wpOp P (kV ops fl) Q i K a w):wpOp P ops Q i K a w:=by
 have hy:∀ tmps j,yielded (kV ops fl) tmps j=yielded ops tmps j:=λtmps j=>by
  unfold yielded;rw[tH];cases ops[j]? with
  | none=>rfl
  | some o=>simp only[aD,iB];cases fl.contains j<;>rfl
 have hy':∀ tmps,yielded (kV ops fl) tmps=yielded ops tmps:=λtmps=>funext (hy tmps)
 unfold wpOp at *;rw[tH]at h;cases hi:ops[i]? with
 | none=>rw[hi]at h;exact h
 | some o=>
  rw[hi]at h;simp only[aD,hy']at h;split at h
  ·exact h
  ·exact h
theorem pC {ops:Array Oper}{fl:List Nat}{listed:Array Bool}(hl:∀ i∈fl,listed.getD i false=true){j:Nat}:j∈Region.ready .any (kV ops fl) listed↔j∈Region.ready .any ops listed:=by
 rw[mem_ready,mem_ready,tH];refine and_congr_right λ_=>?_
 cases ops[j]? with
 | none=>simp
 | some o=>
  simp only[aD,aB,exists_eq_left'];split
  ·rfl
  ·constructor
   ·intro h e he hb;exact h e (Array.mem_append.2 (.inl he)) hb
   ·intro h e he hb;rcases Array.mem_append.1 he with he | he
    ·exact h e he hb
    ·unfold aCJ at he;simp only[kF,aM,eH]at he;obtain⟨i,⟨hi,_⟩,rfl⟩:=he;exact hl i hi
theorem aA7 {ops:Array Oper}{fl:List Nat}{Q:Exit->Act->World->Prop}:∀ (fuel:Nat) (listed:Array Bool) (a:Act) (w:World),(∀ i∈fl,listed.getD i false=true)->wpAny P .any (kV ops fl) Q fuel listed a w->wpAny P .any ops Q fuel listed a w
 | 0,listed,a,w,hl,h=>by
   refine⟨iV.2 λj hj=>?_,h.2⟩;have:=(pC hl).2 hj;rw[h.1]at this;cases this
 | fuel+1,listed,a,w,hl,h=>by
   refine⟨λhr=>h.1 (iV.2 λj hj=>?_),λi hi=>?_⟩
   ·have:=(pC hl).1 hj;rw[hr]at this;cases this
   refine wpOp_mono (λa' w' h'=>aA7 fuel _ a' w' (λx hx=>?_) h') (aBy (h.2 i ((pC hl).2 hi)));exact getD_set_true (hl x hx)
theorem aIy {ops:Array Oper}{fl:List Nat}{Q:Exit->Act->World->Prop}(hQn:∀ e a w,Q e a w->e=.normal)(hsel:Region.noSelect ops=true){c:Ct cx.ty} :
  ∀ (l:List Nat) (listed:Array Bool) (a:Act) (w:World) (slots:List (V cx.ty)) (fuel:Nat),aKg P ops (kV ops fl) l listed slots=true->(∀ t,RepV cx c (slots.getD t aN) (a.tmps.getD t undef))->a.tmps.size=slots.length->
   (∀ i∈fl,i∈l\/listed.getD i false=true)->wpAny P .any (kV ops fl) Q fuel listed a w->wpAny P .any ops Q fuel listed a w
 | [],listed,a,w,slots,fuel,_,_,_,hl,h=>aA7 fuel listed a w (λi hi=>(hl i hi).resolve_left (by simp)) h
 | i::l,listed,a,w,slots,fuel,hgo,hrep,hsz,hl,h=>by
  simp only[aKg]at hgo;split at hgo
  ·rename_i o o' ho ho';simp only[aJ,Option.isNone_iff_eq_none]at hgo;obtain⟨⟨⟨⟨hg,hfree⟩,hr1⟩,hr2⟩,hgo⟩:=hgo;split at hgo
   ·rename_i v' hv;obtain⟨v,hrun,hrv⟩:=aIz hrep hv;have hy:Yields P ops o v a:=.inl ⟨by simp[Region.wanted,hg],hrun⟩
    match fuel,h with
    | 0,h=>rw[h.1]at hr2;simp at hr2
    | n+1,h=>
     have h1:=aBy (h.2 i (by simpa using hr2));have h2:wpAny P .any (kV ops fl) Q n (listed.setIfInBounds i true) (a.put o.dst v) w:=by
      unfold wpOp at h1;rw[ho]at h1;have hwant:Region.wanted o (yielded ops a.tmps)=true:=by simp[Region.wanted,hg]
      simp only[hwant,if_true]at h1;rcases h1 with h1 | ⟨_,a2,w2,h1⟩
      ·unfold Oper.wp at h1;rw[hrun w]at h1;exact h1
      ·exact Exit.noConfusion (hQn _ _ _ h1)
     refine wpAny_take ho hsel hfree hr1 (λc a w h=>Exit.noConfusion (hQn _ _ _ h)) hy ?_;refine aIy hQn hsel l _ _ w (jD slots o.dst v') n hgo (λt=>nI hsz hrep o.dst hrv t) (lW hsz o.dst _ _) (λx hx=>?_) h2;rcases hl x hx with h | h
     ·rcases bS.1 h with rfl | h
      ·right
       have:x < listed.size\/listed.size<=x:=eR _ _;rcases this with hlt | hge
       ·simp[hlt]
       ·have:=(mem_ready.1 (show x∈Region.ready .any ops listed by simpa using hr1)).1;simp[aZ,Array.getElem?_eq_none hge]at this
      ·exact .inl h
     ·exact .inr (getD_set_true h)
   ·simp at hgo
  ·simp at hgo
def aIn {cx:Cx}(Kc:Kt cx)(o:Oper):Bool:=o.guard.isNone&&(match o.op with
 | .store _ _ _=>true
 | .call c=>(match c.callee with
  | .value (.func f)=>(Kc f).isNone
  | _=>false)
 | _=>false)
def aMH (Kc:Kt cx)(ops:Array Oper):Bool:=(ops.toList.take (jX ops)).any (aIn Kc)
def oU {β:Type}(P:Program)(Kc:Kt cx)(Kw:Kwt cx)(kt:Value->St cx.ty->Option β)(ops:Array Oper)(draw:Bool)(k:St cx.ty->Option β)(st:St cx.ty):Option β:=
 if draw&&aMH Kc ops then
  (if Region.noSelect ops&&aKg P ops (kV ops (aD5 ops)) (aD5 ops) (Array.replicate ops.size false) st.slots then mQ P Kc Kw (λ_ _=>none) (kV ops (aD5 ops)) true k st else none)
 else mQ P Kc Kw kt ops draw k st
theorem pK (ok:cx.Ok)(hZ:cx.POk P){Kc:Kt cx}(hK:KOk P cx Kc){Kw:Kwt cx}(hKw:KwOk P cx Kw)(hm:P.follows .mixedOrders=true){β:Type}{W:World}{S N:Nat->Prop}{KK:List (Nat×Value)}{id:Nat}{ops:Array Oper}{draw:Bool}{Q:Exit->Act->World->Prop}{k:St cx.ty->Option β}{kt:Value->St cx.ty->Option β}{r:β}
  (hQt:∀ v c st a,RS cx c st a->c.S=S->(c.N=N/\c.K=KK)->Kept N W c.w->kt v st=some r->Q (.panic [{ v:=v,recovered:=false }]) a c.w)
  (hQ:∀ c st a,RS cx c st a->c.S=S->(c.N=N/\c.K=KK)->Kept N W c.w->k st=some r->Q .normal a c.w)
  {st:St cx.ty} {c:Ct cx.ty} {a:Act} (h:RS cx c st a) (hS:c.S=S) (hb:(c.N=N/\c.K=KK)) (hbl:Kept N W c.w) (he:oU P Kc Kw kt ops draw k st=some r):(Code.region id ops draw).wp P Q a c.w:=by
 unfold oU at he;split at he
 ·rename_i hd;simp only[aJ]at hd;obtain⟨rfl,_⟩:=hd;split at he
  ·rename_i hg;simp only[aJ]at hg;have hsz:(kV ops (aD5 ops)).size=ops.size:=by simp[kV]
   have h1:=tA (Q:=λe a w=>e=.normal/\Q .normal a w) ok hZ hK hKw (λv c st a _ _ _ _ h=>by cases h) (λc st a h1 h2 h3 h4 h5=>⟨rfl,hQ c st a h1 h2 h3 h4 h5⟩) h hS hb hbl he;rw[hsz]at h1;have h2:=aIy (Q:=λe a w=>e=.normal/\Q .normal a w) (λe a w h=>h.1) hg.1 (aD5 ops) _ a _ st.slots ops.size hg.2 h.rep h.size (λi hi=>.inl hi) h1;exact Code.wp_mono (λe a w h=>by obtain⟨rfl,h⟩:=h;exact h) (wp_region_any hm h2)
  ·simp at he
 ·exact aCN ok hZ hK hKw hm hQt hQ h hS hb hbl he
def aVB (o:Oper):Bool:=match o.op with | .slice _ _ _ _ _=>true | _=>false
def aKk (P:Program)(ops:Array Oper)(slots:List (V cx.ty)):List Nat:=
 if(ops.toList.take (jX ops)).any aVB then(aL4 P (ops.toList.take (jX ops)) slots).eraseDups else[]
def vI {β:Type}(P:Program)(Kc:Kt cx)(Kw:Kwt cx)(kt:Value->St cx.ty->Option β)(ops:Array Oper)(draw:Bool)(k:St cx.ty->Option β)(st:St cx.ty):Option β:=
 if draw then
  match aKk P ops st.slots with
  | []=>oU P Kc Kw kt ops true k st
  | n::ns=>if(n::ns).all (λm=>!st.D.contains m&&st.slots.any (λv=>(bnW v).contains m))then oU P Kc Kw kt ops true k (st.frzN (n::ns))else none
 else oU P Kc Kw kt ops false k st
theorem xG (ok:cx.Ok)(hZ:cx.POk P){Kc:Kt cx}(hK:KOk P cx Kc){Kw:Kwt cx}(hKw:KwOk P cx Kw)(hm:P.follows .mixedOrders=true){β:Type}{W:World}{S N:Nat->Prop}{KK:List (Nat×Value)}{id:Nat}{ops:Array Oper}{draw:Bool}{Q:Exit->Act->World->Prop}{k:St cx.ty->Option β}{kt:Value->St cx.ty->Option β}{r:β}
  (hQt:∀ v c st a,RS cx c st a->c.S=S->(c.N=N/\c.K=KK)->Kept N W c.w->kt v st=some r->Q (.panic [{ v:=v,recovered:=false }]) a c.w)
  (hQ:∀ c st a,RS cx c st a->c.S=S->(c.N=N/\c.K=KK)->Kept N W c.w->k st=some r->Q .normal a c.w)
  {st:St cx.ty} {c:Ct cx.ty} {a:Act} (h:RS cx c st a) (hS:c.S=S) (hb:(c.N=N/\c.K=KK)) (hbl:Kept N W c.w) (he:vI P Kc Kw kt ops draw k st=some r):(Code.region id ops draw).wp P Q a c.w:=by
 unfold vI at he;cases draw with
 | false=>
  simp only[dF,if_false]at he;exact pK ok hZ hK hKw hm hQt hQ h hS hb hbl he
 | true=>
  simp only[if_true]at he;split at he
  ·exact pK ok hZ hK hKw hm hQt hQ h hS hb hbl he
  ·rename_i n ns _;split at he
   ·rename_i hc;obtain⟨c',h1,hw,hS',hN',hK'⟩:=h.frzN ok (ns:=n::ns) (λm hm=>by
     have:=cG.1 hc m hm;simp only[aJ,dC,eV,decide_eq_false_iff_not,eN,decide_eq_true_eq]at this;exact⟨this.1,this.2⟩)
    have:=pK (id:=id) ok hZ hK hKw hm hQt hQ h1 (hS'.trans hS) ⟨hN'.trans hb.1,hK'.trans hb.2⟩ (by rw[hw];exact hbl) he;rw[hw]at this;exact this
   ·simp at he
end
section
variable {cx : Cx} {P : Program}
def cnL {ty:Nat->Type}(D F:List Nat)(nm:Nat)(mk:Option Nat)(seen:List Nat)(l:L ty):L ty×List Nat:=
  match l with
  | some (.inl v)=>match v,mk with
    | .slice none 0 0,some e=>(ls { own:=1,nm:=nm,e:=e,o:=true,xs:=[] },seen)
    | v,_=>(lv v,seen)
  | some (.inr s)=>if s.own == 1 then
      (if D.contains s.nm || seen.contains s.nm then(none,seen)
       else if F.contains s.nm then(ls (ro s.e s.xs),seen)
       else(ls { own:=1,nm:=nm,e:=s.e,o:=s.o,xs:=s.xs },s.nm::seen))
    else(ls (ro s.e s.xs),seen)
  | none=>(none,seen)
def aC6 {ty:Nat->Type}(D F:List Nat):Nat->List (Option Nat)->List Nat->List (L ty)->List (L ty)×List Nat
 | _,_,seen,[]=>([],seen)
 | nm,mks,seen,l::r=>
  match cnL D F nm (mks.headD none) seen l with
  | (l',seen1)=>match aC6 D F (nm+1) mks.tail seen1 r with
   | (r',seen2)=>(l'::r',seen2)
def cnV {ty:Nat->Type}(D F:List Nat)(nm:Nat)(mks:List (Option Nat))(seen:List Nat)(v:V ty):V ty×List Nat:=
 match v with
 | .inl (.inl l)=>match cnL D F nm (mks.headD none) seen l with
  | (l',seen1)=>(.inl (.inl l'),seen1)
 | .inl (.inr l)=>if l.length<=60 then
   match aC6 D F nm mks seen l with
   | (l',seen1)=>(.inl (.inr l'),seen1)
  else(aN,seen)
 | .inr (.inr p)=>if p.kind == 0&&!seen.contains p.nm&&decide (p.cells.length<=60)then
   match aC6 D F (nm+1) mks (p.nm::seen) p.cells with
   | (cells,seen1)=>(.inr (.inr { kind:=0,nm:=nm,cells:=cells,s:=ro 0 [],i:=p.i,off:=p.off }),seen1)
  else if p.kind == 2 then(.inr (.inr p),seen)else(aN,seen)
 | _=>(aN,seen)
def aCm (spec:List (Nat×List (Option Nat)))(i:Nat):Option (List (Option Nat)):=
 match spec with
 | []=>none
 | (j,m)::r=>if j == i then some m else aCm r i
def cnS {ty:Nat->Type}(D F:List Nat)(spec:List (Nat×List (Option Nat))):Nat->List Nat->List (V ty)->List (V ty)
 | _,_,[]=>[]
 | i,seen,v::r=>match aCm spec i with
  | some mks=>match cnV D F (i * 64) mks seen v with
   | (v',seen1)=>v'::cnS D F spec (i+1) seen1 r
  | none=>aN::cnS D F spec (i+1) seen r
def uB {ty:Nat->Type}(nm:Nat):List (V ty)->List (V ty)->Option (Pt ty)
 | v::o,c::r=>match v,c with
  | .inr (.inr p),.inr (.inr q)=>if p.kind == 0&&p.nm == nm&&p.i == 0&&q.kind == 0&&q.i == 0 then some q else uB nm o r
  | _,_=>uB nm o r
 | _,_=>none
def alV {ty:Nat->Type}(O C:List (V ty))(on:Bool)(v c:V ty):V ty:=
 match v,c with
 | .inr (.inr p),.inl (.inl none)=>if on&&p.kind == 0&&p.i == 0 then(match uB p.nm O C with
  | some q=>.inr (.inr { q with off:=p.off })
  | none=>aN)else aN
 | _,c=>c
def alS {ty:Nat->Type}(spec:List (Nat×List (Option Nat)))(O C:List (V ty)):Nat->List (V ty)->List (V ty)->List (V ty)
 | i,v::o,c::r=>alV O C (aCm spec i).isSome v c::alS spec O C (i+1) o r
 | _,_,r=>r
def canon {ty:Nat->Type}(spec:List (Nat×List (Option Nat)))(st:St ty):St ty:=
 if st.slots.length<=1000 then{ slots:=alS spec st.slots (cnS st.D st.F spec 0 [] st.slots) 0 st.slots (cnS st.D st.F spec 0 [] st.slots),D:=[],F:=[],ctr:=1,lo:=st.lo }else st
structure CSpec (cx:Cx) (c:Ct cx.ty) (lo hi:Nat) (seen seen':List Nat) (N:List (Tk cx.ty)) (rep:Ct cx.ty->Prop):Prop where
 nm:∀ tk∈N,lo<=tk.nm/\tk.nm < hi
 nd:(N.map (·.nm)).Nodup
 src:∀ b∈N.flatMap cS,∃ tk∈c.T,tk.nm∈seen'/\tk.nm∉seen/\b∈cS tk
 fp:(N.flatMap cS).Nodup
 head:∀ tk∈N,∀ b∈vb tk.u,∃ t∈c.T,b∈vb t.u
 grow:∀ n∈seen,n∈seen'
 ok:∀ c':Ct cx.ty,c'.w=c.w->c'.D=[]->c'.F=[]->(∀ tk∈N,tk∈c'.T)->(∀ b,Rd c b->Rd c' b)->(∀ tk∈N,TokRep cx c' tk)/\rep c'
theorem CSpec.app {c:Ct cx.ty}(h:Wf cx c){lo wS hi:Nat}{s0 s1 s2:List Nat}{N1 N2:List (Tk cx.ty)}{r1 r2:Ct cx.ty->Prop}(h1:CSpec cx c lo wS s0 s1 N1 r1)(h2:CSpec cx c wS hi s1 s2 N2 r2)(hl:lo<=wS)(hh:wS<=hi) :
  CSpec cx c lo hi s0 s2 (N1++N2) (λc'=>r1 c'/\r2 c'):=by
 refine⟨λtk ht=>?_,?_,λb hb=>?_,?_,λtk ht=>?_,λn hn=>h2.grow n (h1.grow n hn),λc' a1 a2 a3 a4 a5=>?_⟩
 ·rcases aA.1 ht with ht | ht
  ·have:=h1.nm tk ht;omega
  ·have:=h2.nm tk ht;omega
 ·rw[dN,aH];refine⟨h1.nd,h2.nd,λa ha b hb he=>?_⟩;obtain⟨t1,ht1,rfl⟩:=aM.1 ha;obtain⟨t2,ht2,rfl⟩:=aM.1 hb;have:=h1.nm t1 ht1;have:=h2.nm t2 ht2;omega
 ·rw[bE]at hb;rcases aA.1 hb with hb | hb
  ·obtain⟨tk,k1,k2,k3,k4⟩:=h1.src b hb;exact⟨tk,k1,h2.grow _ k2,k3,k4⟩
  ·obtain⟨tk,k1,k2,k3,k4⟩:=h2.src b hb;exact⟨tk,k1,k2,λhs=>k3 (h1.grow _ hs),k4⟩
 ·rw[bE,aH];refine⟨h1.fp,h2.fp,λa ha b hb he=>?_⟩;subst he;obtain⟨t1,k1,k2,k3,k4⟩:=h1.src a ha;obtain⟨t2,m1,m2,m3,m4⟩:=h2.src a hb;exact dD h k1 m1 (λe=>m3 (e▸k2)) k4 m4
 ·rcases aA.1 ht with ht | ht
  ·exact h1.head tk ht
  ·exact h2.head tk ht
 ·have p1:=h1.ok c' a1 a2 a3 (λtk ht=>a4 tk (aA.2 (.inl ht))) a5;have p2:=h2.ok c' a1 a2 a3 (λtk ht=>a4 tk (aA.2 (.inr ht))) a5;refine⟨λtk ht=>?_,p1.2,p2.2⟩;rcases aA.1 ht with ht | ht
  ·exact p1.1 tk ht
  ·exact p2.1 tk ht
theorem CSpec.mono {c:Ct cx.ty}{lo lo' hi hi':Nat}{s0 s1:List Nat}{N:List (Tk cx.ty)}{r r':Ct cx.ty->Prop}(h:CSpec cx c lo hi s0 s1 N r)(hl:lo'<=lo)(hh:hi<=hi')(hr:∀ c',r c'->r' c'):CSpec cx c lo' hi' s0 s1 N r':=
 ⟨λtk ht=>⟨dZ hl (h.nm tk ht).1,cN (h.nm tk ht).2 hh⟩,h.nd,h.src,h.fp,h.head,h.grow,λc' a1 a2 a3 a4 a5=>⟨(h.ok c' a1 a2 a3 a4 a5).1,hr c' (h.ok c' a1 a2 a3 a4 a5).2⟩⟩
theorem CSpec.idle {c:Ct cx.ty}{lo hi:Nat}{s:List Nat}{r:Ct cx.ty->Prop}(hr:∀ c':Ct cx.ty,c'.w=c.w->(∀ b,Rd c b->Rd c' b)->r c'):CSpec cx c lo hi s s [] r:=
 ⟨by simp,by simp,by simp,by simp,by simp,λ_ h=>h,λc' h1 _ _ _ h2=>⟨by simp,hr c' h1 h2⟩⟩
theorem RepL_ro {w:World}{S:Nat->Prop}{n:Nat}{s:SlD cx.ty}{u:Value}(h:RepL cx w S n (some (.inr s)) u):RepL cx w S n (some (.inr (ro s.e s.xs))) u:=by
 cases n with
 | zero=>simp[RepL]at h
 | succ n=>exact h
theorem aBq {c c':Ct cx.ty}(hw:c'.w=c.w)(hrd:∀ b,Rd c b->Rd c' b){tk:Tk cx.ty}{s:SlD cx.ty}(hc:tk.c=.inl s)(h:TokRep cx c tk)(nm:Nat) :
  TokRep cx c' { nm:=nm,u:=tk.u,fp:=tk.fp,c:=.inl { own:=1,nm:=nm,e:=s.e,o:=s.o,xs:=s.xs } }:=by
 unfold TokRep at h ⊢;rw[hc]at h;simp only at h ⊢;obtain⟨hv,h⟩:=h;refine⟨hv,?_⟩;split at h
 ·rename_i ho;obtain⟨n,h⟩:=h;simp only[ho,if_true];rw[hw];refine⟨n,?_⟩;cases n with
  | zero=>simp[OwnL]at h
  | succ n=>exact h
 ·rename_i ho;rw[if_neg ho];obtain⟨hf,us,n,h1,h2,h3⟩:=h;rw[hw];exact⟨hf,us,n,h1,h2,λj l v e1 e2=>RepL_mono cx (λ_ _=>rfl) hrd n l v (h3 j l v e1 e2)⟩
theorem aEf {c:Ct cx.ty}(h:Wf cx c){D F:List Nat}(hD:∀ n,n∈c.D↔n∈D)(hF:∀ n,n∈c.F↔n∈F){nm:Nat}{mk:Option Nat}{seen:List Nat}{l:L cx.ty}{u:Value}(hr:RepLS cx c l u) :
  ∃ N,CSpec cx c nm (nm+1) seen (cnL D F nm mk seen l).2 N (λc'=>RepLS cx c' (cnL D F nm mk seen l).1 u):=by
 match l,hr with
 | none,_=>exact⟨[],CSpec.idle λ_ _ _=>trivial⟩
 | some (.inl v),hr=>
  have hr':u=v:=hr;clear hr;unfold cnL;split
  ·rename_i l' v' hl;simp only[aB,Sum.inl.injEq]at hl;subst hl;split
   ·rename_i e;subst hr';refine⟨[{ nm:=nm,u:=.slice none 0 0,fp:=[],c:=.inl { own:=1,nm:=nm,e:=e,o:=true,xs:=[] } }],⟨by simp,by simp,by simp[cS,vb],by simp[cS,vb],by simp[vb],λ_ h=>h,λc' h1 h2 h3 h4 _=>⟨λtk ht=>?_,?_⟩⟩⟩
    ·simp only[aO]at ht;subst ht;exact⟨rfl,1,[],[],World.ownsRow_nil _ _ _ _,rfl,rfl,rfl,λj l c f h=>by simp at h⟩
    ·unfold RepLS;simp only[ls,if_true,h2,h3,kE,if_false];exact⟨⟨_,_,_,rfl⟩,_,h4 _ (aO.2 rfl),rfl,rfl,rfl⟩
   ·exact⟨[],CSpec.idle λ_ _ _=>hr'⟩
  ·rename_i hl;simp at hl
  ·rename_i hl;simp at hl
 | some (.inr s),hr=>
  unfold RepLS at hr;simp only[cnL];by_cases h1:s.own=1
  ·simp only[h1,if_true,beq_self_eq_true]at hr ⊢;obtain⟨hsl,hr⟩:=hr;split
   ·exact⟨[],CSpec.idle λ_ _ _=>trivial⟩
   ·rename_i hds;simp only[gL,not_or,Bool.not_eq_true]at hds;have h2:s.nm∉c.D:=by rw[hD];simpa using hds.1
    have hsn:s.nm∉seen:=by simpa using hds.2
    simp only[h2,if_false]at hr;split
    ·rename_i hf;have h3:s.nm∈c.F:=by rw[hF];simpa using hf
     simp only[h3,if_true]at hr;obtain⟨n,hr⟩:=hr;refine⟨[],CSpec.idle λc' hw hrd=>?_⟩;unfold RepLS;simp only[ls,ro];rw[if_neg (by decide),hw];exact⟨n,RepL_mono cx (λ_ _=>rfl) hrd n _ _ (RepL_ro hr)⟩
    ·rename_i hf;have h3:s.nm∉c.F:=by rw[hF];simpa using hf
     simp only[h3,if_false]at hr;obtain⟨tk,ht,hn,hc,hu⟩:=hr;refine⟨[{ nm:=nm,u:=tk.u,fp:=tk.fp,c:=.inl { own:=1,nm:=nm,e:=s.e,o:=s.o,xs:=s.xs } }],⟨by simp,by simp,λb hb=>?_,?_,λtk' ht' b hb=>?_,λn hn=>bG _ hn,λc' k1 k2 k3 k4 k5=>⟨λtk' ht'=>?_,?_⟩⟩⟩
     ·refine⟨tk,ht,by rw[hn];exact bR ..,by rw[hn];exact hsn,by simpa[cS]using hb⟩
     ·have hnd:=h.nodup;obtain⟨l1,l2,hl⟩:=cO ht;rw[hl]at hnd;simp only[bE,aR]at hnd;simpa[cS]using(aH.1 (aH.1 hnd).2.1).1
     ·simp only[aO]at ht';subst ht';exact⟨tk,ht,hb⟩
     ·simp only[aO]at ht';subst ht';exact aBq k1 k5 hc (h.rep tk ht) nm
     ·unfold RepLS;simp only[ls,if_true,k2,k3,kE,if_false];exact⟨hsl,_,k4 _ (aO.2 rfl),rfl,rfl,hu⟩
  ·have hb1:(s.own == 1)=false:=by simpa using h1
   simp only[h1,if_false,hb1,dF]at hr ⊢;obtain⟨n,hr⟩:=hr;refine⟨[],CSpec.idle λc' hw hrd=>?_⟩;unfold RepLS;simp only[ls,ro];rw[if_neg (by decide),hw];exact⟨n,RepL_mono cx (λ_ _=>rfl) hrd n _ _ (RepL_ro hr)⟩
theorem wJ {c:Ct cx.ty}(h:Wf cx c){D F:List Nat}(hD:∀ n,n∈c.D↔n∈D)(hF:∀ n,n∈c.F↔n∈F):∀ (l:List (L cx.ty)) (us:List Value) (nm:Nat) (mks:List (Option Nat)) (seen:List Nat),RepLs cx c l us->
  ∃ N,CSpec cx c nm (nm+l.length) seen (aC6 D F nm mks seen l).2 N (λc'=>RepLs cx c' (aC6 D F nm mks seen l).1 us)
 | [],us,nm,mks,seen,hr=>⟨[],CSpec.idle λ_ _ _=>⟨by simpa[aC6]using hr.1,λj a u h=>by simp[aC6]at h⟩⟩
 | l::r,us,nm,mks,seen,hr=>by
  match us,hr with
  | [],hr=>simp[RepLs]at hr
  | u::us,hr=>
   obtain⟨N1,h1⟩:=aEf h hD hF (nm:=nm) (mk:=mks.headD none) (seen:=seen) (hr.2 0 l u rfl rfl);obtain⟨N2,h2⟩:=wJ h hD hF r us (nm+1) mks.tail (cnL D F nm (mks.headD none) seen l).2 ⟨by simpa using hr.1,λj a b e1 e2=>hr.2 (j+1) a b (by simpa using e1) (by simpa using e2)⟩;refine⟨N1++N2,?_⟩;have:=h1.app h h2 (by omega) (by omega);simp only[aC6];refine this.mono (aK _) (by simp;omega) λc' ⟨k1,k2⟩=>⟨by simp[k2.1],λj a b e1 e2=>?_⟩
   cases j with
   | zero=>
    simp only[aP,aB]at e1 e2;subst e1;subst e2;exact k1
   | succ j=>exact k2.2 j a b (by simpa using e1) (by simpa using e2)
theorem aIQ {c:Ct cx.ty}(h:Wf cx c){D F:List Nat}(hD:∀ n,n∈c.D↔n∈D)(hF:∀ n,n∈c.F↔n∈F){nm:Nat}{mks:List (Option Nat)}{seen:List Nat}{v:V cx.ty}{u:Value}(hr:RepV cx c v u) :
  ∃ N,CSpec cx c nm (nm+64) seen (cnV D F nm mks seen v).2 N (λc'=>RepV cx c' (cnV D F nm mks seen v).1 u):=by
 match v,hr with
 | .inl (.inl l),hr=>
  obtain⟨N,hN⟩:=aEf h hD hF (nm:=nm) (mk:=mks.headD none) (seen:=seen) (l:=l) (u:=u) hr;exact⟨N,hN.mono (aK _) (by omega) λ_ h=>h⟩
 | .inl (.inr l),⟨us,hu,hr⟩=>
  simp only[cnV];split
  ·obtain⟨N,hN⟩:=wJ h hD hF l us nm mks seen hr;exact⟨N,hN.mono (aK _) (by omega) λ_ h=>⟨us,hu,h⟩⟩
  ·exact⟨[],CSpec.idle λ_ _ _=>trivial⟩
 | .inr (.inl l),_=>exact⟨[],CSpec.idle λ_ _ _=>trivial⟩
 | .inr (.inr p),hr=>
  simp only[cnV];split
  ·rename_i hc;simp only[aJ,beq_iff_eq,dC,decide_eq_true_eq]at hc;obtain⟨⟨hk,hs⟩,hlen⟩:=hc;have hsn:p.nm∉seen:=by simpa using hs
   have hr:RepP cx c p u:=hr;unfold RepP at hr;simp only[hk]at hr;obtain⟨tk,ht,hn,hcc,g,hg,hp⟩:=hr;have htr:=h.rep tk ht;unfold TokRep at htr;rw[hcc]at htr;obtain⟨hfp,g',cur,e,hg',hh,hcells⟩:=htr;rw[hg]at hg';simp only[Value.pointer.injEq,aB,Addr.mk.injEq]at hg';obtain⟨rfl,_⟩:=hg';obtain⟨N,hN⟩:=wJ h hD hF p.cells cur.toList (nm+1) mks (p.nm::seen) hcells;refine⟨{ nm:=nm,u:=tk.u,fp:=[],c:=.inr (aC6 D F (nm+1) mks (p.nm::seen) p.cells).1 }::N,⟨λtk' ht'=>?_,?_,λb hb=>?_,?_,λtk' ht' b hb=>?_,λn hn'=>hN.grow n (bG _ hn'),λc' k1 k2 k3 k4 k5=>?_⟩⟩
   ·rcases bS.1 ht' with ht' | ht'
    ·subst ht';simp
    ·have:=hN.nm tk' ht';omega
   ·rw[cU,dM];refine⟨λhm=>?_,hN.nd⟩;obtain⟨t1,h1,h2⟩:=aM.1 hm;have h3:=hN.nm t1 h1;have h2:t1.nm=nm:=h2;omega
   ·rw[aR]at hb;rcases aA.1 hb with hb | hb
    ·exact⟨tk,ht,hN.grow _ (by rw[hn];exact bR ..),by rw[hn];exact hsn,by simpa[cS,hfp]using hb⟩
    ·obtain⟨t1,m1,m2,m3,m4⟩:=hN.src b hb;exact⟨t1,m1,m2,λhs'=>m3 (bG _ hs'),m4⟩
   ·rw[aR,aH];refine⟨by simp[cS,hg,vb],hN.fp,λa ha b hb he=>?_⟩;subst he;obtain⟨t1,m1,m2,m3,m4⟩:=hN.src a hb;refine dD h ht m1 (λe=>m3 ?_) (by simpa[cS,hfp]using ha) m4;rw[<-e,hn];exact bR ..
   ·rcases bS.1 ht' with ht' | ht'
    ·subst ht';exact⟨tk,ht,hb⟩
    ·exact hN.head tk' ht' b hb
   ·have hk':=hN.ok c' k1 k2 k3 (λtk' ht'=>k4 tk' (bG _ ht')) k5;refine⟨λtk' ht'=>?_,?_⟩
    ·rcases bS.1 ht' with ht' | ht'
     ·subst ht';exact⟨rfl,g,cur,e,hg,by rw[k1];exact hh,hk'.2⟩
     ·exact hk'.1 tk' ht'
    ·exact⟨_,k4 _ (bR ..),rfl,rfl,g,hg,hp⟩
  ·split
   ·rename_i hk;have hk:p.kind=2:=by simpa using hk
    refine⟨[],CSpec.idle λc' hw hrd=>?_⟩;have hr:RepP cx c p u:=hr;show RepP cx c' p u;unfold RepP at hr ⊢;simp only[hk]at hr ⊢;obtain⟨b,o,hu,hb,x,hx,n,hn⟩:=hr;refine⟨b,o,hu,hrd b hb,x,hx,n,λj l hl=>?_⟩;obtain⟨v,h1,h2⟩:=hn j l hl;exact⟨v,by rw[hw];exact h1,by rw[hw];exact RepL_mono cx (λ_ _=>rfl) hrd _ _ _ h2⟩
   ·exact⟨[],CSpec.idle λ_ _ _=>trivial⟩
theorem aAZ {c:Ct cx.ty}(h:Wf cx c){D F:List Nat}(hD:∀ n,n∈c.D↔n∈D)(hF:∀ n,n∈c.F↔n∈F){spec:List (Nat×List (Option Nat))}:∀ (slots:List (V cx.ty)) (us:List Value) (i:Nat) (seen:List Nat),us.length=slots.length->
  (∀ (j:Nat) v u,slots[j]?=some v->us[j]?=some u->RepV cx c v u)->
  ∃ seen' N,CSpec cx c (i * 64) ((i+slots.length) * 64) seen seen' N (λc'=>(cnS D F spec i seen slots).length=slots.length/\∀ (j:Nat) v u,(cnS D F spec i seen slots)[j]?=some v->us[j]?=some u->RepV cx c' v u)
 | [],us,i,seen,_,_=>⟨seen,[],CSpec.idle λ_ _ _=>⟨rfl,λj v u h=>by simp[cnS]at h⟩⟩
 | v::r,[],i,seen,hl,_=>by simp at hl
 | v::r,u::us,i,seen,hl,hr=>by
  have hr0:=hr 0 v u rfl rfl;simp only[cnS];cases hsp:aCm spec i with
  | none=>
   obtain⟨seen',N,hN⟩:=aAZ h hD hF (spec:=spec) r us (i+1) seen (by simpa using hl) (λj a b e1 e2=>hr (j+1) a b (by simpa using e1) (by simpa using e2));refine⟨seen',N,hN.mono (by omega) (by simp;omega) λc' ⟨k1,k2⟩=>⟨by simp[k1],λj a b e1 e2=>?_⟩⟩;cases j with
   | zero=>
    simp only[aP,aB]at e1;subst e1
    trivial
   | succ j=>exact k2 j a b (by simpa using e1) (by simpa using e2)
  | some mks=>
   obtain⟨N1,h1⟩:=aIQ h hD hF (nm:=i * 64) (mks:=mks) (seen:=seen) hr0;obtain⟨seen',N2,h2⟩:=aAZ h hD hF (spec:=spec) r us (i+1) (cnV D F (i * 64) mks seen v).2 (by simpa using hl) (λj a b e1 e2=>hr (j+1) a b (by simpa using e1) (by simpa using e2));have h2':=h2.mono (lo':=i * 64+64) (hi':=(i+1+r.length) * 64) (by omega) (aK _) (λ_ h=>h);have:=h1.app h h2' (by omega) (by omega);refine⟨seen',N1++N2,this.mono (aK _) (by simp;omega) λc' ⟨k1,k2,k3⟩=>⟨by simp[k2],λj a b e1 e2=>?_⟩⟩;cases j with
   | zero=>
    simp only[aP,aB]at e1 e2;subst e1;subst e2;exact k1
   | succ j=>exact k3 j a b (by simpa using e1) (by simpa using e2)
theorem rO {ty:Nat->Type}{nm:Nat}:∀ {O C:List (V ty)} {q:Pt ty},uB nm O C=some q->∃ (j:Nat) (p:Pt ty),O[j]?=some (.inr (.inr p))/\C[j]?=some (.inr (.inr q))/\p.kind=0/\p.nm=nm/\p.i=0/\q.kind=0/\q.i=0
 | v::o,c::r,q,h=>by
  unfold uB at h;split at h
  ·rename_i p q2;split at h
   ·rename_i hc;simp only[aJ,beq_iff_eq]at hc;simp only[aB]at h;subst h;exact⟨0,p,rfl,rfl,hc.1.1.1.1,hc.1.1.1.2,hc.1.1.2,hc.1.2,hc.2⟩
   ·obtain⟨j,p2,h1,h2,h3⟩:=rO h;exact⟨j+1,p2,by simpa using h1,by simpa using h2,h3⟩
  ·obtain⟨j,p2,h1,h2,h3⟩:=rO h;exact⟨j+1,p2,by simpa using h1,by simpa using h2,h3⟩
 | [],_,q,h=>by simp[uB]at h
 | _::_,[],q,h=>by simp[uB]at h
theorem sS {α:Type}{f:α->Nat}:∀ {l:List α},(l.map f).Nodup->∀ {a b:α},a∈l->b∈l->f a=f b->a=b
 | x::l,h,a,b,ha,hb,e=>by
  simp only[cU,dM,aM,not_exists,not_and]at h;rcases bS.1 ha with ea | ha'
  ·rcases bS.1 hb with eb | hb'
   ·rw[ea,eb]
   ·exact absurd (by rw[<-e,ea]) (h.1 b hb')
  ·rcases bS.1 hb with eb | hb'
   ·exact absurd (by rw[e,eb]) (h.1 a ha')
   ·exact sS h.2 ha' hb' e
theorem aHr {c:Ct cx.ty}(hw:Wf cx c){t1 t2:Tk cx.ty}(h1:t1∈c.T)(h2:t2∈c.T)(e:t1.nm=t2.nm):t1=t2:=
 sS hw.names h1 h2 e
theorem aKI {c c':Ct cx.ty}(hw:Wf cx c){O C:List (V cx.ty)}{us:List Value}(hO:∀ (j:Nat) v u,O[j]?=some v->us[j]?=some u->RepV cx c v u)(hC:∀ (j:Nat) v u,C[j]?=some v->us[j]?=some u->RepV cx c' v u)(hl:us.length=O.length)
  {on:Bool} {v d:V cx.ty} {u:Value} (hv:RepV cx c v u) (hd:RepV cx c' d u):RepV cx c' (alV O C on v d) u:=by
 unfold alV;split
 ·rename_i p;split
  ·rename_i hc;simp only[aJ,beq_iff_eq]at hc;obtain⟨⟨_,hk⟩,hi⟩:=hc;split
   ·rename_i q hq;obtain⟨j,p2,h1,h2,h3,h4,h5,h6,h7⟩:=rO hq;have hj:j < us.length:=by rw[hl];exact(aI.1 h1).1
    have r1:=hO j _ _ h1 (aC hj);have r2:=hC j _ _ h2 (aC hj);have r1:RepP cx c p2 us[j]:=r1;have r2:RepP cx c' q us[j]:=r2;have hv:RepP cx c p u:=hv;unfold RepP at r1 r2 hv;simp only[h3,h5]at r1;simp only[h6,h7]at r2;simp only[hk,hi]at hv;obtain⟨t1,ht1,hn1,hc1,g1,hg1,hu1⟩:=r1;obtain⟨t2,ht2,hn2,hc2,g2,hg2,hu2⟩:=r2;obtain⟨t3,ht3,hn3,hc3,g3,hg3,hu3⟩:=hv;have e13:t1=t3:=aHr hw ht1 ht3 (by rw[hn1,h4,hn3]);subst e13;rw[hg1]at hg3;simp only[Value.pointer.injEq,aB,Addr.mk.injEq]at hg3;obtain⟨rfl,_⟩:=hg3;have hu1:us[j]=.pointer (some ⟨g1,p2.off,none⟩):=hu1;have hu2:us[j]=.pointer (some ⟨g2,q.off,none⟩):=hu2;rw[hu1]at hu2;simp only[Value.pointer.injEq,aB,Addr.mk.injEq]at hu2;obtain⟨rfl,_⟩:=hu2;show RepP cx c' { q with off:=p.off } u;unfold RepP;simp only[h6,h7];exact⟨t2,ht2,hn2,hc2,g1,hg2,hu3⟩
   ·trivial
  ·trivial
 ·exact hd
theorem aGk {spec:List (Nat×List (Option Nat))}{ty:Nat->Type}{O C:List (V ty)}:∀ (i:Nat) (o r:List (V ty)),(alS spec O C i o r).length=r.length
 | i,v::o,c::r=>by simp[alS,aGk (i+1) o r]
 | i,[],r=>by simp[alS]
 | i,_::_,[]=>by simp[alS]
theorem aGl {spec:List (Nat×List (Option Nat))}{ty:Nat->Type}{O C:List (V ty)}:∀ (i:Nat) (o r:List (V ty)) (j:Nat) (x:V ty),(alS spec O C i o r)[j]?=some x->(∃ on v c,o[j]?=some v/\r[j]?=some c/\x=alV O C on v c)\/r[j]?=some x
 | i,v::o,c::r,0,x,h=>by
  simp only[alS,aP,aB]at h;exact .inl ⟨_,v,c,rfl,rfl,h.symm⟩
 | i,v::o,c::r,j+1,x,h=>by
  simp only[alS,dP]at h ⊢;exact aGl (i+1) o r j x h
 | i,[],r,j,x,h=>by simp only[alS]at h;exact .inr h
 | i,_::_,[],j,x,h=>by simp[alS]at h
theorem RS.canon {c:Ct cx.ty}{st:St cx.ty}{a:Act}(h:RS cx c st a)(spec:List (Nat×List (Option Nat))):∃ c',RS cx c' (canon spec st) a/\c'.w=c.w/\c'.S=c.S/\(c'.N=c.N/\c'.K=c.K):=by
 unfold VM.canon;split
 ·rename_i hlen;obtain⟨seen',N,hN⟩:=aAZ h.wf h.dead h.frz (spec:=spec) st.slots a.tmps.toList 0 [] (by simpa using h.size) (λj v u e1 e2=>by
   have:=h.rep j;rw[show st.slots.getD j aN=v by simp[List.getD,e1]]at this;rw[show a.tmps.getD j undef=u by
    have e2':a.tmps[j]?=some u:=by simpa using e2
    simp[aZ,e2']]at this
   exact this)
  let c':Ct cx.ty:={ T:=N,D:=[],F:=[],w:=c.w,S:=c.S,N:=c.N,K:=c.K }
  have hsrc:∀ tk∈N,∀ b∈vb tk.u++tk.fp,∃ t∈c.T,b∈cS t:=λtk ht b hb=>by
   obtain⟨t,h1,_,_,h2⟩:=hN.src b (bB.2 ⟨tk,ht,hb⟩);exact⟨t,h1,h2⟩
  have hrd:∀ b,Rd c b->Rd c' b:=by
   rintro b ⟨h1,h2,h3⟩;refine⟨h1,h2,λtk ht hv=>?_⟩;obtain⟨t,ht',hb'⟩:=hN.head tk ht b hv;exact h3 t ht' hb'
  have hok0:=hN.ok c' rfl rfl rfl (λtk ht=>ht) hrd;have hOr:∀ (j:Nat) v u,st.slots[j]?=some v->a.tmps.toList[j]?=some u->RepV cx c v u:=λj v u e1 e2=>by
   have:=h.rep j;rw[show st.slots.getD j aN=v by simp[List.getD,e1]]at this;rw[show a.tmps.getD j undef=u by
    have e2':a.tmps[j]?=some u:=by simpa using e2
    simp[aZ,e2']]at this
   exact this
  have hok:(∀ tk∈N,TokRep cx c' tk)/\(alS spec st.slots (cnS st.D st.F spec 0 [] st.slots) 0 st.slots (cnS st.D st.F spec 0 [] st.slots)).length=st.slots.length/\∀ (j:Nat) v u,(alS spec st.slots (cnS st.D st.F spec 0 [] st.slots) 0 st.slots (cnS st.D st.F spec 0 [] st.slots))[j]?=some v->a.tmps[j]?=some u->RepV cx c' v u:=by
   refine⟨hok0.1,by rw[aGk];exact hok0.2.1,λj v u e1 e2=>?_⟩;have e2':a.tmps.toList[j]?=some u:=by simpa using e2
   rcases aGl _ _ _ _ _ e1 with⟨on,v0,d,k1,k2,rfl⟩ | k
   ·exact aKI h.wf hOr hok0.2.2 (by simpa using h.size) (hOr j v0 u k1 e2') (hok0.2.2 j d u k2 e2')
   ·exact hok0.2.2 j v u k e2'
  refine⟨c',⟨⟨hN.nd,hN.fp,λtk ht b hb=>?_,hok.1,h.wf.start,λtk _=>⟨by simp[c'],by simp[c']⟩,h.wf.size⟩,?_,λt=>?_,h.defers,λn=>by simp[c'],λn=>by simp[c'],λn hn=>?_,h.kp,PrOK.nil,PdOK.none⟩,rfl,rfl,rfl,rfl⟩
  ·obtain⟨t,h1,h2⟩:=hsrc tk ht b hb;exact h.wf.bound t h1 b h2
  ·rw[h.size];exact hok.2.1.symm
  ·by_cases ht:t < st.slots.length
   ·have ht':t < (alS spec st.slots (cnS st.D st.F spec 0 [] st.slots) 0 st.slots (cnS st.D st.F spec 0 [] st.slots)).length:=by rw[hok.2.1];exact ht
    have e1:=aC ht';have hta:t < a.tmps.size:=by rw[h.size];exact ht
    have:=hok.2.2 t _ a.tmps[t] e1 (by simp[hta]);simpa[List.getD,e1,aZ,hta]using this
   ·have:(alS spec st.slots (cnS st.D st.F spec 0 [] st.slots) 0 st.slots (cnS st.D st.F spec 0 [] st.slots)).getD t aN=aN:=by
     simp[List.getD,bQ (by rw[hok.2.1];omega:(alS spec st.slots (cnS st.D st.F spec 0 [] st.slots) 0 st.slots (cnS st.D st.F spec 0 [] st.slots)).length<=t)]
    rw[this]
    trivial
  ·rcases hn with⟨tk,ht,rfl⟩ | hn | hn
   ·have:=(hN.nm tk ht).2;simp only;omega
   ·simp[c']at hn
   ·simp[c']at hn
 ·exact⟨c,h,rfl,rfl,rfl,rfl⟩
end
section
variable {cx : Cx} {P : Program}
structure Kn (cx:Cx) (β:Type) where
 n:St cx.ty->Option β
 x:Nat->St cx.ty->Option β
 r:St cx.ty->Option β
 t:Value->St cx.ty->Option β:=λ_ _=>none
def onT {cx:Cx}{β:Type}(t:Value->St cx.ty->Option β)(ch:List PanicEntry)(st:St cx.ty):Option β:=
 match ch with
 | [{ v:=v,recovered:=false,goexit:=false }]=>t v st
 | _=>none
@[simp] theorem aRq {cx:Cx}{β:Type}(ch:List PanicEntry)(st:St cx.ty):onT (λ_ _=>(none:Option β)) ch st=none:=by
 unfold onT;split<;>rfl
def Kn.on {cx:Cx}{β:Type}(k:Kn cx β)(e:Exit)(st:St cx.ty):Option β:=
 match e with
 | .normal=>k.n st
 | .exit i=>k.x i st
 | .ret=>k.r st
 | .panic ch=>onT k.t ch st
 | _=>none
structure Env (cx:Cx) where
 Kc:Kt cx
 Kw:Kwt cx:=λ_=>none
 lv:Nat->List (Nat×List (Option Nat))
 xv:Nat->Option (List (Nat×List (Option Nat)))
 jb:Nat->Bool:=λ_=>false
 jl:Nat->List (Nat×List (Option Nat)):=λ_=>[]
def cnO {ty:Nat->Type}(o:Option (List (Nat×List (Option Nat))))(st:St ty):St ty:=
 match o with
 | some s=>canon s st
 | none=>st
abbrev Lp (cx:Cx)(β:Type):=(St cx.ty->Kn cx β->Option β)->(St cx.ty->St cx.ty)->Kn cx β->St cx.ty->Option β
def aJB {cx:Cx}{β:Type}(g:St cx.ty->Kn cx β->Option β)(k:Kn cx β):Kn cx β:={ n:=λst'=>g st' k,x:=k.x,r:=k.r,t:=k.t }
def aI3 {cx:Cx}{β:Type}(id:Nat)(sp:Option (List (Nat×List (Option Nat))))(k:Kn cx β):Kn cx β:=
 {n:=k.n,x:=λi st'=>if i=id then k.n (cnO sp st')else k.x i st',r:=k.r,t:=k.t }
def aAi {cx:Cx}{β:Type}(body:St cx.ty->Kn cx β->Option β)(cn:St cx.ty->St cx.ty)(k:Kn cx β):Nat->St cx.ty->Option β
 | 0,_=>none
 | n+1,st=>body st (aJB (λst' _=>aAi body cn k n (cn st')) k)
def bH {cx:Cx}{β:Type}(L:Nat):Lp cx β:=λbody cn k st=>aAi body cn k L (cn st)
def St.setC {ty:Nat->Type}(st:St ty)(c:Operand)(b:Bool):St ty:=
 match c with
 | .tmp t=>{ st with slots:=st.slots.set t (vv (.bool b)) }
 | _=>st
theorem aFy {ty:Nat->Type}{st:St ty}{c:Operand}{b:Bool}(h:dU st.slots c=vv (.bool b)):st.setC c b=st:=by
 unfold St.setC;split
 ·rename_i t;have h:st.slots.getD t aN=vv (.bool b):=h;simp only[List.getD]at h;cases hx:st.slots[t]? with
  | none=>rw[hx]at h;simp[aN,vv]at h
  | some v=>
   rw[hx]at h;simp only[fK]at h;subst h;obtain⟨hlt,hv⟩:=aI.1 hx;have:st.slots.set t (vv (.bool b))=st.slots:=by rw[<-hv,List.set_getElem_self]
   rw[this]
 ·rfl
def evC {β:Type}(P:Program)(ev:Env cx)(lp:Lp cx β):Nat->Code->St cx.ty->Kn cx β->Option β
 | _,.skip,st,k=>k.n st
 | _,.region id ops draw,st,k=>bif ev.jb id then vI P ev.Kc ev.Kw k.t ops draw (lp (λst' _=>k.n st') (canon (ev.jl id)) k) st else vI P ev.Kc ev.Kw k.t ops draw k.n st
 | bid,.seq x y,st,k=>evC P ev lp bid x st (aJB (evC P ev lp bid y) k)
 | bid,.cond c x y,st,k=>match dU st.slots c with
  | .inl (.inl (some (.inl (.bool b))))=>bif b then evC P ev lp bid x (st.setC c true) k else evC P ev lp bid y (st.setC c false) k
  | _=>none
 | _,.block id c,st,k=>evC P ev lp id c st (aI3 id (ev.xv id) k)
 | bid,.loop c,st,k=>lp (evC P ev lp bid c) (canon (ev.lv bid)) k st
 | _,.exit id,st,k=>k.x id st
 | _,.label _,st,k=>k.n st
 | _,.ret,st,k=>k.r st
 | _,_,_,_=>none
theorem oC (ok:cx.Ok)(hZ:cx.POk P)(ev:Env cx)(L:Nat)(hK:KOk P cx ev.Kc)(hKw:KwOk P cx ev.Kw)(hm:P.follows .mixedOrders=true){β:Type}{W:World}{S N:Nat->Prop}{KK:List (Nat×Value)}{r:β}:∀ (code:Code) (bid:Nat) (k:Kn cx β) (Q:Exit->Act->World->Prop),
  (∀ e c st a,RS cx c st a->c.S=S->(c.N=N/\c.K=KK)->Kept N W c.w->k.on e st=some r->Q e a c.w)->
  ∀ (st:St cx.ty) (c:Ct cx.ty) (a:Act),RS cx c st a->c.S=S->(c.N=N/\c.K=KK)->Kept N W c.w->evC P ev (bH L) bid code st k=some r->code.wp P Q a c.w
 | .skip,bid,k,Q,hQ,st,c,a,h,hS,hb,hbl,he=>wp_skip (hQ .normal c st a h hS hb hbl he)
 | .region id ops draw,bid,k,Q,hQ,st,c,a,h,hS,hb,hbl,he=>by
  simp only[evC]at he;cases hj:ev.jb id with
  | false=>
   rw[hj]at he;exact xG ok hZ hK hKw hm (λv c st a h1 h2 h3 h4 h5=>hQ (.panic [{ v:=v,recovered:=false }]) c st a h1 h2 h3 h4 h5) (λc st a h1 h2 h3 h4 h5=>hQ .normal c st a h1 h2 h3 h4 h5) h hS hb hbl he
  | true=>
   rw[hj]at he;refine xG ok hZ hK hKw hm (λv c st a h1 h2 h3 h4 h5=>hQ (.panic [{ v:=v,recovered:=false }]) c st a h1 h2 h3 h4 h5) (λc st a h1 h2 h3 h4 h5=>?_) h hS hb hbl he;cases L with
   | zero=>simp[bH,aAi]at h5
   | succ n=>
    have h5:k.n (canon (ev.jl id) st)=some r:=h5;obtain⟨c',h',hw,hS',hb'⟩:=h1.canon (ev.jl id);rw[<-hw];exact hQ .normal c' _ a h' (hS'.trans h2) ⟨hb'.1.trans h3.1,hb'.2.trans h3.2⟩ (by rw[hw];exact h4) h5
 | .seq x y,bid,k,Q,hQ,st,c,a,h,hS,hb,hbl,he=>by
  refine wp_seq (oC ok hZ ev L hK hKw hm x bid _ _ (λe c st a h1 h2 h3 h4 h5=>?_) st c a h hS hb hbl he);cases e with
  | normal=>exact oC ok hZ ev L hK hKw hm y bid k Q hQ st c a h1 h2 h3 h4 h5
  | exit i=>exact hQ _ c st a h1 h2 h3 h4 h5
  | goto l=>exact hQ _ c st a h1 h2 h3 h4 h5
  | ret=>exact hQ _ c st a h1 h2 h3 h4 h5
  | panic ch=>exact hQ _ c st a h1 h2 h3 h4 h5
  | outgrown=>exact hQ _ c st a h1 h2 h3 h4 h5
 | .cond cc x y,bid,k,Q,hQ,st,c,a,h,hS,hb,hbl,he=>by
  simp only[evC]at he;split at he
  ·rename_i b hx;have hr:=eP h.rep cc;rw[hx]at hr;have hr:a.eval cc=.bool b:=hr;cases b with
   | true=>
    rw[aFy hx]at he;exact wp_cond_true hr (oC ok hZ ev L hK hKw hm x bid k Q hQ st c a h hS hb hbl he)
   | false=>
    rw[aFy hx]at he;exact wp_cond_false hr (oC ok hZ ev L hK hKw hm y bid k Q hQ st c a h hS hb hbl he)
  ·simp at he
 | .block id x,bid,k,Q,hQ,st,c,a,h,hS,hb,hbl,he=>by
  refine wp_block (oC ok hZ ev L hK hKw hm x id _ _ (λe c st a h1 h2 h3 h4 h5=>?_) st c a h hS hb hbl he);cases e with
  | exit i=>
   simp only[aI3,Kn.on,Exit.inBlock]at h5 ⊢;split at h5
   ·rename_i hi;rw[if_pos hi];unfold cnO at h5;split at h5
    ·rename_i s _;obtain⟨c',h',hw,hS',hb'⟩:=h1.canon s;rw[<-hw];exact hQ .normal c' _ a h' (hS'.trans h2) ⟨hb'.1.trans h3.1,hb'.2.trans h3.2⟩ (by rw[hw];exact h4) h5
    ·exact hQ .normal c st a h1 h2 h3 h4 h5
   ·rename_i hi;rw[if_neg hi];exact hQ (.exit i) c st a h1 h2 h3 h4 h5
  | normal=>exact hQ _ c st a h1 h2 h3 h4 h5
  | goto l=>exact hQ _ c st a h1 h2 h3 h4 h5
  | ret=>exact hQ _ c st a h1 h2 h3 h4 h5
  | panic ch=>exact hQ _ c st a h1 h2 h3 h4 h5
  | outgrown=>exact hQ _ c st a h1 h2 h3 h4 h5
 | .loop x,bid,k,Q,hQ,st,c,a,h,hS,hb,hbl,he=>by
  have key:∀ (n:Nat) (st:St cx.ty) (c:Ct cx.ty) (a:Act),RS cx c st a->c.S=S->(c.N=N/\c.K=KK)->Kept N W c.w->
    aAi (evC P ev (bH L) bid x) (canon (ev.lv bid)) k n st=some r->Code.rounds P x Q n a c.w:=by
   intro n
   induction n with
   | zero=>intro st c a _ _ _ _ he;simp[aAi]at he
   | succ n ih=>
    intro st c a h hS hb hbl he;rw[rounds_succ];simp only[aAi]at he;refine oC ok hZ ev L hK hKw hm x bid _ _ (λe c st a h1 h2 h3 h4 h5=>?_) _ c a h hS hb hbl he;cases e with
    | normal=>
     obtain⟨c',h',hw,hS',hb'⟩:=h1.canon (ev.lv bid);show Code.rounds P x Q n a c.w;rw[<-hw];exact ih _ c' a h' (hS'.trans h2) ⟨hb'.1.trans h3.1,hb'.2.trans h3.2⟩ (by rw[hw];exact h4) h5
    | exit i=>exact hQ _ c st a h1 h2 h3 h4 h5
    | goto l=>exact hQ _ c st a h1 h2 h3 h4 h5
    | ret=>exact hQ _ c st a h1 h2 h3 h4 h5
    | panic ch=>exact hQ _ c st a h1 h2 h3 h4 h5
    | outgrown=>exact hQ _ c st a h1 h2 h3 h4 h5
  obtain⟨c',h',hw,hS',hb'⟩:=h.canon (ev.lv bid);rw[<-hw];exact wp_loop_rounds L (key L _ c' a h' (hS'.trans hS) ⟨hb'.1.trans hb.1,hb'.2.trans hb.2⟩ (by rw[hw];exact hbl) he)
 | .exit id,bid,k,Q,hQ,st,c,a,h,hS,hb,hbl,he=>wp_exit (hQ _ c st a h hS hb hbl he)
 | .label l,bid,k,Q,hQ,st,c,a,h,hS,hb,hbl,he=>wp_label (hQ _ c st a h hS hb hbl he)
 | .ret,bid,k,Q,hQ,st,c,a,h,hS,hb,hbl,he=>wp_ret (hQ _ c st a h hS hb hbl he)
 | .rangeFunc _ _ _ _,bid,k,Q,hQ,st,c,a,h,hS,hb,hbl,he=>by simp[evC]at he
 | .scope _,bid,k,Q,hQ,st,c,a,h,hS,hb,hbl,he=>by simp[evC]at he
 | .goto _,bid,k,Q,hQ,st,c,a,h,hS,hb,hbl,he=>by simp[evC]at he
 | .refuse _,bid,k,Q,hQ,st,c,a,h,hS,hb,hbl,he=>by simp[evC]at he
def aJP {ty:Nat->Type}(P:Program)(D F:List Nat)(t:TypeId)(seen:List Nat)(l:L ty):Option (L ty×List Nat):=
  match l with
  | some (.inl (.slice none 0 0))=>match eU P t with
    | some e=>some (ls { own:=2,nm:=0,e:=e,o:=true,xs:=[] },seen)
    | none=>none
  | some (.inl v)=>some (lv v,seen)
  | some (.inr s)=>if s.own == 1 then
      (if D.contains s.nm || seen.contains s.nm then none
       else if F.contains s.nm then some (ls (ro s.e s.xs),seen)
       else if s.o then some (ls { own:=2,nm:=0,e:=s.e,o:=true,xs:=s.xs },s.nm::seen)else none)
    else some (ls (ro s.e s.xs),seen)
  | none=>none
def zZ {ty:Nat->Type}(P:Program)(D F:List Nat):List TypeId->List Nat->List (L ty)->Option (List (L ty)×List Nat)
 | t::ts,seen,l::r=>match aJP P D F t seen l with
  | some (l',s1)=>match zZ P D F ts s1 r with
   | some (r',s2)=>some (l'::r',s2)
   | none=>none
  | none=>none
 | [],seen,[]=>some ([],seen)
 | _,_,_=>none
def aJQ {ty:Nat->Type}(P:Program)(D F:List Nat)(t:TypeId)(seen:List Nat)(a:A ty):Option (A ty×List Nat):=
 match a with
 | .inl l=>match aJP P D F t seen l with
  | some (l',s1)=>some (.inl l',s1)
  | none=>none
 | .inr l=>match zZ P D F (kM P 8 t) seen l with
  | some (l',s1)=>some (.inr l',s1)
  | none=>none
def uQ {ty:Nat->Type}(P:Program)(D F:List Nat):List TypeId->List Nat->List (A ty)->Option (List (A ty)×List Nat)
 | t::ts,seen,l::r=>match aJQ P D F t seen l with
  | some (l',s1)=>match uQ P D F ts s1 r with
   | some (r',s2)=>some (l'::r',s2)
   | none=>none
  | none=>none
 | [],seen,[]=>some ([],seen)
 | _,_,_=>none
def vT (P:Program)(slots:List (V cx.ty)):List ResultVar->Option (List (A cx.ty))
 | []=>some []
 | .tmp t::r=>match slots.getD t aN,vT P slots r with
  | .inl a,some as=>some (a::as)
  | _,_=>none
 | .cell t ty::r=>match slots.getD t aN,vT P slots r with
  | .inr (.inr p),some as=>if p.kind == 0&&p.i == 0 then(match aCk P ty p.cells p.off with
   | some a=>some (a::as)
   | none=>none)else none
  | _,_=>none
def bI (P:Program)(fn:Func)(st:St cx.ty):Option (V cx.ty):=
 match vT P st.slots fn.results.toList with
 | some [a]=>match aJQ P st.D st.F (fn.resultTypes.toList.headD 0) [] a with
  | some (a',_)=>some (.inl a')
  | none=>none
 | some as=>match uQ P st.D st.F fn.resultTypes.toList [] as with
  | some (as',_)=>some (.inr (.inl as'))
  | none=>none
 | none=>none
def aIB (P:Program)(fn:Func):Kn cx (V cx.ty):={ n:=bI P fn,x:=λ_ _=>none,r:=bI P fn }
def eT (P:Program)(ev:Env cx)(lp:Lp cx (V cx.ty))(fn:Func)(args:List (A cx.ty)):Option (V cx.ty):=
 match fn.body with
 | some code=>evC P ev lp 0 code { slots:=args.map sP++List.replicate (fn.ntmps-args.length) aN,D:=[],F:=[],ctr:=1 } (aIB P fn)
 | none=>none
end
section
variable {cx : Cx} {P : Program}
structure OSp (c:Ct cx.ty) (seen seen':List Nat) (fp:List Nat):Prop where
 src:∀ b∈fp,∃ tk∈c.T,tk.nm∈seen'/\tk.nm∉seen/\b∈cS tk
 nd:fp.Nodup
 grow:∀ n∈seen,n∈seen'
 row:∀ b∈fp,∃ tk∈c.T,(∃ s,tk.c=.inl s)/\b∈cS tk
theorem OSp.nil (c:Ct cx.ty)(seen:List Nat):OSp c seen seen []:=⟨by simp,by simp,λ_ h=>h,by simp⟩
theorem OSp.app {c:Ct cx.ty}(h:Wf cx c){s0 s1 s2 f1 f2:List Nat}(h1:OSp c s0 s1 f1)(h2:OSp c s1 s2 f2):OSp c s0 s2 (f1++f2):=by
 refine⟨λb hb=>?_,?_,λn hn=>h2.grow n (h1.grow n hn),λb hb=>(aA.1 hb).elim (h1.row b) (h2.row b)⟩
 ·rcases aA.1 hb with hb | hb
  ·obtain⟨tk,k1,k2,k3,k4⟩:=h1.src b hb;exact⟨tk,k1,h2.grow _ k2,k3,k4⟩
  ·obtain⟨tk,k1,k2,k3,k4⟩:=h2.src b hb;exact⟨tk,k1,k2,λhs=>k3 (h1.grow _ hs),k4⟩
 ·rw[aH];refine⟨h1.nd,h2.nd,λa ha b hb he=>?_⟩;subst he;obtain⟨t1,k1,k2,k3,k4⟩:=h1.src a ha;obtain⟨t2,m1,m2,m3,m4⟩:=h2.src a hb;exact dD h k1 m1 (λe=>m3 (e▸k2)) k4 m4
theorem aBP {c:Ct cx.ty}(h:Wf cx c){D F:List Nat}(hD:∀ n,n∈c.D↔n∈D)(hF:∀ n,n∈c.F↔n∈F){t:TypeId}{seen seen':List Nat}{l l':L cx.ty}{u:Value}(hr:RepLS cx c l u)(ho:aJP P D F t seen l=some (l',seen')) :
  ∃ fp,ResL cx c.w (Rd c) l' u fp/\OSp c seen seen' fp:=by
 unfold aJP at ho;split at ho
 ·split at ho
  ·simp only[aB,aY]at ho;obtain⟨rfl,rfl⟩:=ho;have hr:u=.slice none 0 0:=hr;subst hr;refine⟨[],?_,OSp.nil c seen⟩;unfold ResL;simp only[ls,if_true];exact⟨trivial,1,[],[],World.ownsRow_nil _ _ _ _,rfl,rfl,rfl,λj l c f h=>by simp at h⟩
  ·simp at ho
 ·simp only[aB,aY]at ho;obtain⟨rfl,rfl⟩:=ho;exact⟨[],⟨hr,rfl⟩,OSp.nil c seen⟩
 ·rename_i s;unfold RepLS at hr;by_cases h1:s.own=1
  ·simp only[h1,if_true,beq_self_eq_true]at hr ho;obtain⟨_,hr⟩:=hr;split at ho
   ·simp at ho
   ·rename_i hds;simp only[gL,not_or,Bool.not_eq_true]at hds;have h2:s.nm∉c.D:=by rw[hD];simpa using hds.1
    have hsn:s.nm∉seen:=by simpa using hds.2
    simp only[h2,if_false]at hr;split at ho
    ·rename_i hf;have h3:s.nm∈c.F:=by rw[hF];simpa using hf
     simp only[h3,if_true]at hr;simp only[aB,aY]at ho;obtain⟨rfl,rfl⟩:=ho;obtain⟨n,hr⟩:=hr;refine⟨[],?_,OSp.nil c seen⟩;unfold ResL;simp only[ls,ro];rw[if_neg (by decide),if_neg (by decide)];exact⟨trivial,trivial,n,RepL_ro hr⟩
    ·rename_i hf;have h3:s.nm∉c.F:=by rw[hF];simpa using hf
     simp only[h3,if_false]at hr;obtain⟨tk,ht,hn,hc,hu⟩:=hr;split at ho
     ·rename_i hso;simp only[aB,aY]at ho;obtain⟨rfl,rfl⟩:=ho;have htr:=h.rep tk ht;unfold TokRep at htr;rw[hc]at htr;simp only[hso,if_true]at htr;obtain⟨hv,n,htr⟩:=htr;refine⟨cS tk,?_,⟨λb hb=>⟨tk,ht,by rw[hn];exact bR ..,by rw[hn];exact hsn,hb⟩,?_,λn hn=>bG _ hn,λb hb=>⟨tk,ht,⟨s,hc⟩,hb⟩⟩⟩
      ·unfold ResL;simp only[ls,if_true];refine⟨trivial,n,?_⟩;rw[<-hu];cases n with
       | zero=>simp[OwnL]at htr
       | succ n=>exact htr
      ·have hnd:=h.nodup;obtain⟨l1,l2,hl⟩:=cO ht;rw[hl]at hnd;simp only[bE,aR]at hnd;exact(aH.1 (aH.1 hnd).2.1).1
     ·simp at ho
  ·have hb1:(s.own == 1)=false:=by simpa using h1
   simp only[h1,if_false,hb1,dF]at hr ho;simp only[aB,aY]at ho;obtain⟨rfl,rfl⟩:=ho;obtain⟨n,hr⟩:=hr;refine⟨[],?_,OSp.nil c seen⟩;unfold ResL;simp only[ls,ro];rw[if_neg (by decide),if_neg (by decide)];exact⟨trivial,trivial,n,RepL_ro hr⟩
 ·simp at ho
theorem zY {c:Ct cx.ty}(h:Wf cx c){D F:List Nat}(hD:∀ n,n∈c.D↔n∈D)(hF:∀ n,n∈c.F↔n∈F):∀ (ts:List TypeId) (l l':List (L cx.ty)) (us:List Value) (seen seen':List Nat),RepLs cx c l us->zZ P D F ts seen l=some (l',seen')->
  ∃ fps,ResLs cx c.w (Rd c) l' us fps/\OSp c seen seen' (List.flatten fps)
 | [],[],l',us,seen,seen',hr,ho=>by
  simp only[zZ,aB,aY]at ho;obtain⟨rfl,rfl⟩:=ho;exact⟨[],⟨hr.1,rfl,λj a u f h=>by simp at h⟩,OSp.nil c seen⟩
 | t::ts,l::r,l',us,seen,seen',hr,ho=>by
  match us,hr with
  | [],hr=>simp[RepLs]at hr
  | u::us,hr=>
   simp only[zZ]at ho;split at ho
   ·rename_i l1 s1 e1;split at ho
    ·rename_i r1 s2 e2;simp only[aB,aY]at ho;obtain⟨rfl,rfl⟩:=ho;obtain⟨f,h1,h2⟩:=aBP h hD hF (hr.2 0 l u rfl rfl) e1;obtain⟨fps,h3,h4⟩:=zY h hD hF ts r r1 us s1 s2 ⟨by simpa using hr.1,λj a b e1 e2=>hr.2 (j+1) a b (by simpa using e1) (by simpa using e2)⟩ e2;refine⟨f::fps,⟨by simp[h3.1],by simp[h3.2.1],λj a b f' e1 e2 e3=>?_⟩,by rw[dA];exact h2.app h h4⟩;cases j with
     | zero=>
      simp only[aP,aB]at e1 e2 e3;subst e1;subst e2;subst e3;exact h1
     | succ j=>exact h3.2.2 j a b f' (by simpa using e1) (by simpa using e2) (by simpa using e3)
    ·simp at ho
   ·simp at ho
 | [],_::_,_,_,_,_,_,ho=>by simp[zZ]at ho
 | _::_,[],_,_,_,_,_,ho=>by simp[zZ]at ho
theorem aBQ {c:Ct cx.ty}(h:Wf cx c){D F:List Nat}(hD:∀ n,n∈c.D↔n∈D)(hF:∀ n,n∈c.F↔n∈F){t:TypeId}{seen seen':List Nat}{a a':A cx.ty}{u:Value}(hr:RepA cx c a u)(ho:aJQ P D F t seen a=some (a',seen')) :
  ∃ fp,ResA cx c.w (Rd c) a' u fp/\OSp c seen seen' fp:=by
 unfold aJQ at ho;split at ho
 ·split at ho
  ·rename_i l1 s1 e1;simp only[aB,aY]at ho;obtain⟨rfl,rfl⟩:=ho;exact aBP h hD hF hr e1
  ·simp at ho
 ·split at ho
  ·rename_i l1 s1 e1;simp only[aB,aY]at ho;obtain⟨rfl,rfl⟩:=ho;obtain⟨us,hu,hr⟩:=hr;obtain⟨fps,h1,h2⟩:=zY h hD hF _ _ _ us _ _ hr e1;exact⟨_,⟨us,fps,hu,rfl,h1⟩,h2⟩
  ·simp at ho
theorem pG {c:Ct cx.ty}(h:Wf cx c){D F:List Nat}(hD:∀ n,n∈c.D↔n∈D)(hF:∀ n,n∈c.F↔n∈F):∀ (ts:List TypeId) (l l':List (A cx.ty)) (us:List Value) (seen seen':List Nat),RepAs cx c l us->uQ P D F ts seen l=some (l',seen')->
  ∃ fps,ResAs cx c.w (Rd c) l' us fps/\OSp c seen seen' (List.flatten fps)
 | [],[],l',us,seen,seen',hr,ho=>by
  simp only[uQ,aB,aY]at ho;obtain⟨rfl,rfl⟩:=ho;exact⟨[],⟨hr.1,rfl,λj a u f h=>by simp at h⟩,OSp.nil c seen⟩
 | t::ts,l::r,l',us,seen,seen',hr,ho=>by
  match us,hr with
  | [],hr=>simp[RepAs]at hr
  | u::us,hr=>
   simp only[uQ]at ho;split at ho
   ·rename_i l1 s1 e1;split at ho
    ·rename_i r1 s2 e2;simp only[aB,aY]at ho;obtain⟨rfl,rfl⟩:=ho;obtain⟨f,h1,h2⟩:=aBQ h hD hF (hr.2 0 l u rfl rfl) e1;obtain⟨fps,h3,h4⟩:=pG h hD hF ts r r1 us s1 s2 ⟨by simpa using hr.1,λj a b e1 e2=>hr.2 (j+1) a b (by simpa using e1) (by simpa using e2)⟩ e2;refine⟨f::fps,⟨by simp[h3.1],by simp[h3.2.1],λj a b f' e1 e2 e3=>?_⟩,by rw[dA];exact h2.app h h4⟩;cases j with
     | zero=>
      simp only[aP,aB]at e1 e2 e3;subst e1;subst e2;subst e3;exact h1
     | succ j=>exact h3.2.2 j a b f' (by simpa using e1) (by simpa using e2) (by simpa using e3)
    ·simp at ho
   ·simp at ho
 | [],_::_,_,_,_,_,_,ho=>by simp[uQ]at ho
 | _::_,[],_,_,_,_,_,ho=>by simp[uQ]at ho
def aFG (tmps:Array Value):ResultVar->Sem Value
 | .tmp t=>pure (tmps.getD t undef)
 | .cell a t=>do loadVar t (<-asAddr (tmps.getD a undef))
theorem mN (ok:cx.Ok){c:Ct cx.ty}(hw:Wf cx c){slots:List (V cx.ty)}{tmps:Array Value}(hr:∀ t,RepV cx c (slots.getD t aN) (tmps.getD t undef)):∀ (l:List ResultVar) (as:List (A cx.ty)),vT P slots l=some as->
  ∃ us,(l.mapM (aFG tmps)).run P c.w=.ok us c.w/\RepAs cx c as us
 | [],as,h=>by
  simp only[vT,aB]at h;subst h;exact⟨[],by simp,rfl,λj a u h=>by simp at h⟩
 | .tmp t::r,as,h=>by
  simp only[vT]at h;split at h
  ·rename_i a as' e1 e2;simp only[aB]at h;subst h;obtain⟨us,h1,h2⟩:=mN ok hw hr r as' e2;have hrt:=hr t;rw[e1]at hrt;refine⟨tmps.getD t undef::us,?_,by simp[h2.1],λj a b k1 k2=>?_⟩
   ·simp only[tD,aFG,Sem.run_bind,Sem.run_pure,Result.andThen_ok,h1]
   ·cases j with
    | zero=>
     simp only[aP,aB]at k1 k2;subst k1;subst k2;exact hrt
    | succ j=>exact h2.2 j a b (by simpa using k1) (by simpa using k2)
  ·simp at h
 | .cell t ty::r,as,h=>by
  simp only[vT]at h;split at h
  ·rename_i p as' e1 e2;split at h
   ·rename_i hk;simp only[aJ,beq_iff_eq]at hk;obtain⟨hk,hi0⟩:=hk;split at h
    ·rename_i a ha;simp only[aB]at h;subst h;obtain⟨us,h1,h2⟩:=mN ok hw hr r as' e2;have hrt:=hr t;rw[e1]at hrt;have hrt:RepP cx c p (tmps.getD t undef):=hrt;obtain⟨b,o,hu,hcells⟩:=zU ok hw hrt (by simp[nY,hk,hi0]) (λn hn=>by simp[vX,hk]at hn);have hpc:pF cx p=p.cells:=by simp[pF,hk]
     rw[hpc]at hcells;obtain⟨u,hrun,hrep⟩:=aDU hcells ha;refine⟨u::us,?_,by simp[h2.1],λj a b k1 k2=>?_⟩
     ·simp only[tD,aFG,hu,asAddr,Sem.run_bind,Sem.run_pure,Result.andThen_ok,hrun,h1]
     ·cases j with
      | zero=>
       simp only[aP,aB]at k1 k2;subst k1;subst k2;exact hrep
      | succ j=>exact h2.2 j a b (by simpa using k1) (by simpa using k2)
    ·simp at h
   ·simp at h
  ·simp at h
theorem tL (fn:Func)(tmps:Array Value):results fn tmps=(do
  let vs <-fn.results.toList.mapM (aFG tmps)
  pure (if h:vs.length=1 then vs[0]else .tuple vs.toArray)):=by
 unfold results;rw[show fn.results=fn.results.toList.toArray by simp];simp only[List.mapM_toArray,bind_map_left,cR,List.getElem_toArray]
 rfl
def aCx {ty:Nat->Type}:L ty->Bool
 | some (.inr s)=>s.own == 0
 | _=>true
def aEP {ty:Nat->Type}(a:A ty):Bool:=
 match a with
 | .inl l=>aCx l
 | .inr l=>l.all aCx
def vZ {ty:Nat->Type}(v:V ty):Bool:=
 match v with
 | .inl a=>aEP a
 | .inr (.inl l)=>l.all aEP
 | _=>false
theorem aBU {w:World}{S:Nat->Prop}{l:L cx.ty}{u:Value}{f:List Nat}(hn:aCx l=true)(h:ResL cx w S l u f):f=[]:=by
 match l,h,hn with
 | some (.inl v),h,_=>exact h.2
 | some (.inr s),h,hn=>
  have:s.own=0:=by simpa[aCx]using hn
  unfold ResL at h;simp only[this]at h;exact h.2.1
theorem aBV {w:World}{S:Nat->Prop}{a:A cx.ty}{u:Value}{f:List Nat}(hn:aEP a=true)(h:ResA cx w S a u f):f=[]:=by
 match a,h,hn with
 | .inl l,h,hn=>exact aBU hn h
 | .inr l,⟨us,fps,hu,hf,h1,h2,h⟩,hn=>
  rw[hf];refine lZ λf hf'=>?_
  obtain⟨j,hj⟩:=dW hf';have hjl:j < l.length:=by rw[<-h2];exact(aI.1 hj).1
  have hju:j < us.length:=by omega
  exact aBU (cG.1 hn _ (iD hjl)) (h j _ _ f (aC hjl) (aC hju) hj)
theorem ResL_mono {w:World}{S S':Nat->Prop}(hS:∀ b,S b->S' b){l:L cx.ty}{u:Value}{f:List Nat}(h:ResL cx w S l u f):ResL cx w S' l u f:=by
 match l,h with
 | some (.inl v),h=>exact h
 | some (.inr s),h=>
  simp only[ResL]at h ⊢;split at h
  ·rename_i hs;rw[if_pos hs];exact h
  ·rename_i hs;rw[if_neg hs];split at h
   ·rename_i hs4;rw[if_pos hs4];exact⟨h.1,h.2.mono (λ_ _=>rfl) (λ_ _=>rfl) hS⟩
   ·rename_i hs4;rw[if_neg hs4];obtain⟨h0,hf,n,h⟩:=h;exact⟨h0,hf,n,RepL_mono cx (λ_ _=>rfl) hS n _ u h⟩
theorem ResA_mono {w:World}{S S':Nat->Prop}(hS:∀ b,S b->S' b){a:A cx.ty}{u:Value}{f:List Nat}(h:ResA cx w S a u f):ResA cx w S' a u f:=by
 match a,h with
 | .inl l,h=>exact ResL_mono hS h
 | .inr l,⟨us,fps,hu,hf,h1,h2,h⟩=>exact⟨us,fps,hu,hf,h1,h2,λj a b f' e1 e2 e3=>ResL_mono hS (h j a b f' e1 e2 e3)⟩
theorem aBO (ok:cx.Ok){fn:Func}{st:St cx.ty}{c:Ct cx.ty}{a:Act}(h:RS cx c st a){r:V cx.ty}(ho:bI P fn st=some r)(hmix:jE r=true\/vZ r=true) :
  ∃ u,(results fn a.tmps).run P c.w=.ok u c.w/\ResV cx c.w c.S c.N r u:=by
 unfold bI at ho;have fin1:∀ {a':A cx.ty} {u:Value} {fp seen':List Nat},ResA cx c.w (Rd c) a' u fp->OSp c [] seen' fp->r=.inl a'->ResV cx c.w c.S c.N r u:=by
  intro a' u fp seen' h1 h2 hra;subst hra;refine⟨fp,h2.nd,λb hb=>?_,?_⟩
  ·obtain⟨tk,k1,_,_,k4⟩:=h2.src b hb;exact h.wf.bound tk k1 b k4
  ·rcases hmix with hm | hm
   ·exact mO hm h1
   ·have:=aBV hm h1;subst this;exact ResA_mono (λb hb=>by
     rcases hb.2.1 with hs | hs
     ·exact .inl hs
     ·exact .inr ⟨hs,hb.1,by simp⟩) h1
 have fin2:∀ {l:List (A cx.ty)} {us:List Value} {fps:List (List Nat)} {seen':List Nat},ResAs cx c.w (Rd c) l us fps->OSp c [] seen' (List.flatten fps)->r=.inr (.inl l)->ResV cx c.w c.S c.N r (.tuple us.toArray):=by
  intro l us fps seen' h1 h2 hra;subst hra;refine⟨List.flatten fps,h2.nd,λb hb=>?_,us,fps,rfl,rfl,h1.1,h1.2.1,λj a b f e1 e2 e3=>?_⟩
  ·obtain⟨tk,k1,_,_,k4⟩:=h2.src b hb;exact h.wf.bound tk k1 b k4
  ·have hj:=h1.2.2 j a b f e1 e2 e3;rcases hmix with hm | hm
   ·exact mO (cG.1 hm a (bC e1)) hj
   ·have hfl:List.flatten fps=[]:=by
     refine lZ λf hf'=>?_
     obtain⟨i,hi⟩:=dW hf';have hil:i < l.length:=by rw[<-h1.2.1];exact(aI.1 hi).1
     have hiu:i < us.length:=by rw[h1.1];exact hil
     exact aBV (cG.1 hm _ (iD hil)) (h1.2.2 i _ _ f (aC hil) (aC hiu) hi)
    rw[hfl];exact ResA_mono (λb hb=>by
     rcases hb.2.1 with hs | hs
     ·exact .inl hs
     ·exact .inr ⟨hs,hb.1,by simp⟩) hj
 rw[tL];split at ho
 ·rename_i x hx;split at ho
  ·rename_i a' s1 e1;simp only[aB]at ho;obtain⟨us,h1,h2⟩:=mN (P:=P) ok h.wf h.rep _ _ hx
   match us,h2 with
   | [u],h2=>
    obtain⟨fp,h3,h4⟩:=aBQ h.wf h.dead h.frz (h2.2 0 x u rfl rfl) e1;refine⟨u,?_,fin1 h3 h4 ho.symm⟩;simp[h1]
   | [],h2=>simp[RepAs]at h2
   | _::_::_,h2=>simp[RepAs]at h2
  ·simp at ho
 ·rename_i as hne hx;split at ho
  ·rename_i as' s1 e1;simp only[aB]at ho;obtain⟨us,h1,h2⟩:=mN (P:=P) ok h.wf h.rep _ _ hx;obtain⟨fps,h3,h4⟩:=pG h.wf h.dead h.frz _ _ _ us _ _ h2 e1;refine⟨.tuple us.toArray,?_,fin2 h3 h4 ho.symm⟩;have hlen:¬ us.length=1:=by
    intro hl;rw[h2.1]at hl
    match as,hl,hne with
    | [x],_,hne=>exact hne x rfl
   simp[h1,hlen]
  ·simp at ho
 ·simp at ho
theorem vR (ok:cx.Ok)(hZ:cx.POk P)(hm:P.follows .mixedOrders=true){f:FuncId}{fn:Func}(hf:P.funcs[f]?=some fn){F:List (A cx.ty)->Option (Bool×V cx.ty)}
  (h:∀ as r,F as=some (true,r)->∃ (ev:Env cx) (L:Nat),KOk P cx ev.Kc/\KwOk P cx ev.Kw/\eT P ev (bH L) fn as=some r/\(jE r=true\/vZ r=true)):Sat P cx f F:=by
 intro w A0 l us r hA hargs hF;obtain⟨ev,L,hK,hKw,hev,hmix⟩:=h l r hF;unfold eT at hev;split at hev
 ·rename_i code hcode
  let c:Ct cx.ty:={ T:=[],D:=[],F:=[],w:=w,S:=A0,N:=λb=>w.heap.size<=b,K:=[] }
  have hwf:Wf cx c:=⟨by simp[c],by simp[c],by simp[c],by simp[c],λb hb=>by have:=hA b hb;show ¬ w.heap.size<=b;omega,by simp[c],λb hb=>hb⟩
  have hrd:∀ b,A0 b->Rd c b:=λb hb=>⟨hA b hb,.inl hb,by simp[c]⟩
  refine calls_of_wp hf hcode ?_;refine oC ok hZ ev L hK hKw hm (W:=w) (S:=A0) (N:=λb=>w.heap.size<=b) (KK:=[]) code 0 _ _ (λe c' st' a' h1 h2 h3 h4 h5=>?_) _ c _ ⟨hwf,?_,λt=>?_,rfl,λn=>by simp[c],λn=>by simp[c],λn hn=>?_,λp u hp=>by simp[c]at hp,PrOK.nil,PdOK.none⟩ rfl ⟨rfl,rfl⟩ (Kept.refl _ _) hev
  ·have fin:bI P fn st'=some r->a'.defers=[]/\∃ v,(results fn a'.tmps).run P c'.w=.ok v c'.w/\(∃ u,Ending.returned v=.returned u/\Below w.heap.size w c'.w/\ResV cx c'.w A0 (λb=>w.heap.size<=b) r u):=by
    intro ho;obtain⟨u,h6,h7⟩:=aBO ok h1 ho hmix;rw[h2,h3.1]at h7;exact⟨h1.defers,u,h6,u,rfl,h4.low,h7⟩
   cases e with
   | normal=>exact fin h5
   | ret=>exact fin h5
   | _=>simp[aIB,Kn.on]at h5
  ·simp[hargs.1]
  ·show RepV cx c _ _;by_cases ht:t < l.length
   ·have htu:t < us.length:=by rw[hargs.1];exact ht
    have e1:(l.map sP++List.replicate (fn.ntmps-l.length) (aN:V cx.ty)).getD t aN=sP l[t]:=by
     simp[List.getD,bM,ht]
    have e2:(us.toArray++Array.replicate (fn.ntmps-us.toArray.size) undef).getD t undef=us[t]:=by
     simp[aZ,fA,htu]
    rw[e1,e2];exact ArgA.repV hrd (hargs.2 t _ _ (aC ht) (aC htu))
   ·have e1:(l.map sP++List.replicate (fn.ntmps-l.length) (aN:V cx.ty)).getD t aN=aN:=by
     simp only[List.getD];rw[bJ (by simp;omega)];simp only[dK,jA];split<;>rfl
    rw[e1]
    trivial
  ·rcases hn with⟨tk,ht,_⟩ | hn | hn
   ·simp[c]at ht
   ·simp[c]at hn
   ·simp[c]at hn
 ·simp at hev
end
structure Cd (ty:Nat->Type) (T:Type) where
 dflt:T
 size:Nat
 flat:Bool
 dom:Bool
 enc:Bool->T->List (L ty)
 dec:List (L ty)->Option T
 len:∀ o x,(enc o x).length=size
 leaf:∀ o x l,l∈enc o x->(∃ v,l=some (.inl v)/\v.oneCell'=true)\/(∃ s,l=some (.inr s)/\s.own=(if o then 2 else 0))
 wk:∀ o o' x,(enc o x).map (weak o')=enc o' x
 back:∀ l x o,dec l=some x->l.map (VM.weak o)=enc o x
 flt:∀ o x,flat=true->∀ l∈enc o x,∃ v,l=some (.inl v)
def aNU {ty:Nat->Type}{T:Type}(z:T):Cd ty T:=
 {dflt:=z,size:=0,flat:=false,dom:=false,enc:=λ_ _=>[],dec:=λ_=>none,len:=λ_ _=>rfl,
  leaf:=λ_ _ _ h=>by simp at h,wk:=λ_ _ _=>rfl,back:=λ_ _ _ h=>by simp at h,flt:=λ_ _ h=>by simp at h }
def aKl (k:IntKind)(v:Value):Option Int:=match v with | .int k' x=>if k'=k then some x else none | _=>none
def lG {ty:Nat->Type}(k:IntKind):Cd ty Int:=
 {dflt:=0,size:=1,flat:=true,dom:=true,enc:=λ_ x=>[lv (.int k x)],
  dec:=λl=>match l with | [some (.inl v)]=>aKl k v | _=>none,len:=λ_ _=>rfl,
  leaf:=λ_ x l h=>by
   simp only[aO]at h;exact .inl ⟨_,h,rfl⟩
  wk:=λ_ _ _=>rfl
  back:=λl x o h=>by
   split at h
   ·rename_i v;unfold aKl at h;split at h
    ·split at h
     ·rename_i hk;subst hk;cases h
      rfl
     ·simp at h
    ·simp at h
   ·simp at h
  flt:=λ_ x _ l h=>by simp only[aO]at h;exact⟨_,h⟩ }
def aIU {ty:Nat->Type}:Cd ty Bool:=
 {dflt:=false,size:=1,flat:=true,dom:=true,enc:=λ_ x=>[lv (.bool x)],
  dec:=λl=>match l with | [some (.inl (.bool x))]=>some x | _=>none,len:=λ_ _=>rfl,
  leaf:=λ_ x l h=>by
   simp only[aO]at h;exact .inl ⟨_,h,rfl⟩
  wk:=λ_ _ _=>rfl
  back:=λl x o h=>by
   split at h
   ·cases h;rfl
   ·simp at h
  flt:=λ_ x _ l h=>by simp only[aO]at h;exact⟨_,h⟩ }
def aBC {ty:Nat->Type}(e:Nat)(s:SlD ty):Option (List (ty e)):=if h:s.e=e then some (h▸s.xs)else none
def aB8 {ty:Nat->Type}(e:Nat):Cd ty (List (ty e)):=
 {dflt:=[],size:=1,flat:=false,dom:=false,enc:=λo x=>[ls { own:=if o then 2 else 0,nm:=0,e:=e,o:=o,xs:=x }],
  dec:=λl=>match l with | [some (.inr s)]=>aBC e s | _=>none,len:=λ_ _=>rfl,
  leaf:=λ_ x l h=>by
   simp only[aO]at h;exact .inr ⟨_,h,rfl⟩
  wk:=λ_ _ _=>rfl
  back:=λl x o h=>by
   split at h
   ·rename_i s;unfold aBC at h;split at h
    ·rename_i he;obtain⟨own,nm,e2,o2,xs⟩:=s;simp only at he;subst he;cases h
     rfl
    ·simp at h
   ·simp at h
  flt:=λ_ x h=>by simp at h }
def jJ {ty:Nat->Type}{T U:Type}(a:Cd ty T)(b:Cd ty U):Cd ty (T×U):=
 {dflt:=(a.dflt,b.dflt),size:=a.size+b.size,flat:=a.flat&&b.flat,dom:=a.dom&&b.dom,enc:=λo x=>a.enc o x.1++b.enc o x.2,
  dec:=λl=>match a.dec (l.take a.size),b.dec (l.drop a.size)with
   | some x,some y=>some (x,y)
   | _,_=>none
  len:=λo x=>by rw[aW,a.len,b.len]
  leaf:=λo x l h=>by
   rcases aA.1 h with h | h
   ·exact a.leaf o x.1 l h
   ·exact b.leaf o x.2 l h
  wk:=λo o' x=>by rw[dN,a.wk,b.wk]
  back:=λl x o h=>by
   split at h
   ·rename_i x1 x2 h1 h2;cases h;show l.map (weak o)=a.enc o x1++b.enc o x2;rw[<-a.back _ x1 o h1,<-b.back _ x2 o h2,<-dN,dH]
   ·simp at h
  flt:=λo x h l hl=>by
   simp only[aJ]at h;rcases aA.1 hl with hl | hl
   ·exact a.flt o x.1 h.1 l hl
   ·exact b.flt o x.2 h.2 l hl }
def Cx.of {ty:Nat->Type}(cd:(e:Nat)->Cd ty (ty e)):Cx:=
 {ty:=ty,dflt:=λe=>(cd e).dflt,size:=λe=>(cd e).size,flat:=λe=>(cd e).flat,dom:=λe=>(cd e).dom,enc:=λe=>(cd e).enc,dec:=λe=>(cd e).dec }
theorem Cx.of_ok {ty:Nat->Type}(cd:(e:Nat)->Cd ty (ty e)):(Cx.of cd).Ok:=
 ⟨λe=>(cd e).len,λe=>(cd e).leaf,λe=>(cd e).wk,λe=>(cd e).back,λe o x h=>(cd e).flt o x h⟩
end Go.VM
