/- MHx -/
import Derived.Test.YtiepfeebmnfbdaaGreatMH
namespace Go.Proofs.YtiepfeebmnfbdaaGreat
set_option linter.unusedSimpArgs false
open Go Go.RowKit
abbrev HH:=Nat->Option Obj
structure XS where
 st:St
 H:HH
abbrev Tr:=(V->HH->Prop)->Prop
structure Fx where
 F:FuncId->Option (U->HH->Tr)
 D:Nat->Bool
 I:TypeId->String->Option (Value->U->HH->Tr):=fun _ _=>none
 Z:Nat->Bool:=fun _=>false
 any:Nat->Bool:=fun _=>false
 P:Nat->Option (Code×(XS->(Out->XS->Prop)->Prop)):=fun _=>none
 Y:Oper->(Operand->V)->HH->Option Tr:=fun _ _ _=>none
def rowO(l:List Value)(ty:TypeId):Obj:= .cells l.toArray ty (0,0)
def jG(H:HH)(g:Nat):Option (List Value×TypeId):=match H g with
 |some (.cells vals ty (0,0))=>some (vals.toList,ty)
 |_=>none
variable{H:HH}{g:Nat}
theorem bf{l:List Value}{ty:TypeId}(h:H g=some (rowO l ty)):jG H g=some (l,ty):=by unfold jG;rw[h];simp[rowO]
theorem l8{c:List Value×TypeId}(h:jG H g=some c):H g=some (.cells c.1.toArray c.2 (0,0)):=by
 unfold jG at h;split at h
 . rename_i vals ty e;cases h;rw[e]
 . cases h
def fU(l:List Value)(off:Nat)(xs:List Value):List Value:=l.take off++xs++l.drop (off+xs.length)
theorem dh(l:List Value)(i:Nat)(v:Value)(h:i<l.length):fU l i [v]=l.set i v:=by unfold fU;rw[List.set_eq_take_append_cons_drop,adl h];simp
variable{v:Value}
theorem GD(h:v.oneCell'=true):v.cells= #[v]:=by cases v<;>first|rfl|cases h
def KW:U->Option (List Value)
 |[]=>some []
 | .x v::us=>if v.oneCell'=true then (KW us).map (v:: ·) else none
 | .sl true _ _ _::us=>(KW us).map (.slice none 0 0:: ·)
 |_::_=>none
def nP:V->Option (List Value)
 | .x v=>KW [.x v]
 | .sl true z es t=>KW [.sl true z es t]
 | .agg us=>KW us
 |_=>none
def jR{α:Type}(o:Option α)(K:α->Prop):Prop:=match o with
 |some a=>K a
 |none=>False
variable{α:Type}
theorem GE(a:α)(K:α->Prop):jR (some a) K=K a:=rfl
theorem BR{o o':Option α}(h:o=o')(K:α->Prop):jR o K=jR o' K:=by rw[h]
theorem dx{α:Type}{o:Option α}{K:α->Prop}(h:jR o K):∃a,o=some a∧K a:=by
 cases o with
 |none=>exact h.elim
 |some a=>exact⟨a,rfl,h⟩
def KX(P:Program)(t:TypeId)(f:Nat):Option Nat:=match P.underlying t with
 | some (.struct fs)=>match fs[f]? with
   | some fd=>match bo P fd.type with
     |some (_+1)=>some fd.offset
     |_=>none
   |none=>none
 |_=>none
def rO(P:Program)(t:TypeId):Option Nat:=match P.underlying t with
 |some (.slice el)=>bo P el
 |_=>none
def uG(P:Program)(t:TypeId)(H:HH):V->Option Tr
 | .x (.pointer (some ⟨g,off,none⟩))=>some fun T=>jR (jG H g) fun c=>jR (dp P t (c.1.map V.x) off) fun u=>T u H
 |_=>none
def qu(P:Program)(t:TypeId)(H:HH)(y:V):V->Option Tr
 | .x (.pointer (some ⟨g,off,none⟩))=>some fun T=>jR (jG H g) fun c=>jR (nP y) fun xs=>(bo P t=some xs.length∧off+xs.length<=c.1.length)∧T .undef (upd H g (some (rowO (fU c.1 off xs) c.2)))
 |_=>none
def qw(P:Program)(t:TypeId)(f:Nat)(H:HH):V->Option Tr
 | .x (.pointer (some ⟨g,off,none⟩))=>some fun T=>jR (KX P t f) fun k=>T (.x (.pointer (some ⟨g,off+k,none⟩))) H
 |_=>none
def BS(H:HH):V->Option Tr
 | .x (.pointer (some p))=>some fun T=>T (.x (.pointer (some p))) H
 |_=>none
def qx(P:Program)(t:TypeId)(H:HH):V->V->Option Tr
 | .x (.slice (some ⟨g,off,none⟩) len _),.x (.int _ i)=>some fun T=>jR (rO P t) fun z=>(0<=i∧i<len)∧T (.x (.pointer (some ⟨g,off+i.toNat*z,none⟩))) H
 |_,_=>none
def BT(P:Program)(t:TypeId)(H:HH):V->Option Tr
 | .x (.slice _ len _)=>some fun T=>jR (rO P t) fun _=>T (.i (len:Int)) H
 |_=>none
def SY(t:TypeId)(H:HH)(xs:Option (List Value)):Tr:=fun T=>jR xs fun l=>∀g,H g=none->T (.x (.p g)) (upd H g (some (rowO l t)))
def Pv(P:Program)(t:TypeId):Option (TypeId×Nat×Nat×Value):=match P.underlying t with
 | some (.slice el)=>match P.info? el with
   |some i=>i.zero.map fun z=>(el,i.size,i.bytes,z)
   |none=>none
 |_=>none
def uH(P:Program)(t:TypeId)(H:HH):V->V->Option Tr
 | .x (.int k n),.x (.int k' n')=>some fun T=>jR (Pv P t) fun c=>(k=k'∧n=n'∧0<=n∧(c.2.2.1:Int)*n<=281474976710656∧n<=9223372036854775807)∧∀g,H g=none->T (.x (.s g n.toNat n.toNat)) (upd H g (some (rowO (madeCells c.2.2.2.cells (n.toNat*c.2.1)).toList c.1)))
 |_,_=>none
def uI(F:FuncId->Option (U->HH->Tr))(H:HH)(us:U):Option FuncId->Option Tr
 | some f=>match F f with
   |some C=>some fun T=>us.all V.dat=true∧C us H T
   |none=>none
 |none=>none
def rP(P:Program)(t:TypeId):Bool:=match P.underlying t with
 |some (.interface _)=>false
 |some _=>true
 |none=>false
def uJ(P:Program)(t:TypeId)(H:HH):V->V->Option Tr
 | .x (.slice (some ⟨g,off,none⟩) _ cap),.x (.int _ k)=>some fun T=>jR (rO P t) fun _=>(0<=k∧k<=cap)∧T (.x (.slice (some ⟨g,off,none⟩) k.toNat cap)) H
 |_,_=>none
def qy(P:Program)(t:TypeId)(H:HH):V->Option Tr
 | .x v=>some fun T=>rP P t=true∧T (.x (.iface t v)) H
 |_=>none
def nQ(P:Program)(t:TypeId)(H:HH):V->Option Tr
 | .x (.iface t' v)=>some fun T=>(rP P t=true∧t'=t)∧T (.x v) H
 |_=>none
def BU(I:TypeId->String->Option (Value->U->HH->Tr))(name:String)(H:HH)(us:U):V->Option Tr
 | .x (.iface t v)=>match I t name with
   |some C=>some fun T=>us.all V.dat=true∧C v us H T
   |none=>none
 |_=>none
def KY(P:Program)(t:TypeId):Bool:=match P.underlying t with
 | some (.slice el)=>match P.info? el with
   | some i=>match i.zero with
     |some z=>decide (i.size=1∧z.cells.size=1∧i.bytes=8)
     |none=>false
   |none=>false
 |_=>false
def ac2(H:HH)(v:Value)(x:Int)(T:V->HH->Prop):Prop:=∃es,RowJ H v es∧es.length+1<=100000000∧∀v' g ob,blkOf v'=some g->(blkOf v=some g∨H g=none)->RowJ (upd H g (some ob)) v' (es++[x])->T (.x v') (upd H g (some ob))
def BV(P:Program)(t:TypeId)(H:HH):V->V->Option Tr
 | .x v,.sl false 1 [.x (.int .i64 x)] _=>some fun T=>KY P t=true∧ac2 H v x T
 |_,_=>none
noncomputable def x9(P:Program)(F:Fx)(o:Oper)(ρ:Operand->V)(H:HH):Option Tr:=
 match o.op with
 | .load t x=>uG P t H (ρ x)
 | .store t x y=>match o.dst with
   |none=>qu P t H (ρ y) (ρ x)
   |some _=>none
 | .fieldAddr t x f=>qw P t f H (ρ x)
 | .nilCheck x=>BS H (ρ x)
 | .indexAddr t x i=>qx P t H (ρ x) (ρ i)
 | .call {callee:= .builtin .len,args,argTypes}=>match args.toList,argTypes.toList with
   |[x],[t]=>BT P t H (ρ x)
   |_,_=>none
 | .box t x=>match (o.dst.map F.D).getD false with
   |true=>some (SY t H (nP (ρ x)))
   |false=>none
 | .makeSlice t l c=>match (o.dst.map F.D).getD false with
   |true=>uH P t H (ρ l) (ρ c)
   |false=>none
 | .call {callee:= .value c,args,argTypes:=_}=>uI F.F H (args.toList.map fun x=>(ρ x).bare) (Al (ρ c))
 | .call {callee:= .invoke x name,args,argTypes:=_}=>BU F.I name H (args.toList.map fun x=>(ρ x).bare) (ρ x)
 | .call {callee:= .builtin .append,args,argTypes}=>match args.toList,argTypes.toList with
   | [x,y],[t,t']=>match decide (t=t') with
     |true=>BV P t H (ρ x) (ρ y)
     |false=>none
   |_,_=>none
 | .slice t x none (some k) none=>uJ P t H (ρ x) (ρ k)
 | .makeInterface t x=>qy P t H (ρ x)
 | .typeAssert x _ t ok=>match ok with
   |false=>nQ P t H (ρ x)
   |true=>none
 |_=>none
def TN(a b:Option Tr):Option Tr:=match a with
 |some T=>some T
 |none=>b
theorem yb(b:Option Tr):TN none b=b:=rfl
theorem GF{a a':Option Tr}(h:a=a')(b:Option Tr):TN a b=TN a' b:=by rw[h]
noncomputable def rQ(P:Program)(F:Fx)(o:Oper)(ρ:Operand->V)(H:HH):Option Tr:=TN (F.Y o ρ H) (x9 P F o ρ H)
def fo(E:Env)(F:Fx)(ops:Array Oper):List Oper->XS->(XS->Prop)->Prop
 |[],s,K=>K s
 | o::l,s,K=>match cu ops s.st.t o.guard with
   |some b=>(b=true->match rQ E.P F o (ev E s.st) s.H with
    |some T=>T fun v H'=>fo E F ops l ⟨s.st.put o.dst v.bare,H'⟩ K
    | none=>match dt E o s.st with
      |some st'=>fo E F ops l ⟨st',s.H⟩ K
      |none=>False)∧(b=false->fo E F ops l ⟨s.st.put o.dst (.x (.tuple #[])),s.H⟩ K)
   |none=>False
def sY(E:Env)(F:Fx)(ops:Array Oper)(l:List Oper)(H:HH)(K:XS->Prop):Option St->Prop
 |some st'=>fo E F ops l ⟨st',H⟩ K
 |none=>False
def mS(E:Env)(F:Fx)(ops:Array Oper)(o:Oper)(l:List Oper)(s:XS)(K:XS->Prop):Option Tr->Prop
 |some T=>T fun v H'=>fo E F ops l ⟨s.st.put o.dst v.bare,H'⟩ K
 |none=>sY E F ops l s.H K (dt E o s.st)
def ki(E:Env)(F:Fx)(ops:Array Oper)(o:Oper)(l:List Oper)(s:XS)(K:XS->Prop):Option Bool->Prop
 |some b=>(b=true->mS E F ops o l s K (rQ E.P F o (ev E s.st) s.H))∧(b=false->fo E F ops l ⟨s.st.put o.dst (.x (.tuple #[])),s.H⟩ K)
 |none=>False
section
variable(E:Env)(F:Fx)(ops:Array Oper)(l:List Oper)(s:XS)(K:XS->Prop)(o:Oper)(H:HH)
theorem K0:fo E F ops [] s K=K s:=rfl
theorem mT:fo E F ops (o::l) s K=ki E F ops o l s K (cu ops s.st.t o.guard):=by
 unfold fo ki;cases cu ops s.st.t o.guard with
 |none=>rfl
 |some b=>simp only[mS];congr 2
theorem GG(d:Option Tmp)(op:Op)(ty:TypeId)(pos:String)(af:Array Edge):fo E F ops (⟨d,op,ty,pos,af,none⟩::l) s K=mS E F ops ⟨d,op,ty,pos,af,none⟩ l s K (rQ E.P F ⟨d,op,ty,pos,af,none⟩ (ev E s.st) s.H):=by rw[mT];simp only[ki,cu,true_implies,Bool.true_eq_false,false_implies,aeQ]
theorem BW(d:Option Tmp)(op:Op)(ty:TypeId)(pos:String)(af:Array Edge)(g:Nat×Bool):fo E F ops (⟨d,op,ty,pos,af,some g⟩::l) s K=ki E F ops ⟨d,op,ty,pos,af,some g⟩ l s K (cu ops s.st.t (some g)):=mT ..
theorem K1:fo E F ops (o::l) s K=fo E F ops [o] s fun s'=>fo E F ops l s' K:=by
 rw[mT,mT];cases cu ops s.st.t o.guard with
 |none=>rfl
 | some b=>
   unfold ki mS;cases rQ E.P F o (ev E s.st) s.H with
   |some T=>rfl
   |none=>unfold sY;cases dt E o s.st<;>rfl
theorem BY(st':St):sY E F ops l H K (some st')=fo E F ops l ⟨st',H⟩ K:=rfl
theorem BZ(T:Tr):mS E F ops o l s K (some T)=T fun v H'=>fo E F ops l ⟨s.st.put o.dst v.bare,H'⟩ K:=rfl
theorem qA:mS E F ops o l s K none=sY E F ops l s.H K (dt E o s.st):=rfl
theorem qB:ki E F ops o l s K (some true)=mS E F ops o l s K (rQ E.P F o (ev E s.st) s.H):=by simp[ki]
theorem oC:ki E F ops o l s K (some false)=fo E F ops l ⟨s.st.put o.dst (.x (.tuple #[])),s.H⟩ K:=by simp[ki]
theorem yd{r r':Option St}(h:r=r'):sY E F ops l H K r=sY E F ops l H K r':=by rw[h]
theorem ye{r r':Option Tr}(h:r=r'):mS E F ops o l s K r=mS E F ops o l s K r':=by rw[h]
theorem yf{r r':Option Bool}(h:r=r'):ki E F ops o l s K r=ki E F ops o l s K r':=by rw[h]
end
def K2{X:Type}(T:X->List (Nat×V))(B:X->List (Nat×U))(J:X->HH->Prop)(μ:X->Nat)(n:Nat)(s:XS):Prop:=∃x',(gw s.st (T x')∧gL s.st (B x')∧J x' s.H)∧μ x'<n
def l9{X:Type}(T:X->List (Nat×V))(B:X->List (Nat×U))(J:X->HH->Prop)(μ:X->Nat)(n:Nat)(K:Out->XS->Prop):Out->XS->Prop
 | .normal,s=>K2 T B J μ n s
 | .ret,s=>K .ret s
 | .exit id,s=>K (.exit id) s
section
variable{X:Type}(T:X->List (Nat×V))(B:X->List (Nat×U))(J:X->HH->Prop)(μ:X->Nat)(n:Nat)(K:Out->XS->Prop)(s:XS)
theorem rT:l9 T B J μ n K .normal s=K2 T B J μ n s:=rfl
theorem B0:l9 T B J μ n K .ret s=K .ret s:=rfl
theorem yg(id:Nat):l9 T B J μ n K (.exit id) s=K (.exit id) s:=rfl
variable{o o':Out}
theorem uK(h:o=o'):l9 T B J μ n K o s=l9 T B J μ n K o' s:=by rw[h]
end
def yh(body:XS->(Out->XS->Prop)->Prop)(s:XS)(K:Out->XS->Prop):Prop:=
 ∃ (X:Type) (T:X->List (Nat×V)) (B:X->List (Nat×U)) (J:X->HH->Prop) (μ:X->Nat) (x0:X),(Le (aq (T x0) (B x0)) s.st∧J x0 s.H)∧
   ∀x H,J x H->body ⟨aq (T x) (B x),H⟩ (l9 T B J μ (μ x) K)
variable{body:XS->(Out->XS->Prop)->Prop}{s:XS}{X:Type}
theorem bz{K:Out->XS->Prop}(T:X->List (Nat×V))(B:X->List (Nat×U))(J:X->HH->Prop)(μ:X->Nat)(x0:X)(h0:gw s.st (T x0))(h1:gL s.st (B x0))(hJ:J x0 s.H)(h:∀x H,J x H->body ⟨aq (T x) (B x),H⟩ (l9 T B J μ (μ x) K)):yh body s K:=⟨X,T,B,J,μ,x0,⟨aK h0 h1,hJ⟩,h⟩
theorem nR{K:Out->XS->Prop}(i n tok:Nat){n0:Nat}{k0:Option Nat}(h:s.st.t i= .sl true n0 [] k0)(hr:yh body ⟨⟨upd s.st.t i (.sl true n [] (some tok)),s.st.b⟩,s.H⟩ K):yh body s K:=by
 obtain⟨X,T,B,J,μ,x0,⟨h0,hJ⟩,hx⟩:=hr;refine⟨X,T,B,J,μ,x0,⟨⟨fun j=>?_,h0.b⟩,hJ⟩,hx⟩;have:=h0.t j;simp only[aJ] at this;split at this
 . rename_i e;subst e;rw[h];rcases this with e|e|⟨n1,k1,n2,k2,e,_⟩
   . exact .inl e
   . exact .inr (.inr ⟨_,_,_,_,e,rfl⟩)
   . exact .inr (.inr ⟨_,_,_,_,e,rfl⟩)
 . exact this
def MS(st:St)(val:Nat->V)(ops:List Oper)(L:Nat)(bx:Nat->Option U):St:=⟨(gC st val ops L).t,bx⟩
def B4(d:Option Tmp)(st:St)(v:Nat->V)(bx:Nat->Option U):St:=⟨match d with|some d=>upd st.t d (v d)|none=>st.t,bx⟩
def GH(E:Env)(F:Fx)(ops:List Oper)(s:XS)(K:XS->Prop):Prop:=
 ∃ (need:Nat->List Nat) (I:Nat->HH->(Nat->V)->(Nat->Option U)->Prop) (val0:Nat->V),sX ops=true∧((List.range ops.length).all fun i=>(match ops[i]? with|some o=>(need i).all fun k=>(directV o).any (jF ops k)|none=>true))=true∧I 0 s.H val0 s.st.b∧
   (∀(L i:Nat) (o:Oper) (H:HH) (val:Nat->V) (bx:Nat->Option U),ops[i]?=some o->L.testBit i=false->(∀k∈directV o,L.testBit k=true)->ClosedM ops L->I L H val bx->(∀k∈need i,(gC s.st val ops L).t k=val k)->
    fo E F ⟨ops⟩ [o] ⟨MS s.st val ops L bx,H⟩ fun s'=>∃val',(∀k,o.dst≠some k->val' k=val k)∧∃bx',I (L|||2^i) s'.H val' bx'∧Le (B4 o.dst (gC s.st val ops L) val' bx') s'.st)∧
   ∀H val bx,I (2^ops.length-1) H val bx->∃ts bs,gw (MS s.st val ops (2^ops.length-1) bx) ts∧gL (MS s.st val ops (2^ops.length-1) bx) bs∧K ⟨aq ts bs,H⟩
def sZ(E:Env)(F:Fx)(id:Nat)(ops:Array Oper)(s:XS)(K:Out->XS->Prop):Bool->Prop
 |true=>GH E F ops.toList s (K .normal)
 |false=>run E (.region id ops true) s.st fun o st'=>K o ⟨st',s.H⟩
variable{st:St}{ops:List Oper}{L k:Nat}
theorem fM{val:Nat->V}(h:cN ops L k=true):(gC st val ops L).t k=val k:=adl h
def fp(F:Fx):Code->Option (Code×(XS->(Out->XS->Prop)->Prop))
 | .region id _ _=>F.P id
 |_=>none
def Ed(c' c:Code)(p:Prop):Prop:=c'=c∧p
theorem yi(c' c:Code){p p':Prop}(h:p=p'):Ed c' c p=Ed c' c p':=by rw[h]
def qC(c:Code)(s:XS)(K:Out->XS->Prop)(d:Prop):Option (Code×(XS->(Out->XS->Prop)->Prop))->Prop
 |some p=>Ed p.1 c (p.2 s K)
 |none=>d
def c9(E:Env)(F:Fx):Code->XS->(Out->XS->Prop)->Prop
 | .skip,s,K=>K .normal s
 | .region _ ops false,s,K=>fo E F ops ops.toList s (K .normal)
 | .region id ops true,s,K=>sZ E F id ops s K (F.any id)
 | .seq a b,s,K=>qC (.seq a b) s K (c9 E F a s fun o s'=>match o with
   | .normal=>c9 E F b s' K
   |o=>K o s') (fp F a)
 | .cond c a b,s,K=>match ev E s.st c with
   | .x (.bool t)=>(t=true->c9 E F a s K)∧(t=false->c9 E F b s K)
   |_=>False
 | .block id a,s,K=>c9 E F a s fun o s'=>match o with
   | .exit id'=>if id'=id then K .normal s' else K (.exit id') s'
   |o=>K o s'
 | .loop a,s,K=>yh (c9 E F a) s K
 | .label _,s,K=>K .normal s
 | .exit id,s,K=>K (.exit id) s
 | .ret,s,K=>K .ret s
 |_,_,_=>False
def GI(E:Env)(F:Fx)(b:Code)(K:Out->XS->Prop):Out->XS->Prop
 | .normal,s=>c9 E F b s K
 | .ret,s=>K .ret s
 | .exit id,s=>K (.exit id) s
def nS(id:Nat)(K:Out->XS->Prop):Out->XS->Prop
 | .exit id',s=>if id'=id then K .normal s else K (.exit id') s
 | .normal,s=>K .normal s
 | .ret,s=>K .ret s
def oD(E:Env)(F:Fx)(a b:Code)(s:XS)(K:Out->XS->Prop):V->Prop
 | .x (.bool t)=>(t=true->c9 E F a s K)∧(t=false->c9 E F b s K)
 |_=>False
section
variable(E:Env)(F:Fx)(a b:Code)(s:XS)(K:Out->XS->Prop)(id:Nat)
theorem GJ:c9 E F .skip s K=K .normal s:=rfl
theorem yk(ops:List Oper):c9 E F (.region id ⟨ops⟩ false) s K=fo E F ⟨ops⟩ ops s (K .normal):=rfl
theorem GK(ops:List Oper):c9 E F (.region id ⟨ops⟩ true) s K=sZ E F id ⟨ops⟩ s K (F.any id):=rfl
theorem B6(ops:List Oper):sZ E F id ⟨ops⟩ s K true=GH E F ops s (K .normal):=rfl
theorem ym(ops:List Oper):sZ E F id ⟨ops⟩ s K false=run E (.region id ⟨ops⟩ true) s.st (fun o st'=>K o ⟨st',s.H⟩):=rfl
theorem yp(ops:Array Oper){o o':Bool}(h:o=o'):sZ E F id ops s K o=sZ E F id ops s K o':=by rw[h]
theorem rU(ops:Array Oper)(d:Bool):fp F (.region id ops d)=F.P id:=rfl
theorem B7:fp F (.seq a b)=none:=rfl
theorem yq(c:Operand):fp F (.cond c a b)=none:=rfl
theorem uM:fp F (.block id a)=none:=rfl
theorem B9(c:Code)(d:Prop):qC c s K d none=d:=rfl
theorem Ca(c c':Code)(W:XS->(Out->XS->Prop)->Prop)(d:Prop):qC c s K d (some (c',W))=Ed c' c (W s K):=rfl
theorem yy(c:Code)(d:Prop){o o':Option (Code×(XS->(Out->XS->Prop)->Prop))}(h:o=o'):qC c s K d o=qC c s K d o':=by rw[h]
theorem K3:c9 E F (.seq a b) s K=qC (.seq a b) s K (c9 E F a s (GI E F b K)) (fp F a):=by show qC _ s K (c9 E F a s _) _=_;congr 2;funext o s';cases o<;>rfl
theorem GL(c:Operand):c9 E F (.cond c a b) s K=oD E F a b s K (ev E s.st c):=by show(match ev E s.st c with| .bool t=>(t=true->c9 E F a s K)∧(t=false->c9 E F b s K)|_=>False)=_;unfold oD;split<;>simp_all
theorem Cb:c9 E F (.block id a) s K=c9 E F a s (nS id K):=by show c9 E F a s _=_;congr 1;funext o s';cases o<;>rfl
theorem GM:c9 E F (.loop a) s K=yh (c9 E F a) s K:=rfl
theorem GN:c9 E F (.exit id) s K=K (.exit id) s:=rfl
theorem K4:c9 E F .ret s K=K .ret s:=rfl
theorem yz:GI E F b K .normal s=c9 E F b s K:=rfl
theorem K5:GI E F b K .ret s=K .ret s:=rfl
theorem GO:GI E F b K (.exit id) s=K (.exit id) s:=rfl
theorem rV:nS id K .normal s=K .normal s:=rfl
theorem Cc:nS id K .ret s=K .ret s:=rfl
theorem yA(id':Nat):nS id K (.exit id') s=if id'=id then K .normal s else K (.exit id') s:=rfl
theorem Cd:oD E F a b s K (.bool true)=c9 E F a s K:=by simp[oD]
theorem yB:oD E F a b s K (.bool false)=c9 E F b s K:=by simp[oD]
theorem yC{v v':V}(h:v=v'):oD E F a b s K v=oD E F a b s K v':=by rw[h]
variable{o o':Out}
theorem Ce(h:o=o'):GI E F b K o s=GI E F b K o' s:=by rw[h]
theorem uN(h:o=o'):nS id K o s=nS id K o' s:=by rw[h]
theorem Cf{s':XS}(h:s=s'):c9 E F a s K=c9 E F a s' K:=by rw[h]
end
structure Xb where
 X:Nat->Prop
 Kn:Kno
 ms:Lim
 ws:World
def nT(D:List Deferred)(O:Nat->Prop)(lo:Nat)(w:World)(H:HH):Prop:=D.Nodup∧∀d∈D,∃b,d=markD b∧lo<=b∧w.heap[b]?=some (.deferred (some []))∧ ¬O b∧H b=none
def HoldX(E:Env)(n:Nat)(B:Xb)(s:XS)(a:Act)(w:World):Prop:=
 ∃D m O,Now E n D O m s.st a w∧(∀g ob,s.H g=some ob-> ¬O g∧w.heap[g]?=some ob∧m g=some 0∧(B.ws.heap.size<=g∨B.X g)∧E.K<=g)∧(∀k,O k->B.ws.heap.size<=k∨B.X k)∧Step B.X B.ms B.ws m w∧B.Kn.P m w∧nT D O B.ws.heap.size w s.H
def QU(P:Program)(f:FuncId)(vs:Array Value)(m:Lim)(w:World)(H:HH)(T:V->HH->Prop):Prop:=
 Calls P f vs w fun e w'=>∃v m' r H',e= .returned v∧Rd m' w' v r∧T r H'∧Step (fun k=>H k≠none) m w m' w'∧∀g ob,H' g=some ob->w'.heap[g]?=some ob∧m' g=some 0∧(H g≠none∨w.heap.size<=g)
def cR(E:Env)(f:FuncId)(C:U->HH->Tr):Prop:=
 (∀args w,(callFunc f args).run E.P w= .ok (.enter f args) w)∧
 ∀ (m:Lim) (w:World) (vs:Array Value) (us:U) (H:HH) (T:V->HH->Prop),C us H T->us.all V.dat=true->RdL m w vs.toList us->(∀g ob,H g=some ob->w.heap[g]?=some ob∧m g=some 0∧E.K<=g)->E.J w->(∀g,Rd m w (.p g) (E.G g))->
   QU E.P f vs m w H T
def ja(E:Env)(t:TypeId)(name:String)(C:Value->U->HH->Tr):Prop:=
 ∀ (m:Lim) (w:World) (v:Value) (vs:Array Value) (us:U) (H:HH) (T:V->HH->Prop),C v us H T->us.all V.dat=true->RdL m w vs.toList us->(∀g ob,H g=some ob->w.heap[g]?=some ob∧m g=some 0∧E.K<=g)->E.J w->(∀g,Rd m w (.p g) (E.G g))->
   ∃f r,(callMethod (.iface t v) name vs).run E.P w= .ok (.enter f (#[r]++vs)) w∧QU E.P f (#[r]++vs) m w H T
section
variable{E:Env}{n:Nat}{B:Xb}{F:Fx}{s:XS}{a:Act}{w w':World}{r:Option Nat}
variable{st':St}
theorem HoldX.le(h:HoldX E n B s a w)(hl:Le st' s.st):HoldX E n B ⟨st',s.H⟩ a w:=by obtain⟨D,m,O,h1,h2⟩:=h;exact⟨D,m,O,h1.le hl,h2⟩
theorem HoldX.ev(h:HoldX E n B s a w)(x:Operand){v:Value}(hx:ev E s.st x= .x v):a.eval x=v:=by obtain⟨D,m,O,⟨⟨b,β,hr⟩,_⟩,_⟩:=h;exact(hx▸aQ hr x).x
theorem HoldX.at(h:HoldX E n B s a w){g:Nat}{ob:Obj}(hg:s.H g=some ob):w.heap[g]?=some ob:=by obtain⟨D,m,O,_,h2,_⟩:=h;exact(h2 g ob hg).2.1
theorem HoldX.new(h:HoldX E n B s a w):s.H w.heap.size=none:=by
 cases e:s.H w.heap.size with
 |none=>rfl
 |some ob=>exact absurd (ag (h.at e)) (agB _)
theorem HoldX.put(h:HoldX E n B s a w){d:Option Tmp}(hd:∀k,d=some k->k<n){v:Value}{u:V}(hv:∀m,Rd m w v u):HoldX E n B ⟨s.st.put d u.bare,s.H⟩ (a.put d v) w:=by
 obtain⟨D,m,O,h1,h2⟩:=h;cases d with
 |none=>exact⟨D,m,O,h1,h2⟩
 |some k=>exact⟨D,m,O,h1.put (hd k rfl) (hv m),h2⟩
variable{D:List Deferred}{O:Nat->Prop}{m m':Lim}{a':Act}
theorem HoldX.grown(h2:∀g ob,s.H g=some ob-> ¬O g∧w.heap[g]?=some ob∧m g=some 0∧(B.ws.heap.size<=g∨B.X g)∧E.K<=g)(h4:∀k,O k->B.ws.heap.size<=k∨B.X k)(h5:Step B.X B.ms B.ws m w)(h6:B.Kn.P m w∧nT D O B.ws.heap.size w s.H)
 (hn:Now E n D (pK O w w') m' st' a' w') (hs:Step O m w m' w'):HoldX E n B ⟨st',s.H⟩ a' w':=by
 refine⟨D,m',_,hn,fun g ob hg=>?_,fun k hg=>?_,h5.next hs (fun i hi ho=>(h4 i ho).resolve_left (afg.2 hi)),B.Kn.mono _ _ _ _ h6.1 hs.ext,h6.2.1,fun d hd=>?_⟩
 . obtain⟨q1,q2,q3,q4⟩:=h2 g ob hg;obtain⟨s1,s2⟩:=hs.same g (ag q2) q1;refine⟨fun hgr=>?_,s1.trans q2,s2.trans q3,q4⟩;rcases hgr.2 with ho|ho
   . exact q1 ho
   . exact absurd (ag q2) (ad0.2 ho)
 . rcases hg.2 with ho|ho
   . exact h4 k ho
   . exact .inl (adJ h5.ext.size ho)
 . obtain⟨b,rfl,q1,q2,q3,q4⟩:=h6.2.2 d hd;refine⟨b,rfl,q1,(hs.same b (ag q2) q3).1.trans q2,fun hg=>?_,q4⟩;rcases hg.2 with hg|hg
   . exact q3 hg
   . exact absurd (ag q2) (ad0.2 hg)
theorem SZ(hE:EnvOK E)(hm:E.P.follows .mixedOrders=true){c:Code}{K:Out->St->Prop}(hok:be E.any n c=true)(h:HoldX E n B s a w)(hr:run E c s.st K):
 c.wpIn (bg r) 0 E.P (fun e a' w'=>∃o st',eL e=some o∧K o st'∧HoldX E n B ⟨st',s.H⟩ a' w') a w:=by
 obtain⟨D,m,O,h1,h2,h4,h5,h6⟩:=h;refine wpIn_mono (jA (r:=r) (W:=fun _=>true) hE hm hok (ik c) h1 hr) ?_;rintro e a' w' ⟨_,o,st',m',ho,hK,hn,hs⟩;exact⟨o,st',ho,hK,HoldX.grown h2 h4 h5 h6 hn hs⟩
theorem Yh(hE:EnvOK E)(h:HoldX E n B s a w){o:Oper}{st':St}(hx:dt E o s.st=some st')(hd:∀k,o.dst=some k->k<n){K:Act->World->Prop}{Q:Exit->Act->World->Prop}(hK:∀a' w',HoldX E n B ⟨st',s.H⟩ a' w'->K a' w'):o.wp E.P a w K Q:=by obtain⟨D,m,O,h1,h2,h4,h5,h6⟩:=h;have hlt:=h1.lt;obtain⟨b,β,hrel⟩:=h1.rel;refine oj (hE.x (.inr (fun _ h=>h))) hrel hx hd (fun a' w' m' β' hr'=>hK a' w' ?_);obtain⟨hn,hst⟩:=Now.of_rel hE hlt hr';exact HoldX.grown h2 h4 h5 h6 hn hst
theorem HoldX.stepped(hE:EnvOK E){D:List Deferred}{m m':Lim}{O:Nat->Prop}{H':HH}(q1:Now E n D O m s.st a w)(q2:∀g ob,s.H g=some ob-> ¬O g∧w.heap[g]?=some ob∧m g=some 0∧(B.ws.heap.size<=g∨B.X g)∧E.K<=g)(q4:∀k,O k->B.ws.heap.size<=k∨B.X k)(q5:Step B.X B.ms B.ws m w)(q6:B.Kn.P m w∧nT D O B.ws.heap.size w s.H)
 (hs:Step (fun k=>s.H k≠none) m w m' w') (hH:∀g ob,H' g=some ob->w'.heap[g]?=some ob∧m' g=some 0∧(s.H g≠none∨w.heap.size<=g)):HoldX E n B ⟨s.st,H'⟩ a w'∧∃O,Now E n D O m' s.st a w'∧(∀g ob,H' g=some ob-> ¬O g∧w'.heap[g]?=some ob∧m' g=some 0∧(B.ws.heap.size<=g∨B.X g)∧E.K<=g)∧(∀k,O k->B.ws.heap.size<=k∨B.X k)∧Step B.X B.ms B.ws m' w'∧B.Kn.P m' w'∧nT D O B.ws.heap.size w' H':=by
 have hne:∀k,O k-> ¬s.H k≠none:=fun k hk=>by
  cases e:s.H k with
  |none=>simp
  |some ob=>exact absurd hk (q2 k ob e).1
 have hJ:E.J w':=hE.keep ((List.range w.heap.size).filter fun k=>(s.H k).isSome) _ _ (fun x hx=>by
  obtain⟨ob,e⟩:=agi.1 (adZ.1 hx).2
  exact(q2 x ob e).2.2.2.2) q1.J (hs.bel (fun k hk e=>adZ.2 ⟨adU.2 hk,by cases e':s.H k with
   |none=>exact absurd e' e
   |some _=>rfl⟩))
 have hK:E.K<=w.heap.size:=hE.high _ q1.J;have key:∃O,Now E n D O m' s.st a w'∧(∀g ob,H' g=some ob-> ¬O g∧w'.heap[g]?=some ob∧m' g=some 0∧(B.ws.heap.size<=g∨B.X g)∧E.K<=g)∧(∀k,O k->B.ws.heap.size<=k∨B.X k)∧Step B.X B.ms B.ws m' w'∧B.Kn.P m' w'∧nT D O B.ws.heap.size w' H':=by
  refine⟨O,q1.other hs hne hJ,fun g ob hg=>?_,q4,q5.next hs (fun i hi e=>?_),B.Kn.mono _ _ _ _ q6.1 hs.ext,q6.2.1,fun d hd=>?_⟩
  . obtain⟨h1,h3,h2⟩:=hH g ob hg;rcases h2 with h2|h2
    . cases e:s.H g with
      |none=>exact absurd e h2
      |some ob'=>exact⟨(q2 g ob' e).1,h1,h3,(q2 g ob' e).2.2.2⟩
    . exact⟨fun ho=>absurd (q1.lt g ho) (ad0.2 h2),h1,h3,.inl (adJ q5.ext.size h2),adJ hK h2⟩
  . cases e':s.H i with
    |none=>exact absurd e' e
    |some ob=>exact(q2 i ob e').2.2.2.1.resolve_left (afg.2 hi)
  . obtain⟨b,rfl,r1,r2,r3,r4⟩:=q6.2.2 d hd;refine⟨b,rfl,r1,(hs.same b (ag r2) (by rw[r4];simp)).1.trans r2,r3,?_⟩;cases e:H' b with
    |none=>rfl
    | some ob=>
      rcases(hH b ob e).2.2 with h|h
      . exact absurd r4 h
      . exact absurd (ag r2) (ad0.2 h)
 obtain⟨O',k1,k2,k3,k4,k5⟩:=key;exact⟨⟨D,m',O',k1,k2,k3,k4,k5⟩,O',k1,k2,k3,k4,k5⟩
theorem HoldX.wrote(hE:EnvOK E){H':HH}(h:HoldX E n B s a w)(hos:w'.os=w.os)(htp:w'.tape=w.tape)(hou:w'.output=w.output)(hsz:w.heap.size<=w'.heap.size)(hb:∀k,k<w.heap.size->s.H k=none->w'.heap[k]?=w.heap[k]?)(hH:∀g ob,H' g=some ob->w'.heap[g]?=some ob∧(s.H g≠none∨w.heap.size<=g)):HoldX E n B ⟨s.st,H'⟩ a w':=by
 obtain⟨D,m,O,q1,q2,q4,q5,q6⟩:=h;have hs:Step (fun k=>s.H k≠none) m w (fun j=>if w.heap.size<=j then some 0 else m j) w':=by
  refine⟨hos,htp,hou,⟨hsz,fun b off v hlt hm hc=>?_,fun b hlt fr' hf=>?_,fun b es c hm hc=>?_⟩,fun k hk hn=>⟨hb k hk A0Y,adq (afg.2 hk)⟩⟩
  . cases e:s.H b with
    |none=>rw[bc (hb b hlt e)];exact hc
    |some ob=>exact absurd (hm 0 (q2 b ob e).2.2.1) (afe _)
  . rw[adq (afg.2 hlt)] at hf;exact⟨fr',hf,adp _⟩
  . cases e:s.H b with
    |none=>rw[hb b (eA hc) e];exact hc
    |some ob=>rw[(q2 b ob e).2.2.1] at hm;cases hm
 refine(HoldX.stepped hE q1 q2 q4 q5 q6 hs (fun g ob hg=>?_)).1;obtain⟨h1,h2⟩:=hH g ob hg;refine⟨h1,?_,h2⟩;rcases h2 with h2|h2
 . cases e:s.H g with
   |none=>exact absurd e h2
   |some ob'=>rw[adq (afg.2 (ag (q2 g ob' e).2.1))];exact(q2 g ob' e).2.2.1
 . exact adl h2
theorem HoldX.drew(hE:EnvOK E)(h:HoldX E n B s a w):HoldX E n B s a {w with drawn:=w.drawn+1}:=
 h.wrote hE rfl rfl rfl (adp _) (fun _ _ _=>rfl) (fun g ob e=>⟨h.at e,.inl (by rw[e];exact fun h=>by cases h)⟩)
theorem HoldX.fresh(hE:EnvOK E)(h:HoldX E n B s a w)(ob:Obj):HoldX E n B ⟨s.st,upd s.H w.heap.size (some ob)⟩ a (w.alloc ob):=by
 refine h.wrote hE rfl rfl rfl A0k (fun k hk _=>Below.heap_alloc w ob k hk) (fun g ob' hg=>?_);by_cases e:g=w.heap.size
 . subst e;rw[aj] at hg;cases hg;exact⟨World.heap_new w ob,.inr (adp _)⟩
 . rw[ah _ _ e] at hg;have:=h.at hg;exact⟨(Below.heap_alloc w ob g (ag this)).trans this,.inl A1n ⟩
theorem yD{m:Lim}:∀{us:U} {xs vs:List Value},KW us=some xs->RdL m w vs us->vs=xs∧∀v∈xs,v.oneCell'=true∧v.cells= #[v]
 | [],xs,vs,h,hr=>by
   cases h;cases vs with
   |nil=>exact⟨rfl,fun v hv=>by cases hv⟩
   |cons v vs=>exact hr.elim
 | u ::us,xs,vs,h,hr=>by
   cases u with
   | x v =>
     unfold KW at h;split at h
     . rename_i hv;obtain⟨ys,hy,rfl⟩:=adn.1 h;cases vs with
       |nil=>exact hr.elim
       | cons v' vs=>
         obtain⟨q1,q2⟩:=yD hy hr.2;exact⟨by rw[Rd.x_iff.1 hr.1,q1],fun y hm=>by
          cases hm with
          |head=>exact⟨hv,GD hv⟩
          |tail _ hm=>exact q2 y hm⟩
     . cases h
   | sl nl z es tok=>
     cases nl with
     |false=>simp[KW] at h
     | true=>
       unfold KW at h;obtain⟨ys,hy,rfl⟩:=adn.1 h;cases vs with
       |nil=>exact hr.elim
       | cons v' vs=>
         obtain⟨q1,q2⟩:=yD hy hr.2;have hv:v'= .slice none 0 0:=by have:=hr.1;cases this;rfl
         exact⟨by rw[hv,q1],fun y hm=>by
          cases hm with
          |head=>exact⟨rfl,rfl⟩
          |tail _ hm=>exact q2 y hm⟩
   |_=>simp[KW] at h
variable{u:V}{xs:List Value}
theorem yE(h:nP u=some xs)(hr:Rd m w v u):v.cells=xs.toArray∧∀v∈xs,v.oneCell'=true:=by
 cases u with
 |x v'=>obtain⟨q1,q2⟩:=yD (us:=[.x v']) (vs:=[v]) h ⟨hr,trivial⟩;subst q1;exact⟨(q2 v (adj.2 rfl)).2,fun y hy=>(q2 y hy).1⟩
 | sl nl z es tok=>
   cases nl with
   |false=>cases h
   |true=>obtain⟨q1,q2⟩:=yD (us:=[.sl true z es tok]) (vs:=[v]) h ⟨hr,trivial⟩;subst q1;exact⟨(q2 v (adj.2 rfl)).2,fun y hy=>(q2 y hy).1⟩
 |agg us=>obtain⟨cs,rfl,hl⟩:=Rd.agg_iff.1 hr;obtain⟨q1,q2⟩:=yD h hl;exact⟨by rw[<-q1];rfl,fun y hy=>(q2 y hy).1⟩
 |_=>cases h
theorem K6(h:nP u=some xs):u.nm=none:=by cases u<;>first|rfl|cases h
variable{P:Program}{t:TypeId}{cs:U}{off:Nat}
theorem GP(h:dp P t cs off=some u):dp P t (cs.drop off) 0=some u:=by
 unfold dp at h⊢;generalize aR P t=A at h⊢;generalize bo P t=Z at h⊢;cases A with
 |none=>exact h
 | some b=>
   cases Z with
   |none=>cases b<;>exact h
   | some k=>
     cases b with
     |false=>simpa using h
     | true=>
       simp only at h⊢;split at h
       . rw[adl (by rw[aeE];omega)];simpa using h
       . cases h
theorem Cg(m:Lim)(w:World):∀l:List Value,RdL m w l (l.map V.x)
 |[]=>trivial
 |v::l=>⟨.x v,Cg m w l⟩
theorem HoldX.rdx(h:HoldX E n B s a w)(x:Operand){u:V}(hx:Go.Proofs.YtiepfeebmnfbdaaGreat.ev E s.st x=u)(hu:u.nm=none):∃m,Rd m w (a.eval x) u:=by obtain⟨D,m,O,⟨⟨b,β,hr⟩,_⟩,_⟩:=h;exact⟨m,(hx▸aQ hr x).rd hu⟩
end
section
variable{E:Env}{n:Nat}{B:Xb}{F:Fx}{s:XS}{a:Act}{w w':World}{r:Option Nat}{o:Oper}{R:V->HH->Prop}{K:Act->World->Prop}{Q:Exit->Act->World->Prop}
theorem yF(h:HoldX E n B s a w)(hd:∀k,o.dst=some k->k<n)(hK:∀a' w' v H',R v H'->HoldX E n B ⟨s.st.put o.dst v.bare,H'⟩ a' w'->K a' w'){v:Value}{u:V}(hrun:(execOp a.eval o).run E.P w= .ok (.value v) w)(hv:∀m,Rd m w v u)(hR:R u s.H):o.wp E.P a w K Q:=by unfold Oper.wp;rw[hrun];exact hK _ _ _ _ hR (h.put hd hv)
theorem Yi(hE:EnvOK E)(h:HoldX E n B s a w)(hd:∀k,o.dst=some k->k<n)(hK:∀a' w' v H',R v H'->HoldX E n B ⟨s.st.put o.dst v.bare,H'⟩ a' w'->K a' w'){v:Value}{ob:Obj}(hrun:(execOp a.eval o).run E.P w= .ok (.value v) (w.alloc ob))(hR:R (.x v) (upd s.H w.heap.size (some ob))):o.wp E.P a w K Q:=by unfold Oper.wp;rw[hrun];exact hK _ _ _ _ hR ((h.fresh hE ob).put hd (fun m=> .x v))
theorem yG(hE:EnvOK E)(hF:∀f C,F.F f=some C->cR E f C)(hI:∀t name C,F.I t name=some C->ja E t name C)(h:HoldX E n B s a w){T:Tr}(hT:x9 E.P F o (ev E s.st) s.H=some T)(hd:∀k,o.dst=some k->k<n)(hr:T R)(hK:∀a' w' v H',R v H'->HoldX E n B ⟨s.st.put o.dst v.bare,H'⟩ a' w'->K a' w'):o.wp E.P a w K Q:=by
 unfold x9 at hT;split at hT
 . --load
   rename_i t x ho;unfold uG at hT;split at hT
   case h_2=>cases hT
   rename_i g off hx;cases hT;obtain⟨c,hc,hr⟩:=dx hr;obtain⟨u,hu,hr⟩:=dx hr;have hh:=h.at (l8 hc);have hx':=h.ev x hx;have hcell:∀(k:Nat) (v:Value),(c.1.drop off)[k]?=some v->w.cell? ⟨g,off+k,none⟩=some v:=fun k v hk=>by
    rw[Box.cell hh,aew]
    rwa [aeA] at hk
   have hp:=GP hu;rw[<-List.map_drop] at hp;obtain⟨m0,hm0⟩:∃m:Lim,True:=⟨fun _=>none,trivial⟩;obtain⟨v,hrun,_⟩:=jv (m:=m0) hcell (Cg m0 w _) hp;refine yF h hd hK (v:=v) (u:=u) (by simp only[execOp,ho,hx',Gc,hrun,Ge,Gd]) (fun m=>?_) hr;obtain⟨v',hrun',hv'⟩:=jv (m:=m) hcell (Cg m w _) hp;rw[hrun] at hrun';cases hrun';exact hv'
 . --store
   rename_i t x y ho;split at hT
   case h_2=>cases hT
   rename_i hdst;unfold qu at hT;split at hT
   case h_2=>cases hT
   rename_i g off hy;cases hT;obtain⟨c,hc,hr⟩:=dx hr;obtain⟨xs,hxs,⟨hsz,hlen⟩,hr⟩:=dx hr;have hob:=l8 hc;have hh:=h.at hob;obtain⟨m1,hv⟩:=h.rdx y rfl (K6 hxs);obtain⟨hcs,hone⟩:=yE hxs hv;have hx':=h.ev x hy;have hst:=de E.P g off c.2 (0,0) xs 0 c.1.toArray w hh (.inl rfl) (by simpa using hlen) hone;simp only[aeq,List.toList_toArray] at hst;have hrun:(execOp a.eval o).run E.P w= .ok .skip (w.setRow g (fU c.1 off xs).toArray):=by simp only[execOp,ho,hx',Instr.storeAt,Instr.sureAddr,storeVar,Gc,Gd,Ge,bN hsz,hcs];rw[adq A0k,hst];rfl
   unfold Oper.wp;rw[hrun];show K (a.put o.dst undef) _;rw[hdst];have hw:HoldX E n B ⟨s.st,upd s.H g (some (rowO (fU c.1 off xs) c.2))⟩ a (w.setRow g (fU c.1 off xs).toArray):=by
    refine h.wrote hE rfl rfl rfl (by simp[World.setRow]) (fun k _ hk=>setRow_other w g k _ (by rintro rfl;rw[hob] at hk;cases hk)) (fun g' ob' hg=>?_);by_cases e:g'=g
    . subst e;rw[aj] at hg;cases hg;exact⟨setRow_heap w _ _ _ _ (0,0) hh,.inl (by rw[hob];simp)⟩
    . rw[ah _ _ e] at hg;exact⟨(setRow_other w g g' _ e).trans (h.at hg),.inl A1n ⟩
   have:=hK a (w.setRow g (fU c.1 off xs).toArray) .undef _ hr;rw[hdst] at this;exact this hw
 . --fieldAddr
   rename_i t x f ho;unfold qw at hT;split at hT
   case h_2=>cases hT
   rename_i g off hx;cases hT;obtain⟨k,hk,hr⟩:=dx hr;unfold KX at hk;split at hk
   case h_2=>cases hk
   rename_i fs hfs;split at hk
   case h_2=>cases hk
   rename_i fd hfd;split at hk
   case h_2=>cases hk
   rename_i z hz;cases hk;exact yF h hd hK (ce ho hfs hfd hz A0b (h.ev x hx) rfl) (fun m=> .x _) hr
 . --nilCheck
   rename_i x ho;unfold BS at hT;split at hT
   case h_2=>cases hT
   rename_i p hx;cases hT;exact yF h hd hK (dK ho (h.ev x hx)) (fun m=> .x _) hr
 . --indexAddr
   rename_i t x i ho;unfold qx at hT;split at hT
   case h_2=>cases hT
   rename_i g off len cap k iv hx hi;cases hT;obtain⟨z,hz,⟨h0,hl⟩,hr⟩:=dx hr;unfold rO at hz;split at hz
   case h_2=>cases hz
   rename_i el hel;refine yF h hd hK ?_ (fun m=> .x _) hr;simp only[execOp,ho,h.ev x hx,h.ev i hi,Instr.indexAt,asIntOf,Gc,Gd,Ge,aC hel,Sem.run_ite];rw[adl ⟨h0,hl⟩];simp only[bN hz,Ge,aP]
 . --len
   rename_i args ts ho;split at hT
   case h_2=>cases hT
   rename_i x t hargs hts;unfold BT at hT;split at hT
   case h_2=>cases hT
   rename_i b len cap hx;cases hT;obtain⟨z,hz,hr⟩:=dx hr;unfold rO at hz;split at hz
   case h_2=>cases hz
   rename_i el hel;have ha:args= #[x]:=aed.1 hargs;have ht:ts= #[t]:=aed.1 hts;subst ha ht;exact yF h hd hK (KT ho hel (h.ev x hx)) (fun m=> .x _) hr
 . --box
   rename_i t x ho;split at hT
   case h_2=>cases hT
   cases hT;obtain⟨xs,hxs,hr⟩:=dx hr;obtain⟨m1,hv⟩:=h.rdx x rfl (K6 hxs);obtain⟨hcs,_⟩:=yE hxs hv;refine Yi hE h hd hK (xX ho) ?_;rw[hcs];exact hr _ h.new
 . --makeSlice
   rename_i t l c ho;split at hT
   case h_2=>cases hT
   unfold uH at hT;split at hT
   case h_2=>cases hT
   rename_i k i k' i' hl hc;cases hT;obtain⟨q,hq,⟨rfl,rfl,h0,hb,hm⟩,hr⟩:=dx hr;unfold Pv at hq;split at hq
   case h_2=>cases hq
   rename_i el hel;split at hq
   case h_2=>cases hq
   rename_i inf hinf;obtain⟨z,hz,rfl⟩:=adn.1 hq;have:=hr _ h.new;rw[show ∀A:Array Value,rowO A.toList el= .cells A el (0,0) from fun A=>by simp[rowO]] at this;exact Yi hE h hd hK (nN ho hel hinf hz (h.ev l hl) (h.ev c hc) h0 hb hm) this
 . --a call
   rename_i c args ts ho;unfold uI at hT;split at hT
   case h_2=>cases hT
   rename_i f hf;split at hT
   case h_2=>cases hT
   rename_i C hC;cases hT;obtain⟨hdat,hr⟩:=hr;obtain⟨hcall,hfun⟩:=hF f C hC;have hc:a.eval c= .func (.func f) #[] #[]:=h.ev c (Dp hf);have hrun:(execOp a.eval o).run E.P w= .ok (.enter f (args.map a.eval)) w:=by simp only[execOp,ho,resolve,Gc,hc,Deferred.ofValue,Gd,Ge,invoke];rw[hcall];simp
   obtain⟨D,m,O,q1,q2,q4,q5,q6⟩:=h;obtain⟨⟨b,β,hrel⟩,hlt⟩:=q1;unfold Oper.wp;rw[hrun];have q1:Now E n D O m s.st a w:=⟨⟨b,β,hrel⟩,hlt⟩;refine(hfun m w (args.map a.eval) _ s.H R hr hdat (by simpa using kC hrel args.toList hdat) (fun g ob hg=>⟨(q2 g ob hg).2.1,(q2 g ob hg).2.2.1,(q2 g ob hg).2.2.2.2⟩) q1.J hrel.glob).mono ?_;rintro e w' ⟨v,m',u,H',rfl,hv,hR,hs,hH⟩;obtain⟨_,O',k1,k2,k3,k4,k5⟩:=HoldX.stepped hE q1 q2 q4 q5 q6 hs hH;refine hK (a.put o.dst v) w' u H' hR ?_;cases hdst:o.dst with
   |none=>exact⟨D,m',O',k1,k2,k3,k4,k5⟩
   |some d=>exact⟨D,m',O',k1.put (hd d hdst) hv,k2,k3,k4,k5⟩
 . --a method
   rename_i x name args ts ho;unfold BU at hT;split at hT
   case h_2=>cases hT
   rename_i t v hx;split at hT
   case h_2=>cases hT
   rename_i C hC;cases hT;obtain⟨hdat,hr⟩:=hr;have hx':=h.ev x hx;obtain⟨D,m,O,q1,q2,q4,q5,q6⟩:=h;obtain⟨⟨b,β,hrel⟩,hlt⟩:=q1;have q1:Now E n D O m s.st a w:=⟨⟨b,β,hrel⟩,hlt⟩;obtain⟨f,rc,hcall,hdo⟩:=hI t name C hC m w v (args.map a.eval) _ s.H R hr hdat (by simpa using kC hrel args.toList hdat) (fun g ob hg=>⟨(q2 g ob hg).2.1,(q2 g ob hg).2.2.1,(q2 g ob hg).2.2.2.2⟩) q1.J hrel.glob;have hrun:(execOp a.eval o).run E.P w= .ok (.enter f (#[rc]++args.map a.eval)) w:=by
    have e0:(#[Value.iface t v]++args.map a.eval)[0]?=some (.iface t v):=by rw[aet A0k];rfl
    have e1:(#[Value.iface t v]++args.map a.eval).extract 1 (#[Value.iface t v]++args.map a.eval).size=args.map a.eval:=by apply aed.1;simp;exact ady A0k
    simp only[execOp,ho,resolve,Gc,hx',Gd,Ge,invoke,e0,e1];exact hcall
   unfold Oper.wp;rw[hrun];refine Calls.mono hdo ?_;rintro e w' ⟨v,m',u,H',rfl,hv,hR,hs,hH⟩;obtain⟨_,O',k1,k2,k3,k4,k5⟩:=HoldX.stepped hE q1 q2 q4 q5 q6 hs hH;refine hK (a.put o.dst v) w' u H' hR ?_;cases hdst:o.dst with
   |none=>exact⟨D,m',O',k1,k2,k3,k4,k5⟩
   |some d=>exact⟨D,m',O',k1.put (hd d hdst) hv,k2,k3,k4,k5⟩
 . -- append
   rename_i args ts ho;split at hT
   case h_2=>cases hT
   rename_i x y t t' hargs hts;split at hT
   case h_2=>cases hT
   rename_i ht;obtain rfl:=adQ ht;unfold BV at hT;split at hT
   case h_2=>cases hT
   rename_i v z tok hx hy;cases hT;obtain⟨hap,es,hrow,hlen,hr⟩:=hr;unfold KY at hap;split at hap
   case h_2=>cases hap
   rename_i el hel;split at hap
   case h_2=>cases hap
   rename_i inf hinf;split at hap
   case h_2=>cases hap
   rename_i zv hzv;obtain⟨s1,s2,s3⟩:=adQ hap;have ha:args= #[x,y]:=aed.1 hargs;have ht:ts= #[t,t]:=aed.1 hts;subst ha ht;have hx':=h.ev x hx;obtain⟨m1,hv⟩:=h.rdx y hy rfl;have hv':Rd m1 w (a.eval y) (.sl false 1 [.i z] none):=by
    have:=hv.bare
    rwa [dV] at this
   obtain⟨v',w',g,ob,h1,h2,h3,h4,h5,h6,h7,h8,h9,h10⟩:=xY (ty:=o.type) hel hinf s1 hzv s2 s3 hrow (fun g ob hg=>h.at hg) hv' hlen;have hg:blkOf v=some g∨s.H g=none:=h9.imp id fun hle=>by
    cases e:s.H g with
    |none=>rfl
    |some ob'=>exact absurd (ag (h.at e)) (ad0.2 hle)
   have hw:HoldX E n B ⟨s.st,upd s.H g (some ob)⟩ a w':=by
    refine h.wrote hE h2 h3 h4 h5 (fun k hk hn=>h8 k hk (fun e=>?_)) (fun g' ob' hg'=>?_)
    . subst e;rcases h9 with h9|h9
      . rcases hrow with⟨_,rfl⟩|⟨g0,cap,cur,ty,rfl,hH0,_⟩
        . cases h9
        . cases h9;rw[hH0] at hn;cases hn
      . exact absurd hk (ad0.2 h9)
    . by_cases e:g'=g
      . subst e;rw[aj] at hg';cases hg';refine⟨h7,h9.imp (fun h9=>?_) id⟩;rcases hrow with⟨_,rfl⟩|⟨g0,cap,cur,ty,rfl,hH0,_⟩
        . cases h9
        . cases h9;rw[hH0];simp
      . rw[ah _ _ e] at hg';have hat:=h.at hg';exact⟨(h8 g' (ag hat) e).trans hat,.inl (by rw[hg'];simp)⟩
   unfold Oper.wp;have hrun:(execOp a.eval o).run E.P w= .ok (.value v') w':=by simp only[execOp,ho,resolve,Gc,Gd,Ge,invoke,builtin];rw[show Array.map a.eval #[x,y]= #[v,a.eval y] from by simp[hx'],h1];rfl
   rw[hrun];exact hK _ _ _ _ (hr v' g ob h6 hg (h10 _ (aj _ _ _))) (hw.put hd (fun m=> .x _))
 . --a row's beginning
   rename_i t x k ho;unfold uJ at hT;split at hT
   case h_2=>cases hT
   rename_i g off len cap kk i hx hk;cases hT;obtain⟨z,hz,⟨h0,hl⟩,hr⟩:=dx hr;unfold rO at hz;split at hz
   case h_2=>cases hz
   rename_i el hel;obtain⟨j,rfl⟩:=aev h0;refine yF h hd hK ?_ (fun m=> .x _) hr;have hb:(Instr.sliceBounds true len cap none (some (Value.int kk (j:Int))) none).run E.P w= .ok (0,j,cap) w:=by simp[Instr.sliceBounds,cT _ (show j<=cap by omega)]
   simp only[execOp,ho,h.ev x hx,h.ev k hk,Instr.sliceAt,Gc,aC hel,Ge,Instr.slice,afp,aea,hb,bN hz,Gd];congr 2;cases cap<;>simp[aP]
 . --makeInterface
   rename_i t x ho;unfold qy at hT;split at hT
   case h_2=>cases hT
   rename_i v hx;cases hT;obtain⟨hni,hr⟩:=hr;refine yF h hd hK ?_ (fun m=> .x _) hr;unfold rP at hni;split at hni
   . cases hni
   . rename_i ty hty hne;simp only[execOp,ho,h.ev x hx,Instr.makeInterface,Gc,aC hne,Ge,Gd]
   . cases hni
 . --typeAssert
   rename_i x t0 t ok ho;split at hT
   case h_2=>cases hT
   unfold nQ at hT;split at hT
   case h_2=>cases hT
   rename_i t' v hx;cases hT;obtain⟨⟨hni,rfl⟩,hr⟩:=hr;refine yF h hd hK ?_ (fun m=> .x _) hr;unfold rP at hni;split at hni
   . cases hni
   . rename_i ty hty hne;simp only[execOp,ho,h.ev x hx,Instr.typeAssert,Gc,aC hne,Ge,Gd,adB,adI,adw]
   . cases hni
 . cases hT
def HX(E:Env)(Y:Oper->(Operand->V)->HH->Option Tr):Prop:=(∀o ρ H c,o.op= .defer c->Y o ρ H=none)∧∀(n:Nat) (B:Xb) (s:XS) (a:Act) (w:World) (o:Oper) (R:V->HH->Prop) (K:Act->World->Prop) (Q:Exit->Act->World->Prop) (T:Tr),HoldX E n B s a w->Y o (ev E s.st) s.H=some T->(∀k,o.dst=some k->k<n)->T R->(∀a' w' v H',R v H'->HoldX E n B ⟨s.st.put o.dst v.bare,H'⟩ a' w'->K a' w')->o.wp E.P a w K Q
theorem jb:HX E fun _ _ _=>none:=⟨fun _ _ _ _ _=>rfl,fun _ _ _ _ _ _ _ _ _ _ _ h=>by cases h⟩
theorem Ch(hE:EnvOK E)(hF:∀f C,F.F f=some C->cR E f C)(hI:∀t name C,F.I t name=some C->ja E t name C)(hY:HX E F.Y)(h:HoldX E n B s a w){T:Tr}(hT:rQ E.P F o (ev E s.st) s.H=some T)(hd:∀k,o.dst=some k->k<n)(hr:T R)(hK:∀a' w' v H',R v H'->HoldX E n B ⟨s.st.put o.dst v.bare,H'⟩ a' w'->K a' w'):o.wp E.P a w K Q:=by
 unfold rQ TN at hT;split at hT
 . rename_i T' hT';cases hT;exact hY.2 n B s a w o R K Q _ h hT' hd hr hK
 . exact yG hE hF hI h hT hd hr hK
theorem nU(hE:EnvOK E)(hF:∀f C,F.F f=some C->cR E f C)(hI:∀t name C,F.I t name=some C->ja E t name C)(hY:HX E F.Y){ops:Array Oper}{K':XS->Prop}{i:Nat}(hi:ops[i]?=some o)(hdo:∀k,o.dst=some k->k<n)(h:HoldX E n B s a w)(hx:fo E F ops [o] s K')(hK:∀s' a' w',K' s'->HoldX E n B s' a' w'->K a' w'):wpOpIn (bg r) 0 E.P ops Q i K a w:=by
 rw[mT] at hx;unfold wpOpIn;rw[hi];simp only;cases hb:cu ops s.st.t o.guard with
 |none=>rw[hb] at hx;exact hx.elim
 | some b=>
   rw[hb] at hx;have hw:=(match h with|⟨_,_,_,⟨⟨_,_,hrel⟩,_⟩,_⟩=>gb hrel hb);rw[hw];cases b with
   | true=>
     simp only[adB];rw[qB] at hx;cases hT:rQ E.P F o (ev E s.st) s.H with
     |some T=>rw[hT] at hx;refine tX r (fun c e=>?_) (Ch hE hF hI hY h hT hdo hx (fun a' w' v H' hR h'=>hK _ a' w' hR h'));unfold rQ at hT;rw[hY.1 o _ _ c e,yb] at hT;unfold x9 at hT;rw[e] at hT;cases hT
     | none=>
       rw[hT,qA] at hx;cases he:dt E o s.st with
       |none=>rw[he] at hx;exact hx.elim
       |some st'=>rw[he] at hx;exact tX r (lc he) (Yh hE h he hdo (fun a' w' h'=>hK _ a' w' hx h'))
   |false=>simp only[adI,adw];rw[oC] at hx;exact⟨fun _ _=>trivial,hK _ _ _ hx (by have:=h.put hdo (u:= .x (.tuple #[])) (v:= .tuple #[]) (fun m=> .x _);rwa [dB] at this)⟩
theorem qD(hE:EnvOK E)(hF:∀f C,F.F f=some C->cR E f C)(hI:∀t name C,F.I t name=some C->ja E t name C)(hY:HX E F.Y){ops:Array Oper}{K:XS->Prop}{Q:Exit->Act->World->Prop}(hQ:∀s' a' w',K s'->HoldX E n B s' a' w'->Q .normal a' w'):
 ∀(l:List Oper) (is:List Nat) (s:XS) (a:Act) (w:World),(∀j:Nat,(is[j]?).bind (ops[·]?)=l[j]?)->is.length=l.length->bu n l=true->HoldX E n B s a w->fo E F ops l s K->wpOpsIn (bg r) 0 E.P ops Q is a w
 | [],is,s,a,w,_,hl,_,h,hx=>by
   cases is with
   |nil=>exact hQ _ _ _ hx h
   |cons i is=>simp at hl
 | o ::l,is,s,a,w,hj,hl,hd,h,hx=>by
   cases is with
   |nil=>simp at hl
   | cons i is=>
     rw[wpOpsIn_cons];have hi:ops[i]?=some o:=by simpa using hj 0
     have hdl:bu n l=true:=by simp only[bu,aeo,ado] at hd;exact hd.2
     rw[K1] at hx;exact nU hE hF hI hY hi (du hd (o:=o) A0k) h hx (fun s' a' w' hx' h'=>qD hE hF hI hY hQ l is s' a' w' (fun j=>by simpa using hj (j+1)) (by simpa using hl) hdl h' hx')
theorem Ci(hE:EnvOK E)(hm:E.P.follows .mixedOrders=true)(hF:∀f C,F.F f=some C->cR E f C)(hI:∀t name C,F.I t name=some C->ja E t name C)(hY:HX E F.Y){ops:List Oper}{K:XS->Prop}{Q:Exit->Act->World->Prop}(hQ:∀s' a' w',K s'->HoldX E n B s' a' w'->Q .normal a' w'){id:Nat}(hd:bu n ops=true)(h:HoldX E n B s a w)(hx:GH E F ops s K):(Code.region id ⟨ops⟩ true).wpIn (bg r) 0 E.P Q a w:=by
 obtain⟨need,I,val0,hok,hps,hI0,hstep,hend⟩:=hx;refine x7 hm hok (fun L a w=>∃H val bx,I L H val bx∧HoldX E n B ⟨MS s.st val ops L bx,H⟩ a w) ?_ (fun a w ⟨H,val,bx,h1,h2⟩=>?_) ⟨s.H,val0,s.st.b,hI0,by unfold MS;rw[QT];exact h.drew hE⟩
 . rintro L i o a w K' ho hr hcl ⟨H,val,bx,h1,h2⟩ hK;obtain⟨hb,hdd⟩:=nO ho hr;refine nU hE hF hI hY (by simpa using ho) (fun k hk=>du hd (adg ho) k hk) h2 (hstep L i o H val bx ho hb hdd hcl h1 (fun k hk=>?_)) (fun s' a' w' ⟨val',hv,bx',hI',hle⟩ h'=>hK a' w' ⟨s'.H,val',bx',hI',(h'.le hle).le (st':=MS s.st val' ops (L|||2^i) bx') ⟨fun k=>?_,fun s cs h=>⟨cs,h,fG cs⟩⟩⟩)
   . refine fM ?_;have h3:=adr.1 hps i (adU.2 (iO.1 ho).1);rw[ho] at h3;obtain⟨j,hj,hjk⟩:=aeJ.1 (adr.1 h3 k hk);unfold cN;refine aeJ.2 ⟨j,adU.2 ?_,by rw[hdd j hj,ae1];exact hjk⟩;unfold jF at hjk;split at hjk
     . rename_i o' ho';exact(iO.1 ho').1
     . cases hjk
   . have h1:=(Ec (st:=s.st) (L:=L) ho hv).t k;unfold B4;cases hdst:o.dst with
     |none=>rw[hdst] at h1;exact h1
     |some d=>rw[hdst] at h1;exact h1
 . obtain⟨ts,bs,q1,q2,hk⟩:=hend H val bx h1;exact hQ _ a w hk (h2.le (aK q1 q2))
def yH(any anyX PX:Nat->Bool)(n:Nat):Code->Bool
 | .region id ops d=>bu n ops.toList&&(!d||(anyX id||(any id||t6 ops)))
 | .seq a b=>(match a with| .region id _ _=>PX id|_=>false)||(yH any anyX PX n a&&yH any anyX PX n b)
 | .cond _ a b=>yH any anyX PX n a&&yH any anyX PX n b
 | .block _ a=>yH any anyX PX n a
 | .loop a=>yH any anyX PX n a
 |_=>true
def K7(E:Env)(n:Nat)(B:Xb)(K:Out->XS->Prop)(e:Exit)(a:Act)(w:World):Prop:=∃o s,eL e=some o∧K o s∧HoldX E n B s a w
def qE(E:Env)(n:Nat)(r:Option Nat)(p:Code×(XS->(Out->XS->Prop)->Prop)):Prop:=∀(B:Xb) (s:XS) (K:Out->XS->Prop) (a:Act) (w:World),HoldX E n B s a w->p.2 s K->p.1.wpIn (bg r) 0 E.P (K7 E n B K) a w
theorem ma(hE:EnvOK E)(hm:E.P.follows .mixedOrders=true)(hF:∀f C,F.F f=some C->cR E f C)(hI:∀t name C,F.I t name=some C->ja E t name C)(hY:HX E F.Y)(hP:∀id p,F.P id=some p->qE E n r p):∀(c:Code) (K:Out->XS->Prop) (s:XS) (a:Act) (w:World),yH E.any F.any (fun id=>(F.P id).isSome) n c=true->HoldX E n B s a w->c9 E F c s K->c.wpIn (bg r) 0 E.P (K7 E n B K) a w:=by
 intro c
 induction c with
 |skip=>intro K s a w _ h hr;exact wpIn_skip ⟨.normal,s,rfl,hr,h⟩
 | region id ops d=>
   intro K s a w hok h hr;simp only[yH,ado] at hok;cases d with
   | true=>
     unfold c9 at hr;cases ha:F.any id with
     |true=>rw[ha] at hr;exact Ci (ops:=ops.toList) hE hm hF hI hY (fun s' a' w' hk h'=>⟨.normal,s',rfl,hk,h'⟩) hok.1 h hr
     |false=>rw[ha] at hr hok;exact wpIn_mono (SZ (r:=r) hE hm (by simp only[be,ado];exact hok) h hr) (fun e a' w' ⟨o,st',h1,h2,h3⟩=>⟨o,_,h1,h2,h3⟩)
   | false=>
     refine wpIn_region (qD hE hF hI hY (fun s' a' w' hk h'=>⟨.normal,s',rfl,hk,h'⟩) ops.toList _ s a w (fun j=>?_) A0k hok.1 h hr);rcases aeb j ops.size with h'|h'
     . rw[aeD h'];simp
     . rw[adM (by simpa using h')];simp[h']
 | seq x y ihx ihy=>
   intro K s a w hok h hr;cases hp:fp F x with
   | some p=>
     have hid:∃id,F.P id=some p:=by
      unfold fp at hp;split at hp
      . exact⟨_,hp⟩
      . cases hp
     obtain⟨id,hid⟩:=hid;unfold c9 at hr;rw[hp] at hr;obtain⟨he,hW⟩:p.1= .seq x y∧p.2 s K:=hr;exact he▸hP id p hid B s K a w h hW
   |none=>
   have hok:yH E.any F.any (fun id=>(F.P id).isSome) n x=true∧yH E.any F.any (fun id=>(F.P id).isSome) n y=true:=by
    simp only[yH,aeK,ado] at hok;rcases hok with hok|hok
    . unfold fp at hp;split at hok
      . simp only at hp;rw[hp] at hok;cases hok
      . cases hok
    . exact hok
   unfold c9 at hr;rw[hp] at hr;replace hr:c9 E F x s (fun o s'=>match o with| .normal=>c9 E F y s' K|o=>K o s'):=hr;refine wpIn_seq (wpIn_mono (ihx _ s a w hok.1 h hr) ?_);rintro e a' w' ⟨o,s',ho,hk,h'⟩;cases e<;>simp only[eL,adO,reduceCtorEq] at ho<;>subst ho
   all_goals first|exact ihy K s' a' w' hok.2 h' hk|exact⟨_,s',rfl,hk,h'⟩
 | cond c x y ihx ihy=>
   intro K s a w hok h hr;simp only[yH,ado] at hok;unfold c9 at hr;split at hr
   . rename_i t ht;exact wpIn_cond_split (h.ev c ht) (fun e=>ihx K s a w hok.1 h (hr.1 e)) (fun e=>ihy K s a w hok.2 h (hr.2 e))
   . exact hr.elim
 | block id x ih=>
   intro K s a w hok h hr;refine wpIn_block (wpIn_mono (ih _ s a w hok h hr) ?_);rintro e a' w' ⟨o,s',ho,hk,h'⟩;cases e<;>simp only[eL,adO,reduceCtorEq] at ho<;>subst ho<;>first|exact⟨_,s',rfl,hk,h'⟩|skip
   rename_i id';simp only[Exit.inBlock] at hk⊢;by_cases hid:id'=id
   . simp only[hid,adB] at hk⊢;exact⟨_,s',rfl,hk,h'⟩
   . simp only[hid,adw] at hk⊢;exact⟨_,s',rfl,hk,h'⟩
 | loop x ih=>
   intro K s a w hok h hr;obtain⟨X,T,B',J,μ,x0,⟨h0,hJ0⟩,hround⟩:=hr;let S:Act->World->Nat->Prop:=fun a' w k=>∃x H,μ x=k∧J x H∧HoldX E n B ⟨aq (T x) (B' x),H⟩ a' w
   let ν:Act->World->Nat:=fun a w=>Classical.epsilon fun k=>S a w k∧∀j,S a w j->k<=j
   have hspec:∀a w,(∃k,S a w k)->S a w (ν a w)∧∀j,S a w j->ν a w<=j:=fun a w ⟨k,hk⟩=>ago (Dy _ k hk)
   refine wpIn_loop (fun a w=>∃k,S a w k) ν ⟨_,x0,s.H,rfl,hJ0,h.le h0⟩ ?_;intro a1 w1 hS;obtain⟨x,H,hx,hJ,hrel⟩:=(hspec a1 w1 hS).1;refine wpIn_mono (ih _ ⟨aq (T x) (B' x),H⟩ a1 w1 hok hrel (hround x H hJ)) ?_;rintro e a' w' ⟨o,s',ho,hk,h'⟩;cases e<;>simp only[eL,adO,reduceCtorEq] at ho<;>subst ho<;>first|exact⟨_,s',rfl,hk,h'⟩|skip
   obtain⟨x',⟨q1,q2,hJ'⟩,hlt⟩:=hk;have hS':S a' w' (μ x'):=⟨x',s'.H,rfl,hJ',h'.le (aK q1 q2)⟩;refine⟨⟨_,hS'⟩,?_⟩;have:ν a' w'<=μ x':=(hspec a' w' ⟨_,hS'⟩).2 _ hS';omega
 |label l=>intro K s a w _ h hr;exact wpIn_label ⟨.normal,s,rfl,hr,h⟩
 |exit id=>intro K s a w _ h hr;exact wpIn_exit ⟨_,s,rfl,hr,h⟩
 |ret=>intro K s a w _ h hr;exact wpIn_ret ⟨_,s,rfl,hr,h⟩
 |_=>intro K s a w _ h hr;simp[c9] at hr
def S4(E:Env)(rs:List ResultVar)(T:V->HH->Prop):Out->XS->Prop
 | .exit _,_=>False
 |_,s=>jR (eX E s.st rs) fun r=>T r s.H
def K8(r:V)(H:HH)(T:V->HH->Prop):Prop:=∃(Z:Nat->Bool) (u:V),(∀m w v,(∀g ob,H g=some ob->w.heap[g]?=some ob)->(∀g,Z g=true->H g≠none->m g=none)->Rd m w v r->Rd m w v u)∧T u (fun g=>if Z g=true then none else H g)
def S5(E:Env)(rs:List ResultVar)(T:V->HH->Prop):Out->XS->Prop
 | .exit _,_=>False
 |_,s=>jR (eX E s.st rs) fun r=>K8 r s.H T
theorem yI{D:List Deferred}(hE:EnvOK E){fn:Func}{R:Ending->World->Prop}(hK:E.K<=B.ws.heap.size)
 (hR:∀(w:World) (m:Lim) (O:Nat->Prop),Now E n D O m s.st a w->(∀g ob,s.H g=some ob-> ¬O g∧w.heap[g]?=some ob∧m g=some 0∧(B.ws.heap.size<=g∨B.X g)∧E.K<=g)->Step B.X B.ms B.ws m w->∃v,(results fn a.tmps).run E.P w= .ok v w∧R (.returned v) w):∀(D':List Deferred) (w:World) (m:Lim) (O:Nat->Prop),Now E n D O m s.st a w->(∀g ob,s.H g=some ob-> ¬O g∧w.heap[g]?=some ob∧m g=some 0∧(B.ws.heap.size<=g∨B.X g)∧E.K<=g)->Step B.X B.ms B.ws m w->nT D' O B.ws.heap.size w s.H->LeavesInM (bg none) 0 E.P fn a.tmps R D' .returning w
 |[],w,m,O,h1,h2,h3,h4=>hR w m O h1 h2 h3
 | d::D',w,m,O,h1,h2,h3,h4=>by
   obtain⟨b,rfl,q1,q2,q3,q4⟩:=h4.2 d (adP ..);have hs:Step (fun k=>k=b) m w m (w.putObj b (.deferred none)):=Step.mark q2;have hJ:E.J (w.putObj b (.deferred none)):=hE.keep [b] _ _ (fun x hx=>by rw[adj.1 hx];exact adJ hK q1) h1.J (hs.bel (fun k _ e=>adj.2 e));have hnb:=(adY.1 h4.1).1;refine⟨ A0I,.inl ⟨b,_,rfl,run_takeDeferred q2,yI hE hK hR D' _ m O (h1.other hs (fun k hk e=>q3 (e▸hk)) hJ) (fun g ob hg=>?_) (h3.next hs (fun i hi e=>absurd hi (ad0.2 (e▸q1)))) ⟨(adY.1 h4.1).2,fun x hx=>?_⟩⟩⟩
   . obtain⟨r1,r2,r3⟩:=h2 g ob hg;exact⟨r1,(World.putObj_heap_other (fun e=>by rw[e,q4] at hg;cases hg)).trans r2,r3⟩
   . obtain⟨b',rfl,r1,r2,r3,r4⟩:=h4.2 x (adE _ hx);exact⟨b',rfl,r1,(World.putObj_heap_other (fun e=>hnb (by rw[e] at hx;exact hx))).trans r2,r3,r4⟩
theorem HoldX.leaves(hE:EnvOK E)(h:HoldX E n B s a w){fn:Func}{R:Ending->World->Prop}(hK:E.K<=B.ws.heap.size)
 (hR:∀(D:List Deferred) (w:World) (m:Lim) (O:Nat->Prop),Now E n D O m s.st a w->(∀g ob,s.H g=some ob-> ¬O g∧w.heap[g]?=some ob∧m g=some 0∧(B.ws.heap.size<=g∨B.X g)∧E.K<=g)->Step B.X B.ms B.ws m w->∃v,(results fn a.tmps).run E.P w= .ok v w∧R (.returned v) w):LeavesInM (bg none) 0 E.P fn a.tmps R a.defers .returning w:=by
 obtain⟨D,m,O,q1,q2,q4,q5,q6⟩:=h;have hd:a.defers=D:=by obtain⟨_,_,hr⟩:=q1.rel;exact hr.defers
 rw[hd];exact yI hE hK (hR D) D w m O q1 q2 q5 q6.2
theorem K9(hE:EnvOK E)(hm:E.P.follows .mixedOrders=true)(hF:∀f C,F.F f=some C->cR E f C)(hI:∀t name C,F.I t name=some C->ja E t name C)(hP:∀id p,F.P id=some p->qE E n none p){f:FuncId}{fn:Func}{c:Code}{C:U->HH->Tr}{k:Nat}(hf:E.P.funcs[f]?=some fn)(hb:fn.body=some c)(hcall:∀args w,(callFunc f args).run E.P w= .ok (.enter f args) w)(hn:fn.ntmps=n)(hk:k<=n)(hn1:n<=1000)(hok:yH E.any F.any (fun id=>(F.P id).isSome) n c=true)
 (hbody:∀us H T,C us H T->us.all V.dat=true->us.length=k∧c9 E F c ⟨start us,H⟩ (S4 E fn.results.toList T)) (hY:HX E F.Y:=by exact jb):cR E f C:=by
 refine⟨hcall,fun m w vs us H T hC hdat hr hH hj hg=>?_⟩;obtain⟨hl,hrun⟩:=hbody us H T hC hdat;refine cm.1 (callsIn_of_wp_marks (F:=bg none) (n:=0) hf hb trivial ?_);rw[hn];let B:Xb:=⟨fun k=>H k≠none,Kno.top,m,w⟩
 have h0:HoldX E n B ⟨start us,H⟩ {tmps:=vs++Array.replicate (n-vs.size) undef,defers:=[]} w:=
  ⟨[],m,_,Now.first (gx hr hdat hl hk hn1 hj hg),fun g ob e=>⟨fun h=>h.elim,(hH g ob e).1,(hH g ob e).2.1,.inr A1u,(hH g ob e).2.2⟩,fun _ h=>h.elim,Step.refl _ _ _,trivial,ad3,fun d hd=>by cases hd⟩
 refine wpIn_mono (ma (r:=none) hE hm hF hI hY hP c _ _ _ _ hok h0 hrun) ?_;rintro e a' w' ⟨o,s',ho,hk,hX⟩;have fin:(∃r,eX E s'.st fn.results.toList=some r∧T r s'.H)->LeavesInM (bg none) 0 E.P fn a'.tmps (fun e w'=>∃v m' r H',e= .returned v∧Rd m' w' v r∧T r H'∧Step (fun k=>H k≠none) m w m' w'∧∀g ob,H' g=some ob->w'.heap[g]?=some ob∧m' g=some 0∧(H g≠none∨w.heap.size<=g)) a'.defers .returning w':=by
  rintro⟨r,hres,hT⟩;refine hX.leaves hE (hE.high _ hj) fun D w' m1 O q1 q2 q5=>?_
  obtain⟨b,β,hrel⟩:=q1.rel;obtain⟨v,hv,hd⟩:=gJ hrel hres;exact⟨v,hv,v,m1,r,s'.H,rfl,hd,hT,q5,fun g ob hg=>⟨(q2 g ob hg).2.1,(q2 g ob hg).2.2.1,(q2 g ob hg).2.2.2.1.elim .inr .inl⟩⟩
 cases e<;>simp only[eL,adO,reduceCtorEq] at ho<;>subst ho
 all_goals first|exact fin (dx hk)|exact hk.elim
theorem cO(hE:EnvOK E)(hm:E.P.follows .mixedOrders=true)(hF:∀f C,F.F f=some C->cR E f C)(hI:∀t name C,F.I t name=some C->ja E t name C){f:FuncId}{fn:Func}{c:Code}{C:U->HH->Tr}{k:Nat}(hf:E.P.funcs[f]?=some fn)(hb:fn.body=some c)(hcall:∀args w,(callFunc f args).run E.P w= .ok (.enter f args) w)(hn:fn.ntmps=n)(hk:k<=n)(hn1:n<=1000)(hok:yH E.any F.any (fun id=>(F.P id).isSome) n c=true)
 (hbody:∀us H T,C us H T->us.all V.dat=true->us.length=k∧c9 E F c ⟨start us,H⟩ (S4 E fn.results.toList T)) (hP:∀id,F.P id=none:=by intro _;rfl) (hY:HX E F.Y:=by exact jb):cR E f C:=
 K9 hE hm hF hI (fun id p h=>by rw[hP] at h;cases h) hf hb hcall hn hk hn1 hok hbody hY
theorem yJ(hE:EnvOK E)(hm:E.P.follows .mixedOrders=true)(hF:∀f C,F.F f=some C->cR E f C)(hI:∀t name C,F.I t name=some C->ja E t name C)(hP:∀id p,F.P id=some p->qE E n none p){f:FuncId}{fn:Func}{c:Code}{C:U->HH->Tr}{k:Nat}(hf:E.P.funcs[f]?=some fn)(hb:fn.body=some c)(hcall:∀args w,(callFunc f args).run E.P w= .ok (.enter f args) w)(hn:fn.ntmps=n)(hk:k<=n)(hn1:n<=1000)(hok:yH E.any F.any (fun id=>(F.P id).isSome) n c=true)
 (hbody:∀us H T,C us H T->us.all V.dat=true->us.length=k∧c9 E F c ⟨start us,H⟩ (S5 E fn.results.toList T)) (hY:HX E F.Y:=by exact jb):cR E f C:=by
 refine⟨hcall,fun m w vs us H T hC hdat hr hH hj hg=>?_⟩;obtain⟨hl,hrun⟩:=hbody us H T hC hdat;refine cm.1 (callsIn_of_wp_marks (F:=bg none) (n:=0) hf hb trivial ?_);rw[hn];let B:Xb:=⟨fun k=>H k≠none,Kno.top,m,w⟩
 have h0:HoldX E n B ⟨start us,H⟩ {tmps:=vs++Array.replicate (n-vs.size) undef,defers:=[]} w:=
  ⟨[],m,_,Now.first (gx hr hdat hl hk hn1 hj hg),fun g ob e=>⟨fun h=>h.elim,(hH g ob e).1,(hH g ob e).2.1,.inr A1u,(hH g ob e).2.2⟩,fun _ h=>h.elim,Step.refl _ _ _,trivial,ad3,fun d hd=>by cases hd⟩
 refine wpIn_mono (ma (r:=none) hE hm hF hI hY hP c _ _ _ _ hok h0 hrun) ?_;rintro e a' w' ⟨o,s',ho,hk,hX⟩;have fin:(∃r,eX E s'.st fn.results.toList=some r∧K8 r s'.H T)->LeavesInM (bg none) 0 E.P fn a'.tmps (fun e w'=>∃v m' r H',e= .returned v∧Rd m' w' v r∧T r H'∧Step (fun k=>H k≠none) m w m' w'∧∀g ob,H' g=some ob->w'.heap[g]?=some ob∧m' g=some 0∧(H g≠none∨w.heap.size<=g)) a'.defers .returning w':=by
  rintro⟨r,hres,Z,u,hZ,hT⟩;refine hX.leaves hE (hE.high _ hj) fun D w' m1 O q1 q2 q5=>?_
  obtain⟨b,β,hrel⟩:=q1.rel;obtain⟨v,hv,hd⟩:=gJ hrel hres;have hs:Step (fun k=>s'.H k≠none) m1 w' (fun k=>if Z k=true∧s'.H k≠none then none else m1 k) w':=by
   refine⟨rfl,rfl,rfl,⟨adp _,fun b off v hlt hm hc=>hc,fun b hlt fr' hf=>?_,fun b es c hm hc=>hc⟩,fun k hk hn=>⟨rfl,adq (fun h=>hn h.2)⟩⟩;split at hf
   . cases hf
   . exact⟨fr',hf,adp _⟩
  refine⟨v,hv,v,_,u,_,rfl,hZ _ w' v (fun g ob hg=>(q2 g ob hg).2.1) (fun g h1 h2=>adl ⟨h1,h2⟩) (hd.mono hs.ext),hT,q5.next hs (fun i hi e=>?_),fun g ob hg=>?_⟩
  . cases e':s'.H i with
    |none=>exact absurd e' e
    |some ob=>exact(q2 i ob e').2.2.2.1.resolve_left (afg.2 hi)
  . split at hg
    . cases hg
    . rename_i hz;exact⟨(q2 g ob hg).2.1,by rw[adq (fun h=>hz h.1)];exact(q2 g ob hg).2.2.1,(q2 g ob hg).2.2.2.1.elim .inr .inl⟩
 cases e<;>simp only[eL,adO,reduceCtorEq] at ho<;>subst ho
 all_goals first|exact fin (dx hk)|exact hk.elim
theorem mU(hE:EnvOK E)(hm:E.P.follows .mixedOrders=true)(hF:∀f C,F.F f=some C->cR E f C)(hI:∀t name C,F.I t name=some C->ja E t name C){f:FuncId}{fn:Func}{c:Code}{C:U->HH->Tr}{k:Nat}(hf:E.P.funcs[f]?=some fn)(hb:fn.body=some c)(hcall:∀args w,(callFunc f args).run E.P w= .ok (.enter f args) w)(hn:fn.ntmps=n)(hk:k<=n)(hn1:n<=1000)(hok:yH E.any F.any (fun id=>(F.P id).isSome) n c=true)
 (hbody:∀us H T,C us H T->us.all V.dat=true->us.length=k∧c9 E F c ⟨start us,H⟩ (S5 E fn.results.toList T)) (hP:∀id,F.P id=none:=by intro _;rfl) (hY:HX E F.Y:=by exact jb):cR E f C:=
 yJ hE hm hF hI (fun id p h=>by rw[hP] at h;cases h) hf hb hcall hn hk hn1 hok hbody hY
end
variable{E:Env}{F:Fx}
theorem kP{K:XS->Prop}(need:Nat->List Nat)(I:Nat->HH->(Nat->V)->Prop)(val0:Nat->V)(h1:sX ops=true)(h2:((List.range ops.length).all fun i=>(match ops[i]? with|some o=>(need i).all fun k=>(directV o).any (jF ops k)|none=>true))=true)(h3:I 0 s.H val0)
 (h4:∀(L i:Nat) (o:Oper) (H:HH) (val:Nat->V) (st:St),ops[i]?=some o->L.testBit i=false->(∀k∈directV o,L.testBit k=true)->ClosedM ops L->I L H val->(∀k∈need i,st.t k=val k)->(∀k,(ops.all fun o=>o.dst !=some k)=true->st.t k=s.st.t k)->st.b=s.st.b->
  fo E F ⟨ops⟩ [o] ⟨st,H⟩ fun s'=>∃val',(∀k,o.dst≠some k->val' k=val k)∧I (L|||2^i) s'.H val'∧Le (match o.dst with|some d=>st.put (some d) (val' d)|none=>st) s'.st)
 (h5:∀H val,I (2^ops.length-1) H val->∃ts bs,gw (gC s.st val ops (2^ops.length-1)) ts∧gL (gC s.st val ops (2^ops.length-1)) bs∧K ⟨aq ts bs,H⟩):GH E F ops s K:=by
 refine⟨need,fun L H val bx=>bx=s.st.b∧I L H val,val0,h1,h2,⟨rfl,h3⟩,fun L i o H val bx a b c d ⟨hb,e⟩ f=>?_,fun H val bx ⟨hb,e⟩=>by subst hb;exact h5 H val e⟩;subst hb;have h:=h4 L i o H val (gC s.st val ops L) a b c d e f (fun _ hk=>au hk) rfl;refine Eq.mp (ae6 (fo E F ⟨ops⟩ [o] ⟨gC s.st val ops L,H⟩) (funext fun s'=>propext ⟨?_,?_⟩)) h
 . rintro⟨val',q1,q2,q3⟩;refine⟨val',q1,s.st.b,⟨rfl,q2⟩,?_⟩;unfold B4;cases hd:o.dst<;>(rw[hd] at q3;exact q3)
 . rintro⟨val',q1,bx',⟨rfl,q2⟩,q3⟩;refine⟨val',q1,q2,?_⟩;unfold B4 at q3;cases hd:o.dst<;>(rw[hd] at q3;exact q3)
theorem GQ{x:Nat}{val:Nat->V}(h1:noPtrTo x st.t)(h2:noPtrTo x val):noPtrTo x (gC st val ops L).t:=fun k=>by
 show V.nm (if cN ops L k=true then val k else st.t k)≠_;split
 . exact h2 k
 . exact h1 k
variable{bx:Nat->Option U}
theorem mV{val:Nat->V}(h:(ops.all fun o=>o.dst !=some k)=true):(MS st val ops L bx).t k=st.t k:=au h
theorem La{val:Nat->V}(h:cN ops L k=true):(MS st val ops L bx).t k=val k:=fM h
theorem Lb{K:XS->Prop}(need:Nat->List Nat)(I:Nat->HH->(Nat->V)->(Nat->Option U)->Prop)(val0:Nat->V)(h1:sX ops=true)(h2:((List.range ops.length).all fun i=>(match ops[i]? with|some o=>(need i).all fun k=>(directV o).any (jF ops k)|none=>true))=true)(h3:I 0 s.H val0 s.st.b)
 (h4:∀(L i:Nat) (o:Oper) (H:HH) (val:Nat->V) (bx:Nat->Option U) (t:Nat->V),ops[i]?=some o->L.testBit i=false->(∀k∈directV o,L.testBit k=true)->ClosedM ops L->I L H val bx->(∀k∈need i,t k=val k)->(∀k,(ops.all fun o=>o.dst !=some k)=true->t k=s.st.t k)->(∀x,noPtrTo x s.st.t->noPtrTo x val->noPtrTo x t)->
  fo E F ⟨ops⟩ [o] ⟨⟨t,bx⟩,H⟩ fun s'=>∃val',(∀k,o.dst≠some k->val' k=val k)∧∃bx',I (L|||2^i) s'.H val' bx'∧Le (B4 o.dst ⟨t,bx⟩ val' bx') s'.st)
 (h5:∀H val bx,I (2^ops.length-1) H val bx->∃ts bs,gw (MS s.st val ops (2^ops.length-1) bx) ts∧gL (MS s.st val ops (2^ops.length-1) bx) bs∧K ⟨aq ts bs,H⟩):GH E F ops s K:=
 ⟨need,I,val0,h1,h2,h3,fun L i o H val bx a b c d e f=>h4 L i o H val bx (gC s.st val ops L).t a b c d e f (fun _ hk=>au hk) (fun _=>GQ),h5⟩
theorem nV{K:XS->Prop}(need:Nat->List Nat)(val:Nat->V)(ts:List (Nat×V))(bs:List (Nat×U))(h1:sX ops=true)(h2:((List.range ops.length).all fun i=>(match ops[i]? with|some o=>(need i).all fun k=>(directV o).any (jF ops k)|none=>true))=true)
 (h4:∀(st:St) (i:Nat) (o:Oper),ops[i]?=some o->(∀k∈need i,st.t k=val k)->(∀k,(ops.all fun o=>o.dst !=some k)=true->st.t k=s.st.t k)->st.b=s.st.b->fo E F ⟨ops⟩ [o] ⟨st,s.H⟩ fun s'=>∃val',(∀k,o.dst≠some k->val' k=val k)∧(s'.H=s.H∧val'=val)∧Le (match o.dst with|some d=>st.put (some d) (val' d)|none=>st) s'.st)
 (h5:gw (gC s.st val ops (2^ops.length-1)) ts∧gL (gC s.st val ops (2^ops.length-1)) bs∧K ⟨aq ts bs,s.H⟩):GH E F ops s K:=by
 refine kP need (fun _ H val'=>H=s.H∧val'=val) val h1 h2 ⟨rfl,rfl⟩ ?_ ?_
 . rintro L i o H val' st ho _ _ _ ⟨rfl,rfl⟩ hn hb hbb;exact h4 st i o ho hn hb hbb
 . rintro H val' ⟨rfl,rfl⟩;exact⟨ts,bs,h5.1,h5.2.1,h5.2.2⟩
def yK:List (FuncId×(U->HH->Tr))->FuncId->Option (U->HH->Tr)
 |[],_=>none
 |p::l,f=>if p.1=f then some p.2 else yK l f
def Yk(E:Env):List (FuncId×(U->HH->Tr))->Prop
 |[]=>True
 |p::l=>cR E p.1 p.2∧Yk E l
theorem gU{E:Env}:∀{l:List (FuncId×(U->HH->Tr))},Yk E l->∀f C,yK l f=some C->cR E f C
 |[],_,f,C,e=>by cases e
 | p::l,h,f,C,e=>by
   unfold yK at e;split at e
   . rename_i hp;subst hp;cases e;exact h.1
   . exact gU h.2 f C e
theorem Lc(k:FuncId)(C:U->HH->Tr)(l:List (FuncId×(U->HH->Tr)))(f:FuncId):yK ((k,C)::l) f=if k=f then some C else yK l f:=rfl
theorem Pw(f:FuncId):yK [] f=none:=rfl
attribute [go_sem] Lc Pw
theorem Lf(k:IntKind)(i:Int):nP (.x (.int k i))=some [.int k i]:=rfl
theorem GR(b:Bool):nP (.bool b)=some [.bool b]:=rfl
theorem Lj(v:Value)(n:Nat):(madeCells #[v] n).toList=List.replicate n v:=by rw[List.eq_replicate_iff];refine⟨by simp[madeCells],fun b hb=>?_⟩;simp only[madeCells,agw,agk,ads] at hb;obtain⟨x,_,rfl⟩:=hb;simp[Nat.mod_one]
attribute [go_sem] Lj
theorem getD_some{α:Type}(a b:α):(some a).getD b=a:=rfl
theorem map_some{α β:Type}(f:α->β)(a:α):(some a).map f=some (f a):=rfl
attribute [go_sem] rU B7 yq uM B9 Ca K0 GG BW BY BZ qA qB oC GJ yk GK B6 ym K3 GL Cb GM GN K4 yz K5 GO rV Cc yA Cd yB
attribute [go_sem] rT B0 yg GE Lf GR rQ x9 yb uG qu qw BS qx BT uH uI uJ qy nQ BU BV S4 S5 getD_some map_some
attribute [congr] GF yi yy yp yd ye yf yC Ce uN Cf uK BR
section
variable{P:Program}{w:World}{t:TypeId}{i:TypeInfo}{mt:Method}{name:String}{f:FuncId}{v:Value}{args:Array Value}
variable{e:TypeId}
theorem Cl(h0:P.types.size≠0)(hi:P.info? t=some i)(hm:i.methods.find? (·.name==name)=some mt)(hp:mt.path= #[])(hf:mt.func=some (f,true))(hu:P.underlying t=some (.pointer e)):(callMethod (.iface t v) name args).run P w=(callFunc f (#[v]++args)).run P w:=by obtain⟨k,hk⟩:∃k,P.types.size+Made.depth=k+1:=⟨P.types.size+Made.depth-1,A0b⟩;simp only[callMethod,Gc,run_program,Ge,hk,method,run_typeInfo _ hi,hm,hp,hf,follow,Gd,receiverAt,aC hu,Place.get]
variable{off:Nat}
theorem yL{st ix:Nat}{fs:Array Field}{fd:Field}{td:TypeDesc}{r:Value}(h0:P.types.size≠0)(hi:P.info? t=some i)(hm:i.methods.find? (·.name==name)=some mt)(hp:mt.path= #[⟨st,ix,true⟩])(hf:mt.func=some (f,false))(hs:P.underlying st=some (.struct fs))(hfd:fs[ix]?=some fd)(hsz:bo P fd.type=some (k+1))(ha:aR P fd.type=some false)(hu:P.underlying fd.type=some td)(hnp:∀e,td≠ .pointer e)(hc:w.cell? ⟨g,off+fd.offset,none⟩=some r):
 (callMethod (.iface t (.pointer (some ⟨g,off,none⟩))) name args).run P w=(callFunc f (#[r]++args)).run P w:=by
 obtain⟨k,hk⟩:∃k,P.types.size+Made.depth=k+1:=⟨P.types.size+Made.depth-1,A0b⟩;have hrec:(receiverAt fd.type (.var ⟨g,off+fd.offset,none⟩) false none).run P w= .ok r w:=by simp only[receiverAt,Gc,aC hu,Ge];cases td<;>first|exact absurd rfl (hnp _)|simp only[Place.get,loadVar,Gc,gE ha,Ge,adI,adw,run_load,hc]
 simp only[callMethod,Gc,run_program,Ge,hk,method,run_typeInfo _ hi,hm,hp,hf,follow,Gd,aC hs,hfd,adB,Place.get,asAddr,fieldPlace,bN hsz,aP,Nat.add_one_ne_zero,adw];simp[hrec]
end
def Ee(P:Program)(t:TypeId)(name:String):Option (Array FieldStep×Option (FuncId×Bool)):=match P.info? t with
 |some i=>(i.methods.find? (·.name==name)).map fun m=>(m.path,m.func)
 |none=>none
variable{P:Program}{t:TypeId}{name:String}
theorem yM{p:Array FieldStep}{f:Option (FuncId×Bool)}(h:Ee P t name=some (p,f)):∃i m,P.info? t=some i∧i.methods.find? (·.name==name)=some m∧m.path=p∧m.func=f:=by
 unfold Ee at h;split at h
 case h_2=>cases h
 rename_i i hi;obtain⟨m,hm,e⟩:=adn.1 h;cases e;exact⟨i,m,hi,hm,rfl,rfl⟩
def S6(P:Program)(t:TypeId)(f:Nat):Option (TypeId×Nat):=match P.underlying t with
 |some (.struct fs)=>(fs[f]?).map fun d=>(d.type,d.offset)
 |_=>none
variable{off:Nat}
theorem Px{f ty:Nat}(h:S6 P t f=some (ty,off)):∃fs d,P.underlying t=some (.struct fs)∧fs[f]?=some d∧d.type=ty∧d.offset=off:=by
 unfold S6 at h;split at h
 case h_2=>cases h
 rename_i fs hfs;obtain⟨d,hd,e⟩:=adn.1 h;cases e;exact⟨fs,d,hfs,hd,rfl,rfl⟩
theorem Ef(h:v.oneCell'=true):(V.x v).dat=true:=by cases v<;>first|rfl|cases h
variable{f:FuncId}{e:TypeId}
theorem yN{C':U->HH->Tr}{C:Value->U->HH->Tr}(hfun:cR E f C')(h0:E.P.types.size≠0)(hmt:Ee E.P t name=some (#[],some (f,true)))(hu:E.P.underlying t=some (.pointer e))
 (hC:∀v us H T,C v us H T->(V.x v).dat=true∧C' (.x v::us) H T):ja E t name C:=by
 intro m w v vs us H T h hdat hr hH hj hg;obtain⟨i,mt,hi,hm,hp,hf⟩:=yM hmt;refine⟨f,v,(Cl h0 hi hm hp hf hu).trans (hfun.1 _ w),?_⟩;exact hfun.2 m w (#[v]++vs) (.x v::us) H T (hC _ _ _ _ h).2 (by simp only[aeo,hdat,afd];exact(hC _ _ _ _ h).1) (by simpa using⟨Rd.x v,hr⟩) hH hj hg
theorem nW(st ix ty off k:Nat)(td:TypeDesc){name:String}{C':U->HH->Tr}{C:Value->U->HH->Tr}(hfun:cR E f C')(h0:E.P.types.size≠0)(hmt:Ee E.P t name=some (#[⟨st,ix,true⟩],some (f,false)))(hfl:S6 E.P st ix=some (ty,off))(hsz:bo E.P ty=some (k+1))(ha:aR E.P ty=some false)(hu:E.P.underlying ty=some td)(hnp:∀e,td≠ .pointer e)
 (hC:∀v us H T,C v us H T->∃g r l ty,v= .p g∧H g=some (rowO l ty)∧l[off]?=some r∧(V.x r).dat=true∧C' (.x r::us) H T):ja E t name C:=by
 intro m w v vs us H T h hdat hr hH hj hg;obtain⟨i,mt,hi,hm,hp,hf⟩:=yM hmt;obtain⟨fs,fd,hs,hfd,rfl,rfl⟩:=Px hfl;obtain⟨g,r,l,ty,rfl,hl,hx,hd,hC'⟩:=hC _ _ _ _ h;have hh:=(hH g _ hl).1;refine⟨f,r,(yL h0 hi hm hp hf hs hfd hsz ha hu hnp (r:=r) (by rw[adi,Box.cell hh,aew];exact hx)).trans (hfun.1 _ w),?_⟩;exact hfun.2 m w (#[r]++vs) (.x r::us) H T hC' (by simp only[aeo,hdat,afd];exact hd) (by simpa using⟨Rd.x r,hr⟩) hH hj hg
variable{m m':Lim}{cs:U}
theorem Ll{w:World}(h:BoxAt m w g cs)(he:Ext m w m' w)(hm:m' g=none):Rd m' w (.p g) (.ip cs):=by
 obtain⟨_,vals,ty,xs,rest,hh,hx,hr⟩:=h;have hr':=hr.mono he;have hl:=hr'.length;refine .ip g 0 cs (fun k=>(xs[k]?).getD undef) (ag hh) (fun k hk=>?_) (fun fr hf=>by rw[hm] at hf;cases hf) (fun k d hd=>?_)
 . rw[Box.cell hh,<-adF,hx,adi,adu A0b,io A0b];rfl
 . have hk:=(iO.1 hd).1;rw[io (show k<xs.length by omega)];exact hr'.get k _ _ (io A0b) hd
def S7(K:St->Prop):Out->St->Prop
 | .normal,st=>K st
 |_,_=>False
def GT(K:XS->Prop):Out->XS->Prop
 | .normal,s=>K s
 |_,_=>False
theorem yO(K:St->Prop)(st:St):S7 K .normal st=K st:=rfl
theorem yP(K:XS->Prop)(s:XS):GT K .normal s=K s:=rfl
theorem Cm(K:XS->Prop)(s:XS){o o':Out}(h:o=o'):GT K o s=GT K o' s:=by rw[h]
theorem yQ:∀(T:List (Nat×V)),(T.all fun p=>p.2.dat)=true->∀i,bX T i= .undef∨(bX T i).dat=true
 |[],_,i=> .inl rfl
 | (k,v)::l,h,i=>by
   simp only[aeo,ado] at h;by_cases e:i=k
   . subst e;exact .inr (by rw[show bX ((i,v)::l) i=v from aj _ _ _];exact h.1)
   . rw[show bX ((k,v)::l) i=bX l i from ah _ _ e];exact yQ l h.2 i
section
variable{E:Env}{n:Nat}{B:Xb}{F:Fx}{s:XS}{a:Act}{w w':World}{r:Option Nat}
theorem HoldX.toIp(hMB:∀s,E.MB s=false)(h:HoldX E n B s a w){i v:Nat}{cs:U}{st':St}(hi:s.st.t i= .ptr v 0)(hin:i<n)(hb:s.st.b v=some cs)(hl:Le st' s.st)(hbn:st'.b v=none):HoldX E n B ⟨⟨upd st'.t i (.ip cs),st'.b⟩,s.H⟩ a w:=by
 obtain⟨D,m,O,q1,q2,q4,q5,q6⟩:=h;obtain⟨g,hg,hK,hbox,hptr,_,hn⟩:=Now.shed hMB q1 hb hl hbn;have hs:=Step.freeze g m w;have hn':=hn.other hs (fun k hk e=>hk.2 e) q1.J;have hrd:Rd (upd m g none) w (a.tmps.getD i undef) (.ip cs):=by rw[hptr i hi];exact Ll hbox hs.ext (aj _ _ _)
 have hn2:=hn'.learn hin hrd;rw[mn] at hn2;refine⟨D,_,_,hn2,fun g' ob hg'=>?_,fun k hk=>q4 k hk.1,q5.next hs (fun i hi e=>by subst e;exact(q4 _ hg).resolve_left (afg.2 hi)),B.Kn.mono _ _ _ _ q6.1 hs.ext,q6.2.1,fun d hd=>?_⟩
 . obtain⟨r1,r2,r3,r4⟩:=q2 g' ob hg';exact⟨fun hk=>r1 hk.1,r2,by rw[ah _ _ (show g'≠g from fun e=>r1 (e.symm▸hg))];exact r3,r4⟩
 . obtain⟨b,rfl,p1,p2,p3,p4⟩:=q6.2.2 d hd;exact⟨b,rfl,p1,p2,fun hk=>p3 hk.1,p4⟩
theorem HoldX.kn{Kn':Kno}(h:HoldX E n {B with Kn:=Kn'} s a w)(hk:∀m w,Kn'.P m w->B.Kn.P m w):HoldX E n B s a w:=by obtain⟨D,m,O,q1,q2,q4,q5,q6⟩:=h;exact⟨D,m,O,q1,q2,q4,q5,hk _ _ q6.1,q6.2⟩
theorem Lm(Kn':Kno){ops:List Oper}{Q:Exit->Act->World->Prop}{i:Nat}{rest:List Nat}{o:Oper}{d:Tmp}{f:FuncId}{args:Array Operand}{ts:Array TypeId}{R:Ending->World->Prop}{u:V}(hi:ops[i]?=some o)(hop:o.op= .call {callee:= .value (.func f),args:=args,argTypes:=ts})(hd:o.dst=some d)(hdn:d<n)(hg:o.guard=none)
 (hcall:∀args w,(callFunc f args).run E.P w= .ok (.enter f args) w) (h:HoldX E n B s a w)
 (hc:∀m D O,Now E n D O m s.st a w->B.Kn.P m w->Calls E.P f (args.map a.eval) w R)
 (hR:∀m D O,Now E n D O m s.st a w->B.Kn.P m w->∀e w',R e w'->∃v m',e= .returned v∧Step (fun _=>False) m w m' w'∧E.J w'∧Rd m' w' v u∧Kn'.P m' w'∧(HoldX E n {B with Kn:=Kn'} ⟨s.st.put (some d) u.bare,s.H⟩ (a.put (some d) v) w'->wpOpsIn (bg r) 0 E.P ⟨ops⟩ Q rest (a.put (some d) v) w')):wpOpsIn (bg r) 0 E.P ⟨ops⟩ Q (i::rest) a w:=by
 obtain⟨D,m,O,h1,h2,h4,h5,h6⟩:=h;rw[wpOpsIn_cons];unfold wpOpIn;have hi':(⟨ops⟩:Array Oper)[i]?=some o:=A0m
 rw[hi'];simp only;rw[adl A0u];refine⟨fun _ _=>trivial,?_⟩;rw[Oper.semAt_eq _ _ _ A0J];have hrun:(execOp a.eval o).run E.P w= .ok (.enter f (args.map a.eval)) w:=by simp only[execOp,hop,resolve,Gc,Act.eval,Deferred.ofValue,Gd,Ge,invoke];simpa using hcall _ _
 rw[hrun];refine⟨(fun e=>by cases e),cm.2 ((hc m D O h1 h6.1).mono ?_)⟩;intro e w' hr;obtain⟨v,m',rfl,hs,hJ,hv,hk,hK⟩:=hR m D O h1 h6.1 e w' hr;show wpOpsIn (bg r) 0 E.P ⟨ops⟩ Q rest (a.put o.dst v) w';rw[hd];refine hK ⟨D,m',O,(h1.other hs (fun _ _ h=>h) hJ).put hdn hv,fun g ob hg=>?_,h4,h5.next hs (fun _ _ h=>h.elim),hk,h6.2.1,fun x hx=>?_⟩
 . obtain⟨r1,r2,r3,r4⟩:=h2 g ob hg;have:=hs.same g (ag r2) (fun h=>h);exact⟨r1,this.1.trans r2,this.2.trans r3,r4⟩
 . obtain⟨b,rfl,p1,p2,p3,p4⟩:=h6.2.2 x hx;exact⟨b,rfl,p1,(hs.same b (ag p2) (fun h=>h)).1.trans p2,p3,p4⟩
theorem qF{o:Oper}{K:Act->World->Prop}{Q:Exit->Act->World->Prop}(hE:EnvOK E)(hF:∀f C,F.F f=some C->cR E f C)(hI:∀t name C,F.I t name=some C->ja E t name C){ops:List Oper}{K':XS->Prop}{i:Nat}(hi:ops[i]?=some o)(hdo:∀k,o.dst=some k->k<n)(h:HoldX E n B s a w)(hx:fo E F ⟨ops⟩ [o] s K')(hK:∀s' a' w',K' s'->HoldX E n B s' a' w'->K a' w')(hY:HX E F.Y:=by exact jb):wpOpIn (bg r) 0 E.P ⟨ops⟩ Q i K a w:=
 nU hE hF hI hY A0m hdo h hx hK
variable{D:List Deferred}{O:Nat->Prop}{a':Act}
theorem Now.data{D':List Deferred}{T:List (Nat×V)}(h:Now E n D O m (aq T []) a w)(hT:(T.all fun p=>p.2.dat)=true)(ht:a'.tmps=a.tmps)(hd:a'.defers=D'):Now E n D' (fun _=>False) m (aq T []) a' w:=by
 obtain⟨⟨b,β,hr⟩,_⟩:=h;have hdt:=yQ T hT;have hnot:∀i sz es s,(aq T []).t i= .sl false sz es (some s)->False:=by
  intro i sz es s hi;have hi:bX T i=_:=hi;rcases hdt i with e|e
  . rw[e] at hi;cases hi
  . rw[hi] at e;simp[V.dat] at e
 have hnomp:∀i s ks vs,(aq T []).t i= .mp s ks vs->False:=by
  intro i s ks vs hi;have hi:bX T i=_:=hi;rcases hdt i with e|e
  . rw[e] at hi;cases hi
  . rw[hi] at e;simp[V.dat] at e
 have hnob:∀v sz es s,Bear E w id (aq T []) (fun i=>a'.tmps.getD i undef) v (.sl false sz es (some s))->False:=by
  intro v sz es s hi;rcases hi with⟨i,h1,_⟩|⟨k',c,j,_,h2,_⟩
  . exact hnot i sz es s h1
  . simp[aq,vq] at h2
 refine Now.first (β:=id) (b:=id) ⟨fun i=>?_,by rw[ht];exact hr.size,fun s cs hs=>by simp[aq,vq] at hs,fun s s' cs cs' hs=>by simp[aq,vq] at hs,Bel.refl _ _,⟨hr.par.1,fun _ _=>rfl,fun x hx=>by cases hx⟩,⟨fun _ _ _=>rfl,Ext.refl _ _,fun x hx=>by cases hx⟩,⟨id,fun v sz es s hi=>(hnob v sz es s hi).elim,fun v sz es s v' sz' es' s' hi=>(hnob v sz es s hi).elim,fun v sz es s k cs hi=>(hnob v sz es s hi).elim⟩,fun i s sz len cs hi hs=>by simp[aq,vq] at hs,hd,hr.glob,hr.j,⟨fun i s ks vs hi=>(hnomp i s ks vs hi).elim,fun i j s s' ks vs ks' vs' hi=>(hnomp i s ks vs hi).elim⟩⟩;have h1:=hr.tmps i;show Rs m w id _ (bX T i);rw[ht];have h1:Rs m w β _ (bX T i):=h1;rcases hdt i with e|e
 . rw[e];exact .of (.undef _)
 . exact .of (h1.dat e)
theorem Ln(hE:EnvOK E)(hm:E.P.follows .mixedOrders=true)(hF:∀f C,F.F f=some C->cR E f C)(hI:∀t name C,F.I t name=some C->ja E t name C)(hP:∀id,F.P id=none){g:Operand}{ps:Array Tmp}{assign body:Code}{K:Out->XS->Prop}{gf:FuncId}{lb:Array Value}(h:HoldX E n B s a w)
 (hg:a.eval g= .func (.func gf) #[] lb) (hcall:∀args w,(callFunc gf args).run E.P w= .ok (.enter gf args) w) {Ok Done:List U->Prop}
 (hit:∀m,B.Kn.P m w->∀m1 w1,Step (fun _=>False) m w m1 w1->E.J w1->j9 E (fun _=>False) gf lb Ok Done m1 w1) (T:List (Nat×V)) (hT:gw s.st T) (hTd:(T.all fun p=>p.2.dat)=true)
 (hps:∀p∈ps.toList,p<n) (hlen:∀pre x,Ok (pre++[x])->x.length=ps.size) (hoka:be E.any n assign=true) (hokb:yH E.any F.any (fun id=>(F.P id).isSome) n body=true)
 (J:List U->HH->Prop) (h0:J [] s.H)
 (hround:∀pre x H,Ok (pre++[x])->J pre H->run E assign (ul ps.toList x (aq T [])) (S7 fun st1=>c9 E F body ⟨st1,H⟩ (GT fun s2=>J (pre++[x]) s2.H)))
 (hdone:∀xs H,Done xs->J xs H->K .normal ⟨aq T [],H⟩) (hY:HX E F.Y:=by exact jb):(Code.rangeFunc g ps assign body).wpIn (bg none) 0 E.P (K7 E n B K) a w:=by
 obtain⟨D,m,O,h1,h2,h4,h5,h6⟩:=h;have h1:Now E n D O m (aq T []) a w:=h1.le (aK hT trivial);have hd0:a.defers=D:=by obtain⟨_,_,hr⟩:=h1.rel;exact hr.defers
 have hKB:E.K<=w.heap.size:=hE.high _ h1.J;let hs0:(Nat->Prop)->HH->Lim->World->Prop:=fun O1 H m' w'=>Now E n D O m' (aq T []) a w'∧(∀g ob,H g=some ob-> ¬O g∧ ¬O1 g∧w'.heap[g]?=some ob∧m' g=some 0∧(w.heap.size<=g∨s.H g≠none)∧E.K<=g)∧B.Kn.P m' w'∧w.heap.size<=w'.heap.size
 have stab:∀{O1 S:Nat->Prop} {H:HH} {m1 m2:Lim} {w1 w2:World},hs0 O1 H m1 w1->Step S m1 w1 m2 w2->(∀k,O k∨H k≠none-> ¬S k)->E.J w2->hs0 O1 H m2 w2:=by rintro O1 S H m1 m2 w1 w2 ⟨q1,q2,q3,q4⟩ hs hS hj;refine⟨q1.other hs (fun k hk=>hS k (.inl hk)) hj,fun g ob hg=>?_,B.Kn.mono _ _ _ _ q3 hs.ext,adJ q4 hs.ext.size⟩;obtain⟨r1,r0,r2,r3,r4⟩:=q2 g ob hg;have:=hs.same g (ag r2) (hS g (.inr A1n));exact⟨r1,r0,this.1.trans r2,this.2.trans r3,r4⟩
 let JJ:List U->(Nat->Prop)->Lim->World->Prop:=fun pre Ow m' w'=>∃H,hs0 (fun _=>False) H m' w'∧J pre H∧∀k,Ow k↔(O k∨H k≠none)
 let J1:List U->U->Act->(Nat->Prop)->Lim->World->Prop:=fun pre x a1 Ow m' w'=>∃H st1 O2,hs0 O2 H m' w'∧Now E n [] O2 m' st1 a1 w'∧(∀k,O2 k->w.heap.size<=k∧ ¬O k)∧c9 E F body ⟨st1,H⟩ (GT fun s2=>J (pre++[x]) s2.H)∧∀k,Ow k↔(O k∨H k≠none∨O2 k)
 refine sI (O:=fun k=>O k∨s.H k≠none) (m:=m) (G:=fun _=>False) hE h1.J hg hcall (fun k hk=>hk.elim) (fun m1 w1 hs hj=>hit m h6.1 m1 w1 hs hj) hlen JJ J1 (fun _ _ _ _ _=>False) (fun pre=>⟨?_,?_⟩) (fun pre x a1=>⟨?_,?_⟩) ?_ (fun c pre=>⟨fun _ _ _ _ _ _ h=>h.elim,fun _ _ _ h=>h.elim⟩) ⟨s.H,⟨h1,fun g ob hg=>?_,h6.1,adp _⟩,h0,fun k=>agp⟩ ?_ ?_ ?_ (fun _ _ _ _ _ _ h=>h.elim)
 . rintro Ow m1 w1 S m2 w2 ⟨H,q1,q2,q3⟩ hs hS hj;exact⟨H,stab q1 hs (fun k hk=>hS k ((q3 k).2 hk)) hj,q2,q3⟩
 . rintro Ow m1 w1 ⟨H,q1,q2,q3⟩ k hk;rcases(q3 k).1 hk with hk|hk
   . exact⟨q1.1.lt k hk,q1.1.K k hk⟩
   . cases e:H k with
     |none=>exact absurd e hk
     |some ob=>exact⟨ag (q1.2.1 k ob e).2.2.1,(q1.2.1 k ob e).2.2.2.2.2⟩
 . rintro Ow m1 w1 S m2 w2 ⟨H,st1,O2,q1,q2,q3,q4,q5⟩ hs hS hj;exact⟨H,st1,O2,stab q1 hs (fun k hk=>hS k ((q5 k).2 (hk.imp id .inl))) hj,q2.other hs (fun k hk=>hS k ((q5 k).2 (.inr (.inr hk)))) hj,q3,q4,q5⟩
 . rintro Ow m1 w1 ⟨H,st1,O2,q1,q2,q3,q4,q5⟩ k hk;rcases(q5 k).1 hk with hk|hk|hk
   . exact⟨q1.1.lt k hk,q1.1.K k hk⟩
   . cases e:H k with
     |none=>exact absurd e hk
     |some ob=>exact⟨ag (q1.2.1 k ob e).2.2.1,(q1.2.1 k ob e).2.2.2.2.2⟩
   . exact⟨q2.lt k hk,q2.K k hk⟩
 . rintro pre x a1 Ow m1 w1 ⟨H,st1,O2,q1,q2,_⟩;exact q2.J
 . obtain⟨r1,r2,r3,r4,r5⟩:=h2 g ob hg;exact⟨r1,fun h=>h,r2,r3,.inr A1n,r5⟩
 . --the round's variables
   rintro pre x l Ow m1 w1 vs hok ⟨H,q1,q2,q3⟩ hvs;have hn0:=Now.data (D':=[]) (a':={a with defers:=[]}) q1.1 hTd rfl rfl;obtain⟨hn1,_⟩:=pM (W:=fun _=>true) (ps:=ps.toList) hn0 hvs (fun p hp=>⟨rfl,hps p hp⟩);refine wpIn_mono (jA (r:=some l) (W:=fun _=>true) hE hm hoka (ik _) hn1 (hround pre x H hok q2)) ?_;rintro e a2 w2 ⟨_,o,st',m',ho,hK,hn,hs⟩;cases o with
   |ret=>exact hK.elim
   |exit id=>exact hK.elim
   |normal=>
   have he:e= .normal:=by cases e<;>simp[eL] at ho<;>rfl
   refine⟨he,m',fun k=>O k∨H k≠none∨pK (fun _=>False) w1 w2 k,hs.mono (fun _ _ h=>h.elim),fun k hk=>?_,H,st',pK (fun _=>False) w1 w2,?_,hn,fun k hk=>?_,hK,fun k=>agp⟩
   . rcases hk with hk|hk|hk
     . exact .inl ((q3 k).2 (.inl hk))
     . exact .inl ((q3 k).2 (.inr hk))
     . exact .inr (hk.2.resolve_left (fun h=>h))
   . obtain⟨p1,p2,p3,p4⟩:=stab q1 hs (fun k _ h=>h) hn.J;refine⟨p1,fun g ob hg=>?_,p3,p4⟩;obtain⟨r1,_,r2,r3⟩:=p2 g ob hg;refine⟨r1,fun hgr=>?_,r2,r3⟩;have:=ag (q1.2.1 g ob hg).2.2.1;have:=hgr.2.resolve_left (fun h=>h);omega
   . have hk':=hk.2.resolve_left (fun h=>h);exact⟨adJ q1.2.2.2 hk',fun ho=>absurd (q1.1.lt k ho) (ad0.2 hk')⟩
 . -- the round
   rintro pre x l a1 Ow m1 w1 hok ⟨H,st1,O2,q1,q2,q3,q4,q5⟩;have hX:HoldX E n ⟨fun k=>H k≠none∨O2 k,B.Kn,m1,w1⟩ ⟨st1,H⟩ a1 w1:=⟨[],m1,O2,q2,fun g ob hg=>by obtain⟨r1,r0,r2,r3,r4,r5⟩:=q1.2.1 g ob hg;exact⟨r0,r2,r3,.inr (.inl (by rw[show H g=some ob from hg];simp)),r5⟩,fun k hk=> .inr (.inr hk),Step.refl _ _ _,q1.2.2.1,ad3,fun d hd=>by cases hd⟩
   refine wpIn_mono (ma (r:=some l) hE hm hF hI hY (fun id p h=>by rw[hP] at h;cases h) body _ _ a1 w1 hokb hX q4) ?_;rintro e a2 w2 ⟨o,s2,ho,hK,D2,m2,O3,p1,p2,p4,p5,p6⟩;cases o with
   |ret=>exact hK.elim
   |exit id=>exact hK.elim
   |normal=>
   have he:e= .normal:=by cases e<;>simp[eL] at ho<;>rfl
   subst he;have hXO:∀k,O k-> ¬(H k≠none∨O2 k):=fun k hk h=>by
    rcases h with h|h
    . cases e:H k with
      |none=>exact h e
      |some ob=>exact(q1.2.1 k ob e).1 hk
    . exact(q3 k h).2 hk
   refine⟨m2,fun k=>O k∨s2.H k≠none,p5.mono (fun k _ h=>(q5 k).2 (.inr h)),fun k hk=>?_,p1.J,s2.H,⟨q1.1.other p5 hXO p1.J,fun g ob hg=>?_,p6.1,adJ q1.2.2.2 p5.ext.size⟩,hK,fun k=>agp⟩
   . rcases hk with hk|hk
     . exact .inl ((q5 k).2 (.inl hk))
     . cases e:s2.H k with
       |none=>exact absurd e hk
       | some ob=>
         rcases(p2 k ob e).2.2.2.1 with h|h
         . exact .inr h
         . exact .inl ((q5 k).2 (.inr h))
   . obtain⟨r1,r2,r3,r4,r5⟩:=p2 g ob hg;refine⟨fun ho=>?_,fun h=>h,r2,r3,?_,r5⟩
     . rcases r4 with r4|r4
       . exact absurd (q1.1.lt g ho) (ad0.2 r4)
       . exact hXO g ho r4
     . rcases r4 with r4|r4|r4
       . exact .inl (adJ q1.2.2.2 r4)
       . cases e:H g with
         |none=>exact absurd e r4
         |some ob'=>exact(q1.2.1 g ob' e).2.2.2.2.1
       . exact .inl (q3 g r4).1
 . rintro xs O' m' w' b hD ⟨H,q1,q2,q3⟩ hj hs hO hmk;refine⟨.normal,⟨aq T [],H⟩,rfl,hdone xs H hD q2,markD b::D,m',O,q1.1.marks rfl (by show markD b::a.defers=_;rw[hd0]),fun g ob hg=>?_,h4,h5.next hs (fun i hi ho=>?_),q1.2.2.1,adY.2 ⟨fun hmem=>?_,h6.2.1⟩,fun d hd=>?_⟩
   . obtain⟨r1,_,r2,r3,r4,r5⟩:=q1.2.1 g ob hg;refine⟨r1,r2,r3,?_,r5⟩;rcases r4 with r4|r4
     . exact .inl (adJ h5.ext.size r4)
     . cases e:s.H g with
       |none=>exact absurd e r4
       |some ob'=>exact(h2 g ob' e).2.2.2.1
   . rcases ho with ho|ho
     . exact(h4 i ho).resolve_left (afg.2 hi)
     . cases e:s.H i with
       |none=>exact absurd e ho
       |some ob'=>exact(h2 i ob' e).2.2.2.1.resolve_left (afg.2 hi)
   . obtain⟨b',e,_,r2,_⟩:=h6.2.2 _ hmem;have:b=b':=by simpa[markD] using e
     have:=ag r2;have:=hmk.lo;omega
   . rcases adA.1 hd with rfl|hd
     . refine⟨b,rfl,adJ h5.ext.size hmk.lo,hmk.is,fun ho=>hmk.no ((q3 b).2 (.inl ho)),?_⟩;cases e:H b with
       |none=>exact e
       |some ob=>exact absurd ((q3 b).2 (.inr (by rw[e];simp))) hmk.no
     . obtain⟨b',rfl,r1,r2,r3,r4⟩:=h6.2.2 d hd;refine⟨b',rfl,r1,(hs.same b' (ag r2) (fun h=>h.elim r3 (fun h=>h r4))).1.trans r2,r3,?_⟩;cases e:H b' with
       |none=>exact e
       | some ob=>
         rcases(q1.2.1 b' ob e).2.2.2.2.1 with h|h
         . exact absurd (ag r2) (ad0.2 h)
         . exact absurd r4 h
end
section
variable{E:Env}{n:Nat}{m:Lim}{w:World}{st:St}{a:Act}{Os:Nat->Prop}{ms:Lim}{ws:World}{A:(Nat->Prop)->Lim->World->Prop}
theorem Cn{A1 Ax:(Nat->Prop)->Lim->World->Prop}{l:Nat}{ops:Array Oper}{i:Nat}{o:Oper}(hi:ops[i]?=some o){d:Tmp}(hd:o.dst=some d)(hdn:d<n){c:Operand}{args:Array Operand}{ts:Array TypeId}(hop:o.op= .call {callee:= .value c,args:=args,argTypes:=ts})
 (hg:cu ops st.t o.guard=some true) (hc:ev E st c= .x (.func (.yield l) #[] #[])) (h:Two E n Os ms ws A st a w) {us:U} (hx:(args.toList.map fun x=>(ev E st x).bare)=us) (hxd:us.all V.dat=true)
 (hy:∀O m1 w1 (vs:Array Value),A O m1 w1->RdL m1 w1 vs.toList us->YieldAt (bg none) 0 E.P l vs w1 fun e w2=>∃m2 O2,Step O m1 w1 m2 w2∧(∀k,O2 k->O k∨w1.heap.size<=k)∧E.J w2∧
  ((e= .returned (.bool true)∧A1 O2 m2 w2)∨(e= .returned (.bool false)∧Ax O2 m2 w2)))
 {K:Act->World->Prop} {Q:Exit->Act->World->Prop} (hK1:∀a' w',Two E n Os ms ws A1 (st.put (some d) (.bool true)) a' w'->K a' w') (hK2:∀a' w',Two E n Os ms ws Ax (st.put (some d) (.bool false)) a' w'->K a' w'):wpOpIn (bg none) 0 E.P ops Q i K a w:=by
 obtain⟨m,Oi,O,h1,h2,h3,h4,h5,h6⟩:=h;have hlt:=h1.lt;obtain⟨b,β,hrel⟩:=h1.rel;unfold wpOpIn;rw[hi];simp only;rw[adl (by rw[gb hrel hg])];refine⟨fun _ _=>trivial,?_⟩;rw[Oper.semAt_eq _ _ _ A0J];have hcv:a.eval c= .func (.yield l) #[] #[]:=(hc▸aQ hrel c:Rs m w β (a.eval c) (.x (.func (.yield l) #[] #[]))).x;have hxv:RdL m w (args.map a.eval).toList us:=by have:=kC hrel args.toList (by rw[hx];exact hxd);rw[hx] at this;simpa using this
 obtain⟨fn,tmps,assign,body,hyr,hR⟩:=hy O m w (args.map a.eval) h2 hxv;have hrun:(execOp a.eval o).run E.P w= .ok (.round l fn tmps assign body) w:=by simp only[execOp,hop,resolve,Gc,hcv,Deferred.ofValue,Gd,Ge,invoke];simpa using hyr
 rw[hrun];refine⟨(fun e=>by cases e),RoundIn.mono hR ?_⟩;rintro e w2 ⟨m2,O2,hs,hO2,hJ,hend⟩;have hdis:∀k,Oi k-> ¬O k:=fun k hk ho=>h3 k ho hk
 have fin:∀(A':(Nat->Prop)->Lim->World->Prop) (t:Bool),A' O2 m2 w2->Two E n Os ms ws A' (st.put (some d) (.bool t)) (a.put (some d) (.bool t)) w2:=fun A' t ha=>by
  have hn:=h1.other hs hdis hJ;have hp:=hn.put hdn (v:= .bool t) (u:= .bool t) (.x _);rw[dB] at hp;refine⟨m2,Oi,O2,hp,ha,fun k hk ho=>?_,h4,fun k hk=>?_,h6.next hs (fun i hi ho=>?_)⟩
  . rcases hO2 k hk with hk|hk
    . exact h3 k hk ho
    . exact absurd (hlt k ho) (ad0.2 hk)
  . rcases hO2 k hk with hk|hk
    . exact h5 k hk
    . exact .inr (adJ h6.ext.size hk)
  . rcases h5 i ho with h|h
    . exact h
    . exact absurd hi (ad0.2 h)
 rcases hend with⟨rfl,ha⟩|⟨rfl,ha⟩
 . show K (a.put o.dst (.bool true)) w2;rw[hd];exact hK1 _ _ (fin _ true ha)
 . show K (a.put o.dst (.bool false)) w2;rw[hd];exact hK2 _ _ (fin _ false ha)
end
attribute [go_sem] yO yP
attribute [congr] Cm
theorem qG{C:U->HH->Tr}{F:U->Option V}(h:cR E f C)(hc:∀us r,F us=some r->C us (fun _=>none) (fun v _=>v=r)):Fun E f F:=by refine⟨h.1,fun m w vs us r hF hdat hr hj hg=>?_⟩;refine(h.2 m w vs us (fun _=>none) _ (hc us r hF) hdat hr (fun g ob e=>by cases e) hj hg).mono ?_;rintro e w' ⟨v,m',u,H',rfl,hv,rfl,hs,_⟩;exact⟨v,m',rfl,hv,hs.below (fun k _ hn=>hn rfl),fun blk hb=>(hs.same blk hb (fun hn=>hn rfl)).2⟩
