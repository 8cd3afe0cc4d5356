/- A run that tells blocks of its own by their very contents, and writes them: for code that writes rows and structs in place, and hands them on. What each operation does to them. No program is named here. -/
import Derived.Test.YtmfojhkjbkombaaGreatMH
namespace Go.Proofs.YtmfojhkjbkombaaGreat
set_option linter.unusedSimpArgs false
open Go Go.RowKit
abbrev HH:=Nat->Option Obj
structure XS where
 st:St
 H:HH
abbrev Tr:=(V->HH->Prop)->Prop
structure Fx where
 F:FuncId->Option (List V->HH->Tr)
 D:Nat->Bool
 I:TypeId->String->Option (Value->List V->HH->Tr):=fun _ _=>none
 Z:Nat->Bool:=fun _=>false
 any:Nat->Bool:=fun _=>false
 P:Nat->Option (Code×(XS->(Out->XS->Prop)->Prop)):=fun _=>none
def rowO (l:List Value) (ty:TypeId):Obj:= .cells l.toArray ty (0,0)
def ii (H:HH) (g:Nat):Option (List Value×TypeId):=match H g with
 |some (.cells vals ty (0,0))=>some (vals.toList,ty)
 |_=>none
variable {H:HH} {g:Nat}
theorem aU {l:List Value} {ty:TypeId} (h:H g=some (rowO l ty)):ii H g=some (l,ty):=by unfold ii;rw[h];simp[rowO]
theorem jT {c:List Value×TypeId} (h:ii H g=some c):H g=some (.cells c.1.toArray c.2 (0,0)):=by
 unfold ii at h;split at h
 . rename_i vals ty e;cases h;rw[e]
 . cases h
def eR (l:List Value) (off:Nat) (xs:List Value):List Value:=l.take off++xs++l.drop (off+xs.length)
theorem cE (l:List Value) (i:Nat) (v:Value) (h:i<l.length):eR l i [v]=l.set i v:=by unfold eR;rw[List.set_eq_take_append_cons_drop,YG h];simp
variable {v:Value}
theorem C2 (h:v.oneCell'=true):v.cells= #[v]:=by cases v<;>first|rfl|cases h
def GT:List V->Option (List Value)
 |[]=>some []
 | .x v::us=>if v.oneCell'=true then (GT us).map (v:: ·) else none
 | .sl true _ _ _::us=>(GT us).map (.slice none 0 0:: ·)
 |_::_=>none
def kZ:V->Option (List Value)
 | .x v=>GT [.x v]
 | .sl true z es t=>GT [.sl true z es t]
 | .agg us=>GT us
 |_=>none
def iC {α:Type} (o:Option α) (K:α->Prop):Prop:=match o with
 |some a=>K a
 |none=>False
variable {α:Type}
theorem C4 (a:α) (K:α->Prop):iC (some a) K=K a:=rfl
theorem yq {o o':Option α} (h:o=o') (K:α->Prop):iC o K=iC o' K:=by rw[h]
theorem cN {α:Type} {o:Option α} {K:α->Prop} (h:iC o K):∃a,o=some a∧K a:=by
 cases o with
 |none=>exact h.elim
 |some a=>exact⟨a,rfl,h⟩
def GU (P:Program) (t:TypeId) (f:Nat):Option Nat:=match P.underlying t with
 | some (.struct fs)=>match fs[f]? with
   | some fd=>match bm P fd.type with
     |some (_+1)=>some fd.offset
     |_=>none
   |none=>none
 |_=>none
def o5 (P:Program) (t:TypeId):Option Nat:=match P.underlying t with
 |some (.slice el)=>bm P el
 |_=>none
def rv (P:Program) (t:TypeId) (H:HH):V->Option Tr
 | .x (.pointer (some ⟨g,off,none⟩))=>some fun T=>iC (ii H g) fun c=>iC (cU P t (c.1.map V.x) off) fun u=>T u H
 |_=>none
def nW (P:Program) (t:TypeId) (H:HH) (y:V):V->Option Tr
 | .x (.pointer (some ⟨g,off,none⟩))=>some fun T=>iC (ii H g) fun c=>iC (kZ y) fun xs=>(bm P t=some xs.length∧off+xs.length<=c.1.length)∧T .undef (upd H g (some (rowO (eR c.1 off xs) c.2)))
 |_=>none
def nX (P:Program) (t:TypeId) (f:Nat) (H:HH):V->Option Tr
 | .x (.pointer (some ⟨g,off,none⟩))=>some fun T=>iC (GU P t f) fun k=>T (.x (.pointer (some ⟨g,off+k,none⟩))) H
 |_=>none
def yu (H:HH):V->Option Tr
 | .x (.pointer (some p))=>some fun T=>T (.x (.pointer (some p))) H
 |_=>none
def nY (P:Program) (t:TypeId) (H:HH):V->V->Option Tr
 | .x (.slice (some ⟨g,off,none⟩) len _),.x (.int _ i)=>some fun T=>iC (o5 P t) fun z=>(0<=i∧i<len)∧T (.x (.pointer (some ⟨g,off+i.toNat*z,none⟩))) H
 |_,_=>none
def yw (P:Program) (t:TypeId) (H:HH):V->Option Tr
 | .x (.slice _ len _)=>some fun T=>iC (o5 P t) fun _=>T (.x (.int .i64 (len:Int))) H
 |_=>none
def NS (t:TypeId) (H:HH) (xs:Option (List Value)):Tr:=fun T=>iC xs fun l=>∀g,H g=none->T (.x (.pointer (some ⟨g,0,none⟩))) (upd H g (some (rowO l t)))
def KW (P:Program) (t:TypeId):Option (TypeId×Nat×Nat×Value):=match P.underlying t with
 | some (.slice el)=>match P.info? el with
   |some i=>i.zero.map fun z=>(el,i.size,i.bytes,z)
   |none=>none
 |_=>none
def rx (P:Program) (t:TypeId) (H:HH):V->V->Option Tr
 | .x (.int k n),.x (.int k' n')=>some fun T=>iC (KW P t) fun c=>(k=k'∧n=n'∧0<=n∧(c.2.2.1:Int)*n<=281474976710656∧n<=9223372036854775807)∧∀g,H g=none->T (.x (.slice (some ⟨g,0,none⟩) n.toNat n.toNat)) (upd H g (some (rowO (madeCells c.2.2.2.cells (n.toNat*c.2.1)).toList c.1)))
 |_,_=>none
def ry (F:FuncId->Option (List V->HH->Tr)) (H:HH) (us:List V):Option FuncId->Option Tr
 | some f=>match F f with
   |some C=>some fun T=>us.all V.dat=true∧C us H T
   |none=>none
 |none=>none
def o6 (P:Program) (t:TypeId):Bool:=match P.underlying t with
 |some (.interface _)=>false
 |some _=>true
 |none=>false
def rA (P:Program) (t:TypeId) (H:HH):V->V->Option Tr
 | .x (.slice (some ⟨g,off,none⟩) _ cap),.x (.int _ k)=>some fun T=>iC (o5 P t) fun _=>(0<=k∧k<=cap)∧T (.x (.slice (some ⟨g,off,none⟩) k.toNat cap)) H
 |_,_=>none
def nZ (P:Program) (t:TypeId) (H:HH):V->Option Tr
 | .x v=>some fun T=>o6 P t=true∧T (.x (.iface t v)) H
 |_=>none
def k7 (P:Program) (t:TypeId) (H:HH):V->Option Tr
 | .x (.iface t' v)=>some fun T=>(o6 P t=true∧t'=t)∧T (.x v) H
 |_=>none
def yx (I:TypeId->String->Option (Value->List V->HH->Tr)) (name:String) (H:HH) (us:List V):V->Option Tr
 | .x (.iface t v)=>match I t name with
   |some C=>some fun T=>us.all V.dat=true∧C v us H T
   |none=>none
 |_=>none
def GV (P:Program) (t:TypeId):Bool:=match P.underlying t with
 | some (.slice el)=>match P.info? el with
   | some i=>match i.zero with
     |some z=>decide (i.size=1∧z.cells.size=1∧i.bytes=8)
     |none=>false
   |none=>false
 |_=>false
def Xu (H:HH) (v:Value) (x:Int) (T:V->HH->Prop):Prop:=∃es,RowJ H v es∧es.length+1<=100000000∧∀v' g ob,blkOf v'=some g->(blkOf v=some g∨H g=none)->RowJ (upd H g (some ob)) v' (es++[x])->T (.x v') (upd H g (some ob))
def yy (P:Program) (t:TypeId) (H:HH):V->V->Option Tr
 | .x v,.sl false 1 [.x (.int .i64 x)] _=>some fun T=>GV P t=true∧Xu H v x T
 |_,_=>none
def n7 (H:HH):V->Option Tr
 | .x (.slice (some ⟨g,0,none⟩) n cap)=>some fun T=>iC (ii H g) fun c=>(n<=cap∧n<=c.1.length∧((c.1.take n).all fun v=>v.oneCell')=true)∧T (.sl false 1 ((c.1.take n).map V.x) none) (upd H g none)
 |_=>none
noncomputable def o7 (P:Program) (F:Fx) (o:Oper) (ρ:Operand->V) (H:HH):Option Tr:=
 match o.op with
 | .load t x=>rv P t H (ρ x)
 | .store t x y=>match o.dst with
   |none=>nW P t H (ρ y) (ρ x)
   |some _=>none
 | .fieldAddr t x f=>nX P t f H (ρ x)
 | .nilCheck x=>yu H (ρ x)
 | .indexAddr t x i=>nY P t H (ρ x) (ρ i)
 | .call {callee:= .builtin .len,args,argTypes}=>match args.toList,argTypes.toList with
   |[x],[t]=>yw P t H (ρ x)
   |_,_=>none
 | .box t x=>match (o.dst.map F.D).getD false with
   |true=>some (NS t H (kZ (ρ x)))
   |false=>none
 | .makeSlice t l c=>match (o.dst.map F.D).getD false with
   |true=>rx P t H (ρ l) (ρ c)
   |false=>none
 | .call {callee:= .value c,args,argTypes:=_}=>ry F.F H (args.toList.map fun x=>(ρ x).bare) (wz (ρ c))
 | .call {callee:= .invoke x name,args,argTypes:=_}=>yx F.I name H (args.toList.map fun x=>(ρ x).bare) (ρ x)
 | .call {callee:= .builtin .append,args,argTypes}=>match args.toList,argTypes.toList with
   | [x,y],[t,t']=>match decide (t=t') with
     |true=>yy P t H (ρ x) (ρ y)
     |false=>none
   |_,_=>none
 | .slice t x none (some k) none=>rA P t H (ρ x) (ρ k)
 | .makeInterface t x=>nZ P t H (ρ x)
 | .typeAssert x _ t ok=>match ok with
   |false=>k7 P t H (ρ x)
   |true=>none
 | .move x=>match (o.dst.map F.Z).getD false with
   |true=>n7 H (ρ x)
   |false=>none
 | .assign x=>match (o.dst.map F.Z).getD false with
   |true=>n7 H (ρ x)
   |false=>none
 |_=>none
def eg (E:Env) (F:Fx) (ops:Array Oper):List Oper->XS->(XS->Prop)->Prop
 |[],s,K=>K s
 | o::l,s,K=>match bS ops s.st.t o.guard with
   |some b=>(b=true->match o7 E.P F o (ev E s.st) s.H with
    |some T=>T fun v H'=>eg E F ops l ⟨s.st.put o.dst v.bare,H'⟩ K
    | none=>match dh E o s.st with
      |some st'=>eg E F ops l ⟨st',s.H⟩ K
      |none=>False)∧(b=false->eg E F ops l ⟨s.st.put o.dst (.x (.tuple #[])),s.H⟩ K)
   |none=>False
def pZ (E:Env) (F:Fx) (ops:Array Oper) (l:List Oper) (H:HH) (K:XS->Prop):Option St->Prop
 |some st'=>eg E F ops l ⟨st',H⟩ K
 |none=>False
def ky (E:Env) (F:Fx) (ops:Array Oper) (o:Oper) (l:List Oper) (s:XS) (K:XS->Prop):Option Tr->Prop
 |some T=>T fun v H'=>eg E F ops l ⟨s.st.put o.dst v.bare,H'⟩ K
 |none=>pZ E F ops l s.H K (dh E o s.st)
def iV (E:Env) (F:Fx) (ops:Array Oper) (o:Oper) (l:List Oper) (s:XS) (K:XS->Prop):Option Bool->Prop
 |some b=>(b=true->ky E F ops o l s K (o7 E.P F o (ev E s.st) s.H))∧(b=false->eg E F ops l ⟨s.st.put o.dst (.x (.tuple #[])),s.H⟩ K)
 |none=>False
section
variable (E:Env) (F:Fx) (ops:Array Oper) (l:List Oper) (s:XS) (K:XS->Prop) (o:Oper) (H:HH)
theorem GW:eg E F ops [] s K=K s:=rfl
theorem kz:eg E F ops (o::l) s K=iV E F ops o l s K (bS ops s.st.t o.guard):=by
 unfold eg iV;cases bS ops s.st.t o.guard with
 |none=>rfl
 |some b=>simp only[ky];congr 2
theorem C5 (d:Option Tmp) (op:Op) (ty:TypeId) (pos:String) (af:Array Edge):eg E F ops (⟨d,op,ty,pos,af,none⟩::l) s K=ky E F ops ⟨d,op,ty,pos,af,none⟩ l s K (o7 E.P F ⟨d,op,ty,pos,af,none⟩ (ev E s.st) s.H):=by rw[kz];simp only[iV,bS,true_implies,Bool.true_eq_false,false_implies,Z7]
theorem yz (d:Option Tmp) (op:Op) (ty:TypeId) (pos:String) (af:Array Edge) (g:Nat×Bool):eg E F ops (⟨d,op,ty,pos,af,some g⟩::l) s K=iV E F ops ⟨d,op,ty,pos,af,some g⟩ l s K (bS ops s.st.t (some g)):=kz ..
theorem GX:eg E F ops (o::l) s K=eg E F ops [o] s fun s'=>eg E F ops l s' K:=by
 rw[kz,kz];cases bS ops s.st.t o.guard with
 |none=>rfl
 | some b=>
   unfold iV ky;cases o7 E.P F o (ev E s.st) s.H with
   |some T=>rfl
   |none=>unfold pZ;cases dh E o s.st<;>rfl
theorem yA (st':St):pZ E F ops l H K (some st')=eg E F ops l ⟨st',H⟩ K:=rfl
theorem yB (T:Tr):ky E F ops o l s K (some T)=T fun v H'=>eg E F ops l ⟨s.st.put o.dst v.bare,H'⟩ K:=rfl
theorem n8:ky E F ops o l s K none=pZ E F ops l s.H K (dh E o s.st):=rfl
theorem n9:iV E F ops o l s K (some true)=ky E F ops o l s K (o7 E.P F o (ev E s.st) s.H):=by simp[iV]
theorem l7:iV E F ops o l s K (some false)=eg E F ops l ⟨s.st.put o.dst (.x (.tuple #[])),s.H⟩ K:=by simp[iV]
theorem uz {r r':Option St} (h:r=r'):pZ E F ops l H K r=pZ E F ops l H K r':=by rw[h]
theorem uA {r r':Option Tr} (h:r=r'):ky E F ops o l s K r=ky E F ops o l s K r':=by rw[h]
theorem uB {r r':Option Bool} (h:r=r'):iV E F ops o l s K r=iV E F ops o l s K r':=by rw[h]
end
def GY {X:Type} (T:X->List (Nat×V)) (B:X->List (Nat×List V)) (J:X->HH->Prop) (μ:X->Nat) (n:Nat) (s:XS):Prop:=∃x',(fu s.st (T x')∧fR s.st (B x')∧J x' s.H)∧μ x'<n
def jU {X:Type} (T:X->List (Nat×V)) (B:X->List (Nat×List V)) (J:X->HH->Prop) (μ:X->Nat) (n:Nat) (K:Out->XS->Prop):Out->XS->Prop
 | .normal,s=>GY T B J μ n s
 | .ret,s=>K .ret s
 | .exit id,s=>K (.exit id) s
section
variable {X:Type} (T:X->List (Nat×V)) (B:X->List (Nat×List V)) (J:X->HH->Prop) (μ:X->Nat) (n:Nat) (K:Out->XS->Prop) (s:XS)
theorem o8:jU T B J μ n K .normal s=GY T B J μ n s:=rfl
theorem yC:jU T B J μ n K .ret s=K .ret s:=rfl
theorem uC (id:Nat):jU T B J μ n K (.exit id) s=K (.exit id) s:=rfl
variable {o o':Out}
theorem rB (h:o=o'):jU T B J μ n K o s=jU T B J μ n K o' s:=by rw[h]
end
def uD (body:XS->(Out->XS->Prop)->Prop) (s:XS) (K:Out->XS->Prop):Prop:=
 ∃ (X:Type) (T:X->List (Nat×V)) (B:X->List (Nat×List V)) (J:X->HH->Prop) (μ:X->Nat) (x0:X),(Le (au (T x0) (B x0)) s.st∧J x0 s.H)∧
   ∀x H,J x H->body ⟨au (T x) (B x),H⟩ (jU T B J μ (μ x) K)
variable {body:XS->(Out->XS->Prop)->Prop} {s:XS} {X:Type}
theorem bp {K:Out->XS->Prop} (T:X->List (Nat×V)) (B:X->List (Nat×List V)) (J:X->HH->Prop) (μ:X->Nat) (x0:X) (h0:fu s.st (T x0)) (h1:fR s.st (B x0)) (hJ:J x0 s.H) (h:∀x H,J x H->body ⟨au (T x) (B x),H⟩ (jU T B J μ (μ x) K)):uD body s K:=⟨X,T,B,J,μ,x0,⟨aJ h0 h1,hJ⟩,h⟩
theorem k9 {K:Out->XS->Prop} (i n tok:Nat) {n0:Nat} {k0:Option Nat} (h:s.st.t i= .sl true n0 [] k0) (hr:uD body ⟨⟨upd s.st.t i (.sl true n [] (some tok)),s.st.b⟩,s.H⟩ K):uD body s K:=by
 obtain⟨X,T,B,J,μ,x0,⟨h0,hJ⟩,hx⟩:=hr;refine⟨X,T,B,J,μ,x0,⟨⟨fun j=>?_,h0.b⟩,hJ⟩,hx⟩;have:=h0.t j;simp only[aE] at this;split at this
 . rename_i e;subst e;rw[h];rcases this with e|e|⟨n1,k1,n2,k2,e,_⟩
   . exact .inl e
   . exact .inr (.inr ⟨_,_,_,_,e,rfl⟩)
   . exact .inr (.inr ⟨_,_,_,_,e,rfl⟩)
 . exact this
def IM (st:St) (val:Nat->V) (ops:List Oper) (L:Nat) (bx:Nat->Option (List V)):St:=⟨(iB st val ops L).t,bx⟩
def yD (d:Option Tmp) (st:St) (v:Nat->V) (bx:Nat->Option (List V)):St:=⟨match d with|some d=>upd st.t d (v d)|none=>st.t,bx⟩
def C6 (E:Env) (F:Fx) (ops:List Oper) (s:XS) (K:XS->Prop):Prop:=
 ∃ (need:Nat->List Nat) (I:Nat->HH->(Nat->V)->(Nat->Option (List V))->Prop) (val0:Nat->V),pY ops=true∧((List.range ops.length).all fun i=>(match ops[i]? with|some o=>(need i).all fun k=>(directV o).any (ig ops k)|none=>true))=true∧I 0 s.H val0 s.st.b∧
   (∀(L i:Nat) (o:Oper) (H:HH) (val:Nat->V) (bx:Nat->Option (List V)),ops[i]?=some o->L.testBit i=false->(∀k∈directV o,L.testBit k=true)->ClosedM ops L->I L H val bx->(∀k∈need i,(iB s.st val ops L).t k=val k)->
    eg E F ⟨ops⟩ [o] ⟨IM s.st val ops L bx,H⟩ fun s'=>∃val',(∀k,o.dst≠some k->val' k=val k)∧∃bx',I (L|||2^i) s'.H val' bx'∧Le (yD o.dst (iB s.st val ops L) val' bx') s'.st)∧
   ∀H val bx,I (2^ops.length-1) H val bx->∃ts bs,fu (IM s.st val ops (2^ops.length-1) bx) ts∧fR (IM s.st val ops (2^ops.length-1) bx) bs∧K ⟨au ts bs,H⟩
def qa (E:Env) (F:Fx) (id:Nat) (ops:Array Oper) (s:XS) (K:Out->XS->Prop):Bool->Prop
 |true=>C6 E F ops.toList s (K .normal)
 |false=>run E (.region id ops true) s.st fun o st'=>K o ⟨st',s.H⟩
variable {st:St} {ops:List Oper} {L k:Nat}
theorem eL {val:Nat->V} (h:cI ops L k=true):(iB st val ops L).t k=val k:=YG h
def eh (F:Fx):Code->Option (Code×(XS->(Out->XS->Prop)->Prop))
 | .region id _ _=>F.P id
 |_=>none
def AJ (c' c:Code) (p:Prop):Prop:=c'=c∧p
theorem uE (c' c:Code) {p p':Prop} (h:p=p'):AJ c' c p=AJ c' c p':=by rw[h]
def oa (c:Code) (s:XS) (K:Out->XS->Prop) (d:Prop):Option (Code×(XS->(Out->XS->Prop)->Prop))->Prop
 |some p=>AJ p.1 c (p.2 s K)
 |none=>d
def cw (E:Env) (F:Fx):Code->XS->(Out->XS->Prop)->Prop
 | .skip,s,K=>K .normal s
 | .region _ ops false,s,K=>eg E F ops ops.toList s (K .normal)
 | .region id ops true,s,K=>qa E F id ops s K (F.any id)
 | .seq a b,s,K=>oa (.seq a b) s K (cw E F a s fun o s'=>match o with
   | .normal=>cw E F b s' K
   |o=>K o s') (eh F a)
 | .cond c a b,s,K=>match ev E s.st c with
   | .x (.bool t)=>(t=true->cw E F a s K)∧(t=false->cw E F b s K)
   |_=>False
 | .block id a,s,K=>cw E F a s fun o s'=>match o with
   | .exit id'=>if id'=id then K .normal s' else K (.exit id') s'
   |o=>K o s'
 | .loop a,s,K=>uD (cw E F a) s K
 | .label _,s,K=>K .normal s
 | .exit id,s,K=>K (.exit id) s
 | .ret,s,K=>K .ret s
 |_,_,_=>False
def C7 (E:Env) (F:Fx) (b:Code) (K:Out->XS->Prop):Out->XS->Prop
 | .normal,s=>cw E F b s K
 | .ret,s=>K .ret s
 | .exit id,s=>K (.exit id) s
def la (id:Nat) (K:Out->XS->Prop):Out->XS->Prop
 | .exit id',s=>if id'=id then K .normal s else K (.exit id') s
 | .normal,s=>K .normal s
 | .ret,s=>K .ret s
def l8 (E:Env) (F:Fx) (a b:Code) (s:XS) (K:Out->XS->Prop):V->Prop
 | .x (.bool t)=>(t=true->cw E F a s K)∧(t=false->cw E F b s K)
 |_=>False
section
variable (E:Env) (F:Fx) (a b:Code) (s:XS) (K:Out->XS->Prop) (id:Nat)
theorem C8:cw E F .skip s K=K .normal s:=rfl
theorem uF (ops:List Oper):cw E F (.region id ⟨ops⟩ false) s K=eg E F ⟨ops⟩ ops s (K .normal):=rfl
theorem C9 (ops:List Oper):cw E F (.region id ⟨ops⟩ true) s K=qa E F id ⟨ops⟩ s K (F.any id):=rfl
theorem yE (ops:List Oper):qa E F id ⟨ops⟩ s K true=C6 E F ops s (K .normal):=rfl
theorem uG (ops:List Oper):qa E F id ⟨ops⟩ s K false=run E (.region id ⟨ops⟩ true) s.st (fun o st'=>K o ⟨st',s.H⟩):=rfl
theorem uH (ops:Array Oper) {o o':Bool} (h:o=o'):qa E F id ops s K o=qa E F id ops s K o':=by rw[h]
theorem o9 (ops:Array Oper) (d:Bool):eh F (.region id ops d)=F.P id:=rfl
theorem yF:eh F (.seq a b)=none:=rfl
theorem uI (c:Operand):eh F (.cond c a b)=none:=rfl
theorem rD:eh F (.block id a)=none:=rfl
theorem uJ:eh F (.loop a)=none:=rfl
theorem uK:eh F .skip=none:=rfl
theorem uL:eh F (.exit id)=none:=rfl
theorem yG:eh F .ret=none:=rfl
theorem yH (c:Code) (d:Prop):oa c s K d none=d:=rfl
theorem yI (c c':Code) (W:XS->(Out->XS->Prop)->Prop) (d:Prop):oa c s K d (some (c',W))=AJ c' c (W s K):=rfl
theorem uM (c:Code) (d:Prop) {o o':Option (Code×(XS->(Out->XS->Prop)->Prop))} (h:o=o'):oa c s K d o=oa c s K d o':=by rw[h]
theorem GZ:cw E F (.seq a b) s K=oa (.seq a b) s K (cw E F a s (C7 E F b K)) (eh F a):=by show oa _ s K (cw E F a s _) _=_;congr 2;funext o s';cases o<;>rfl
theorem Da (c:Operand):cw E F (.cond c a b) s K=l8 E F a b s K (ev E s.st c):=by show(match ev E s.st c with| .x (.bool t)=>(t=true->cw E F a s K)∧(t=false->cw E F b s K)|_=>False)=_;unfold l8;split<;>simp_all
theorem yJ:cw E F (.block id a) s K=cw E F a s (la id K):=by show cw E F a s _=_;congr 1;funext o s';cases o<;>rfl
theorem Db:cw E F (.loop a) s K=uD (cw E F a) s K:=rfl
theorem Dc:cw E F (.exit id) s K=K (.exit id) s:=rfl
theorem G0:cw E F .ret s K=K .ret s:=rfl
theorem uN:C7 E F b K .normal s=cw E F b s K:=rfl
theorem G1:C7 E F b K .ret s=K .ret s:=rfl
theorem Dd:C7 E F b K (.exit id) s=K (.exit id) s:=rfl
theorem pa:la id K .normal s=K .normal s:=rfl
theorem yK:la id K .ret s=K .ret s:=rfl
theorem uO (id':Nat):la id K (.exit id') s=if id'=id then K .normal s else K (.exit id') s:=rfl
theorem yL:l8 E F a b s K (.x (.bool true))=cw E F a s K:=by simp[l8]
theorem uP:l8 E F a b s K (.x (.bool false))=cw E F b s K:=by simp[l8]
theorem uQ {v v':V} (h:v=v'):l8 E F a b s K v=l8 E F a b s K v':=by rw[h]
variable {o o':Out}
theorem yM (h:o=o'):C7 E F b K o s=C7 E F b K o' s:=by rw[h]
theorem rE (h:o=o'):la id K o s=la id K o' s:=by rw[h]
theorem yN {s':XS} (h:s=s'):cw E F a s K=cw E F a s' K:=by rw[h]
end
structure Xb where
 X:Nat->Prop
 Kn:Kno
 ms:Lim
 ws:World
def lc (D:List Deferred) (O:Nat->Prop) (lo:Nat) (w:World) (H:HH):Prop:=D.Nodup∧∀d∈D,∃b,d=markD b∧lo<=b∧w.heap[b]?=some (.deferred (some []))∧ ¬O b∧H b=none
def HoldX (E:Env) (n:Nat) (B:Xb) (s:XS) (a:Act) (w:World):Prop:=
 ∃D m O,Now E n D O m s.st a w∧(∀g ob,s.H g=some ob-> ¬O g∧w.heap[g]?=some ob∧m g=some 0∧(B.ws.heap.size<=g∨B.X g)∧E.K<=g)∧(∀k,O k->B.ws.heap.size<=k∨B.X k)∧Step B.X B.ms B.ws m w∧B.Kn.P m w∧lc D O B.ws.heap.size w s.H
def L8 (P:Program) (f:FuncId) (vs:Array Value) (m:Lim) (w:World) (H:HH) (T:V->HH->Prop):Prop:=
 Calls P f vs w fun e w'=>∃v m' r H',e= .returned v∧Rd m' w' v r∧T r H'∧Step (fun k=>H k≠none) m w m' w'∧∀g ob,H' g=some ob->w'.heap[g]?=some ob∧m' g=some 0∧(H g≠none∨w.heap.size<=g)
def cn (E:Env) (f:FuncId) (C:List V->HH->Tr):Prop:=
 (∀args w,(callFunc f args).run E.P w= .ok (.enter f args) w)∧
 ∀ (m:Lim) (w:World) (vs:Array Value) (us:List V) (H:HH) (T:V->HH->Prop),C us H T->us.all V.dat=true->RdL m w vs.toList us->(∀g ob,H g=some ob->w.heap[g]?=some ob∧m g=some 0∧E.K<=g)->E.J w->(∀g,Rd m w (.pointer (some ⟨g,0,none⟩)) (E.G g))->
   L8 E.P f vs m w H T
def ij (E:Env) (t:TypeId) (name:String) (C:Value->List V->HH->Tr):Prop:=
 ∀ (m:Lim) (w:World) (v:Value) (vs:Array Value) (us:List V) (H:HH) (T:V->HH->Prop),C v us H T->us.all V.dat=true->RdL m w vs.toList us->(∀g ob,H g=some ob->w.heap[g]?=some ob∧m g=some 0∧E.K<=g)->E.J w->(∀g,Rd m w (.pointer (some ⟨g,0,none⟩)) (E.G g))->
   ∃f r,(callMethod (.iface t v) name vs).run E.P w= .ok (.enter f (#[r]++vs)) w∧L8 E.P f (#[r]++vs) m w H T
section
variable {E:Env} {n:Nat} {B:Xb} {F:Fx} {s:XS} {a:Act} {w w':World} {r:Option Nat}
variable {st':St}
theorem HoldX.le (h:HoldX E n B s a w) (hl:Le st' s.st):HoldX E n B ⟨st',s.H⟩ a w:=by obtain⟨D,m,O,h1,h2⟩:=h;exact⟨D,m,O,h1.le hl,h2⟩
theorem HoldX.ev (h:HoldX E n B s a w) (x:Operand) {v:Value} (hx:ev E s.st x= .x v):a.eval x=v:=by obtain⟨D,m,O,⟨⟨b,β,hr⟩,_⟩,_⟩:=h;exact(hx▸aH hr x).x
theorem HoldX.at (h:HoldX E n B s a w) {g:Nat} {ob:Obj} (hg:s.H g=some ob):w.heap[g]?=some ob:=by obtain⟨D,m,O,_,h2,_⟩:=h;exact(h2 g ob hg).2.1
theorem HoldX.new (h:HoldX E n B s a w):s.H w.heap.size=none:=by
 cases e:s.H w.heap.size with
 |none=>rfl
 |some ob=>exact absurd (ai (h.at e)) (Nat.lt_irrefl _)
theorem HoldX.put (h:HoldX E n B s a w) {d:Option Tmp} (hd:∀k,d=some k->k<n) {v:Value} {u:V} (hv:∀m,Rd m w v u):HoldX E n B ⟨s.st.put d u.bare,s.H⟩ (a.put d v) w:=by
 obtain⟨D,m,O,h1,h2⟩:=h;cases d with
 |none=>exact⟨D,m,O,h1,h2⟩
 |some k=>exact⟨D,m,O,h1.put (hd k rfl) (hv m),h2⟩
variable {D:List Deferred} {O:Nat->Prop} {m m':Lim} {a':Act}
theorem HoldX.grown (h2:∀g ob,s.H g=some ob-> ¬O g∧w.heap[g]?=some ob∧m g=some 0∧(B.ws.heap.size<=g∨B.X g)∧E.K<=g) (h4:∀k,O k->B.ws.heap.size<=k∨B.X k) (h5:Step B.X B.ms B.ws m w) (h6:B.Kn.P m w∧lc D O B.ws.heap.size w s.H)
 (hn:Now E n D (nA O w w') m' st' a' w') (hs:Step O m w m' w'):HoldX E n B ⟨st',s.H⟩ a' w':=by
 refine⟨D,m',_,hn,fun g ob hg=>?_,fun k hg=>?_,h5.next hs (fun i hi ho=>(h4 i ho).resolve_left (aau.2 hi)),B.Kn.mono _ _ _ _ h6.1 hs.ext,h6.2.1,fun d hd=>?_⟩
 . obtain⟨q1,q2,q3,q4⟩:=h2 g ob hg;obtain⟨s1,s2⟩:=hs.same g (ai q2) q1;refine⟨fun hgr=>?_,s1.trans q2,s2.trans q3,q4⟩;rcases hgr.2 with ho|ho
   . exact q1 ho
   . exact absurd (ai q2) (Zs.2 ho)
 . rcases hg.2 with ho|ho
   . exact h4 k ho
   . exact .inl (Y6 h5.ext.size ho)
 . obtain⟨b,rfl,q1,q2,q3,q4⟩:=h6.2.2 d hd;refine⟨b,rfl,q1,(hs.same b (ai q2) q3).1.trans q2,fun hg=>?_,q4⟩;rcases hg.2 with hg|hg
   . exact q3 hg
   . exact absurd (ai q2) (Zs.2 hg)
theorem NT (hE:EnvOK E) (hm:E.P.follows .mixedOrders=true) {c:Code} {K:Out->St->Prop} (hok:aY E.any n c=true) (h:HoldX E n B s a w) (hr:run E c s.st K):
 c.wpIn (bo r) 0 E.P (fun e a' w'=>∃o st',ea e=some o∧K o st'∧HoldX E n B ⟨st',s.H⟩ a' w') a w:=by
 obtain⟨D,m,O,h1,h2,h4,h5,h6⟩:=h;refine wpIn_mono (gZ (r:=r) (W:=fun _=>true) hE hm hok (fO c) h1 hr) ?_;rintro e a' w' ⟨_,o,st',m',ho,hK,hn,hs⟩;exact⟨o,st',ho,hK,HoldX.grown h2 h4 h5 h6 hn hs⟩
theorem SG (hE:EnvOK E) (h:HoldX E n B s a w) {o:Oper} {st':St} (hx:dh E o s.st=some st') (hd:∀k,o.dst=some k->k<n) {K:Act->World->Prop} {Q:Exit->Act->World->Prop} (hK:∀a' w',HoldX E n B ⟨st',s.H⟩ a' w'->K a' w'):o.wp E.P a w K Q:=by obtain⟨D,m,O,h1,h2,h4,h5,h6⟩:=h;have hlt:=h1.lt;obtain⟨b,β,hrel⟩:=h1.rel;refine lJ (hE.x (.inr (fun _ h=>h))) hrel hx hd (fun a' w' m' β' hr'=>hK a' w' ?_);obtain⟨hn,hst⟩:=Now.of_rel hE hlt hr';exact HoldX.grown h2 h4 h5 h6 hn hst
theorem HoldX.stepped (hE:EnvOK E) {D:List Deferred} {m m':Lim} {O:Nat->Prop} {H':HH} (q1:Now E n D O m s.st a w) (q2:∀g ob,s.H g=some ob-> ¬O g∧w.heap[g]?=some ob∧m g=some 0∧(B.ws.heap.size<=g∨B.X g)∧E.K<=g) (q4:∀k,O k->B.ws.heap.size<=k∨B.X k) (q5:Step B.X B.ms B.ws m w) (q6:B.Kn.P m w∧lc D O B.ws.heap.size w s.H)
 (hs:Step (fun k=>s.H k≠none) m w m' w') (hH:∀g ob,H' g=some ob->w'.heap[g]?=some ob∧m' g=some 0∧(s.H g≠none∨w.heap.size<=g)):HoldX E n B ⟨s.st,H'⟩ a w'∧∃O,Now E n D O m' s.st a w'∧(∀g ob,H' g=some ob-> ¬O g∧w'.heap[g]?=some ob∧m' g=some 0∧(B.ws.heap.size<=g∨B.X g)∧E.K<=g)∧(∀k,O k->B.ws.heap.size<=k∨B.X k)∧Step B.X B.ms B.ws m' w'∧B.Kn.P m' w'∧lc D O B.ws.heap.size w' H':=by
 have hne:∀k,O k-> ¬s.H k≠none:=fun k hk=>by
  cases e:s.H k with
  |none=>simp
  |some ob=>exact absurd hk (q2 k ob e).1
 have hJ:E.J w':=hE.keep ((List.range w.heap.size).filter fun k=>(s.H k).isSome) _ _ (fun x hx=>by
  obtain⟨ob,e⟩:=abp.1 (Zq.1 hx).2
  exact(q2 x ob e).2.2.2.2) q1.J (hs.bel (fun k hk e=>Zq.2 ⟨Ze.2 hk,by cases e':s.H k with
   |none=>exact absurd e' e
   |some _=>rfl⟩))
 have hK:E.K<=w.heap.size:=hE.high _ q1.J;have key:∃O,Now E n D O m' s.st a w'∧(∀g ob,H' g=some ob-> ¬O g∧w'.heap[g]?=some ob∧m' g=some 0∧(B.ws.heap.size<=g∨B.X g)∧E.K<=g)∧(∀k,O k->B.ws.heap.size<=k∨B.X k)∧Step B.X B.ms B.ws m' w'∧B.Kn.P m' w'∧lc D O B.ws.heap.size w' H':=by
  refine⟨O,q1.other hs hne hJ,fun g ob hg=>?_,q4,q5.next hs (fun i hi e=>?_),B.Kn.mono _ _ _ _ q6.1 hs.ext,q6.2.1,fun d hd=>?_⟩
  . obtain⟨h1,h3,h2⟩:=hH g ob hg;rcases h2 with h2|h2
    . cases e:s.H g with
      |none=>exact absurd e h2
      |some ob'=>exact⟨(q2 g ob' e).1,h1,h3,(q2 g ob' e).2.2.2⟩
    . exact⟨fun ho=>absurd (q1.lt g ho) (Zs.2 h2),h1,h3,.inl (Y6 q5.ext.size h2),Y6 hK h2⟩
  . cases e':s.H i with
    |none=>exact absurd e' e
    |some ob=>exact(q2 i ob e').2.2.2.1.resolve_left (aau.2 hi)
  . obtain⟨b,rfl,r1,r2,r3,r4⟩:=q6.2.2 d hd;refine⟨b,rfl,r1,(hs.same b (ai r2) (by rw[r4];simp)).1.trans r2,r3,?_⟩;cases e:H' b with
    |none=>rfl
    | some ob=>
      rcases(hH b ob e).2.2 with h|h
      . exact absurd r4 h
      . exact absurd (ai r2) (Zs.2 h)
 obtain⟨O',k1,k2,k3,k4,k5⟩:=key;exact⟨⟨D,m',O',k1,k2,k3,k4,k5⟩,O',k1,k2,k3,k4,k5⟩
theorem HoldX.wrote (hE:EnvOK E) {H':HH} (h:HoldX E n B s a w) (hos:w'.os=w.os) (htp:w'.tape=w.tape) (hou:w'.output=w.output) (hsz:w.heap.size<=w'.heap.size) (hb:∀k,k<w.heap.size->s.H k=none->w'.heap[k]?=w.heap[k]?) (hH:∀g ob,H' g=some ob->w'.heap[g]?=some ob∧(s.H g≠none∨w.heap.size<=g)):HoldX E n B ⟨s.st,H'⟩ a w':=by
 obtain⟨D,m,O,q1,q2,q4,q5,q6⟩:=h;have hs:Step (fun k=>s.H k≠none) m w (fun j=>if w.heap.size<=j then some 0 else m j) w':=by
  refine⟨hos,htp,hou,⟨hsz,fun b off v hlt hm hc=>?_,fun b hlt fr' hf=>?_,fun b es c hm hc=>?_⟩,fun k hk hn=>⟨hb k hk A0Q,YL (aau.2 hk)⟩⟩
  . cases e:s.H b with
    |none=>rw[aX (hb b hlt e)];exact hc
    |some ob=>exact absurd (hm 0 (q2 b ob e).2.2.1) (aaB _)
  . rw[YL (aau.2 hlt)] at hf;exact⟨fr',hf,YJ _⟩
  . cases e:s.H b with
    |none=>rw[hb b (dv hc) e];exact hc
    |some ob=>rw[(q2 b ob e).2.2.1] at hm;cases hm
 refine(HoldX.stepped hE q1 q2 q4 q5 q6 hs (fun g ob hg=>?_)).1;obtain⟨h1,h2⟩:=hH g ob hg;refine⟨h1,?_,h2⟩;rcases h2 with h2|h2
 . cases e:s.H g with
   |none=>exact absurd e h2
   |some ob'=>rw[YL (aau.2 (ai (q2 g ob' e).2.1))];exact(q2 g ob' e).2.2.1
 . exact YG h2
theorem HoldX.drew (hE:EnvOK E) (h:HoldX E n B s a w):HoldX E n B s a {w with drawn:=w.drawn+1}:=
 h.wrote hE rfl rfl rfl (YJ _) (fun _ _ _=>rfl) (fun g ob e=>⟨h.at e,.inl (by rw[e];exact fun h=>by cases h)⟩)
theorem HoldX.fresh (hE:EnvOK E) (h:HoldX E n B s a w) (ob:Obj):HoldX E n B ⟨s.st,upd s.H w.heap.size (some ob)⟩ a (w.alloc ob):=by
 refine h.wrote hE rfl rfl rfl A0j (fun k hk _=>Below.heap_alloc w ob k hk) (fun g ob' hg=>?_);by_cases e:g=w.heap.size
 . subst e;rw[aj] at hg;cases hg;exact⟨World.heap_new w ob,.inr (YJ _)⟩
 . rw[ag _ _ e] at hg;have:=h.at hg;exact⟨(Below.heap_alloc w ob g (ai this)).trans this,.inl A08 ⟩
theorem uR {m:Lim}:∀{us:List V} {xs vs:List Value},GT us=some xs->RdL m w vs us->vs=xs∧∀v∈xs,v.oneCell'=true∧v.cells= #[v]
 | [],xs,vs,h,hr=>by
   cases h;cases vs with
   |nil=>exact⟨rfl,fun v hv=>by cases hv⟩
   |cons v vs=>exact hr.elim
 | u ::us,xs,vs,h,hr=>by
   cases u with
   | x v =>
     unfold GT at h;split at h
     . rename_i hv;obtain⟨ys,hy,rfl⟩:=YE.1 h;cases vs with
       |nil=>exact hr.elim
       | cons v' vs=>
         obtain⟨q1,q2⟩:=uR hy hr.2;exact⟨by rw[Rd.x_iff.1 hr.1,q1],fun y hm=>by
          cases hm with
          |head=>exact⟨hv,C2 hv⟩
          |tail _ hm=>exact q2 y hm⟩
     . cases h
   | sl nl z es tok=>
     cases nl with
     |false=>simp[GT] at h
     | true=>
       unfold GT at h;obtain⟨ys,hy,rfl⟩:=YE.1 h;cases vs with
       |nil=>exact hr.elim
       | cons v' vs=>
         obtain⟨q1,q2⟩:=uR hy hr.2;have hv:v'= .slice none 0 0:=by have:=hr.1;cases this;rfl
         exact⟨by rw[hv,q1],fun y hm=>by
          cases hm with
          |head=>exact⟨rfl,rfl⟩
          |tail _ hm=>exact q2 y hm⟩
   |_=>simp[GT] at h
variable {u:V} {xs:List Value}
theorem uS (h:kZ u=some xs) (hr:Rd m w v u):v.cells=xs.toArray∧∀v∈xs,v.oneCell'=true:=by
 cases u with
 |x v'=>obtain⟨q1,q2⟩:=uR (us:=[.x v']) (vs:=[v]) h ⟨hr,trivial⟩;subst q1;exact⟨(q2 v (YF.2 rfl)).2,fun y hy=>(q2 y hy).1⟩
 | sl nl z es tok=>
   cases nl with
   |false=>cases h
   |true=>obtain⟨q1,q2⟩:=uR (us:=[.sl true z es tok]) (vs:=[v]) h ⟨hr,trivial⟩;subst q1;exact⟨(q2 v (YF.2 rfl)).2,fun y hy=>(q2 y hy).1⟩
 |agg us=>obtain⟨cs,rfl,hl⟩:=Rd.agg_iff.1 hr;obtain⟨q1,q2⟩:=uR h hl;exact⟨by rw[<-q1];rfl,fun y hy=>(q2 y hy).1⟩
 |_=>cases h
theorem G2 (h:kZ u=some xs):u.nm=none:=by cases u<;>first|rfl|cases h
variable {P:Program} {t:TypeId} {cs:List V} {off:Nat}
theorem De (h:cU P t cs off=some u):cU P t (cs.drop off) 0=some u:=by
 unfold cU at h⊢;generalize aK P t=A at h⊢;generalize bm P t=Z at h⊢;cases A with
 |none=>exact h
 | some b=>
   cases Z with
   |none=>cases b<;>exact h
   | some k=>
     cases b with
     |false=>simpa using h
     | true=>
       simp only at h⊢;split at h
       . rw[YG (by rw[ZQ];omega)];simpa using h
       . cases h
theorem yO (m:Lim) (w:World):∀l:List Value,RdL m w l (l.map V.x)
 |[]=>trivial
 |v::l=>⟨.x v,yO m w l⟩
theorem HoldX.rdx (h:HoldX E n B s a w) (x:Operand) {u:V} (hx:Go.Proofs.YtmfojhkjbkombaaGreat.ev E s.st x=u) (hu:u.nm=none):∃m,Rd m w (a.eval x) u:=by obtain⟨D,m,O,⟨⟨b,β,hr⟩,_⟩,_⟩:=h;exact⟨m,(hx▸aH hr x).rd hu⟩
end
section
variable {E:Env} {n:Nat} {B:Xb} {F:Fx} {s:XS} {a:Act} {w w':World} {r:Option Nat} {o:Oper} {R:V->HH->Prop} {K:Act->World->Prop} {Q:Exit->Act->World->Prop}
theorem L9 (h:v.oneCell'=true):(V.x v).cells=[.x v]:=by cases v<;>first|rfl|cases h
theorem uT (h:HoldX E n B s a w) (hd:∀k,o.dst=some k->k<n) (hK:∀a' w' v H',R v H'->HoldX E n B ⟨s.st.put o.dst v.bare,H'⟩ a' w'->K a' w') {v:Value} {u:V} (hrun:(execOp a.eval o).run E.P w= .ok (.value v) w) (hv:∀m,Rd m w v u) (hR:R u s.H):o.wp E.P a w K Q:=by unfold Oper.wp;rw[hrun];exact hK _ _ _ _ hR (h.put hd hv)
theorem SH (hE:EnvOK E) (h:HoldX E n B s a w) (hd:∀k,o.dst=some k->k<n) (hK:∀a' w' v H',R v H'->HoldX E n B ⟨s.st.put o.dst v.bare,H'⟩ a' w'->K a' w') {v:Value} {ob:Obj} (hrun:(execOp a.eval o).run E.P w= .ok (.value v) (w.alloc ob)) (hR:R (.x v) (upd s.H w.heap.size (some ob))):o.wp E.P a w K Q:=by unfold Oper.wp;rw[hrun];exact hK _ _ _ _ hR ((h.fresh hE ob).put hd (fun m=> .x v))
theorem SI (hE:EnvOK E) (h:HoldX E n B s a w) (hd:∀k,o.dst=some k->k<n) (hK:∀a' w' v H',R v H'->HoldX E n B ⟨s.st.put o.dst v.bare,H'⟩ a' w'->K a' w') {x:Operand} {T:Tr} (hT:n7 s.H (ev E s.st x)=some T) (hr:T R) (hrun:(execOp a.eval o).run E.P w= .ok (.value (a.eval x)) w):o.wp E.P a w K Q:=by
 unfold n7 at hT;split at hT
 case h_2=>cases hT
 rename_i g k cap hx;cases hT;obtain⟨c,hc,⟨hk,hl,h1⟩,hr⟩:=cN hr;have hob:=jT hc;have hx':=h.ev x hx;obtain⟨D,m,O,q1,q2,q4,q5,q6⟩:=h;obtain⟨p1,p2,p3,p4,p5⟩:=q2 g _ hob;have hs:Step (fun k=>s.H k≠none) m w (upd m g none) w:=(Step.freeze g m w).mono (fun i _ e=>by subst e;rw[hob];simp);obtain⟨_,O',k1,k2,k3,k4,k5⟩:=HoldX.stepped (H':=upd s.H g none) hE q1 q2 q4 q5 q6 hs (fun g' ob hg=>by
  by_cases e:g'=g
  . subst e;rw[aj] at hg;cases hg
  . rw[ag _ _ e] at hg;obtain⟨r1,r2,r3,r4⟩:=q2 g' ob hg;exact⟨r2,by rw[ag _ _ e];exact r3,.inl A08 ⟩)
 have hlen:((c.1.take k).map V.x).length=k:=by rw[eq,YQ,aae hl]
 have hrd:Rd (upd m g none) w (a.eval x) (.sl false 1 ((c.1.take k).map V.x) none):=by
  rw[hx'];have:=Rd.sl (m:=upd m g none) (w:=w) g 0 cap 1 ((c.1.take k).map V.x) none (fun j=>(c.1[j]?).getD Go.undef) (ai p2) (by rw[hlen];exact hk) (fun i e he=>?_) (fun j hj=>?_) (fun fr hf=>?_) (fun i e he j d hdj=>?_)
  . rwa [hlen] at this
  . rw[Io] at he;obtain⟨v,hv,rfl⟩:=YE.1 he;rw[L9 ((YK.1 h1) v (YB hv))];rfl
  . rw[YP,hlen] at hj;rw[Box.cell p2,YC,ZL,io A0b];rfl
  . rw[aj] at hf;cases hf
  . rw [Io] at he;obtain⟨v,hv,rfl⟩:=YE.1 he;rw[L9 ((YK.1 h1) v (YB hv))] at hdj;cases j with
    | zero=>
      cases hdj;have:c.1[i]?=some v:=by
       rw[Zm] at hv;split at hv
       . exact hv
       . cases hv
      rw[YP,ZE,this];exact .x _
    |succ j=>cases hdj
 unfold Oper.wp;rw[hrun];refine hK _ _ _ _ hr ?_;cases hdst:o.dst with
 |none=>exact⟨D,_,O',k1,k2,k3,k4,k5⟩
 |some d=>exact⟨D,_,O',k1.put (hd d hdst) hrd,k2,k3,k4,k5⟩
theorem yP (hE:EnvOK E) (hF:∀f C,F.F f=some C->cn E f C) (hI:∀t name C,F.I t name=some C->ij E t name C) (h:HoldX E n B s a w) {T:Tr} (hT:o7 E.P F o (ev E s.st) s.H=some T) (hd:∀k,o.dst=some k->k<n) (hr:T R) (hK:∀a' w' v H',R v H'->HoldX E n B ⟨s.st.put o.dst v.bare,H'⟩ a' w'->K a' w'):o.wp E.P a w K Q:=by
 unfold o7 at hT;split at hT
 . --load
   rename_i t x ho;unfold rv at hT;split at hT
   case h_2=>cases hT
   rename_i g off hx;cases hT;obtain⟨c,hc,hr⟩:=cN hr;obtain⟨u,hu,hr⟩:=cN hr;have hh:=h.at (jT hc);have hx':=h.ev x hx;have hcell:∀(k:Nat) (v:Value),(c.1.drop off)[k]?=some v->w.cell? ⟨g,off+k,none⟩=some v:=fun k v hk=>by
    rw[Box.cell hh,ZL]
    rwa [ZN] at hk
   have hp:=De hu;rw[<-List.map_drop] at hp;obtain⟨m0,hm0⟩:∃m:Lim,True:=⟨fun _=>none,trivial⟩;obtain⟨v,hrun,_⟩:=gO (m:=m0) hcell (yO m0 w _) hp;refine uT h hd hK (v:=v) (u:=u) (by simp only[execOp,ho,hx',Sem.run_bind,hrun,Result.andThen_ok,Sem.run_pure]) (fun m=>?_) hr;obtain⟨v',hrun',hv'⟩:=gO (m:=m) hcell (yO m w _) hp;rw[hrun] at hrun';cases hrun';exact hv'
 . --store
   rename_i t x y ho;split at hT
   case h_2=>cases hT
   rename_i hdst;unfold nW at hT;split at hT
   case h_2=>cases hT
   rename_i g off hy;cases hT;obtain⟨c,hc,hr⟩:=cN hr;obtain⟨xs,hxs,⟨hsz,hlen⟩,hr⟩:=cN hr;have hob:=jT hc;have hh:=h.at hob;obtain⟨m1,hv⟩:=h.rdx y rfl (G2 hxs);obtain⟨hcs,hone⟩:=uS hxs hv;have hx':=h.ev x hy;have hst:=cz E.P g off c.2 (0,0) xs 0 c.1.toArray w hh (.inl rfl) (by simpa using hlen) hone;simp only[ZE,List.toList_toArray] at hst;have hrun:(execOp a.eval o).run E.P w= .ok .skip (w.setRow g (eR c.1 off xs).toArray):=by simp only[execOp,ho,hx',Instr.storeAt,Instr.sureAddr,storeVar,Sem.run_bind,Sem.run_pure,Result.andThen_ok,bz hsz,hcs];rw[YL A0j,hst];rfl
   unfold Oper.wp;rw[hrun];show K (a.put o.dst undef) _;rw[hdst];have hw:HoldX E n B ⟨s.st,upd s.H g (some (rowO (eR c.1 off xs) c.2))⟩ a (w.setRow g (eR c.1 off xs).toArray):=by
    refine h.wrote hE rfl rfl rfl (by simp[World.setRow]) (fun k _ hk=>setRow_other w g k _ (by rintro rfl;rw[hob] at hk;cases hk)) (fun g' ob' hg=>?_);by_cases e:g'=g
    . subst e;rw[aj] at hg;cases hg;exact⟨setRow_heap w _ _ _ _ (0,0) hh,.inl (by rw[hob];simp)⟩
    . rw[ag _ _ e] at hg;exact⟨(setRow_other w g g' _ e).trans (h.at hg),.inl A08 ⟩
   have:=hK a (w.setRow g (eR c.1 off xs).toArray) .undef _ hr;rw[hdst] at this;exact this hw
 . --fieldAddr
   rename_i t x f ho;unfold nX at hT;split at hT
   case h_2=>cases hT
   rename_i g off hx;cases hT;obtain⟨k,hk,hr⟩:=cN hr;unfold GU at hk;split at hk
   case h_2=>cases hk
   rename_i fs hfs;split at hk
   case h_2=>cases hk
   rename_i fd hfd;split at hk
   case h_2=>cases hk
   rename_i z hz;cases hk;exact uT h hd hK (cH ho hfs hfd hz A0b (h.ev x hx) rfl) (fun m=> .x _) hr
 . --nilCheck
   rename_i x ho;unfold yu at hT;split at hT
   case h_2=>cases hT
   rename_i p hx;cases hT;exact uT h hd hK (eK ho (h.ev x hx)) (fun m=> .x _) hr
 . --indexAddr
   rename_i t x i ho;unfold nY at hT;split at hT
   case h_2=>cases hT
   rename_i g off len cap k iv hx hi;cases hT;obtain⟨z,hz,⟨h0,hl⟩,hr⟩:=cN hr;unfold o5 at hz;split at hz
   case h_2=>cases hz
   rename_i el hel;refine uT h hd hK ?_ (fun m=> .x _) hr;simp only[execOp,ho,h.ev x hx,h.ev i hi,Instr.indexAt,asIntOf,Sem.run_bind,Sem.run_pure,Result.andThen_ok,ax hel,Sem.run_ite];rw[YG ⟨h0,hl⟩];simp only[bz hz,Result.andThen_ok,aI]
 . --len
   rename_i args ts ho;split at hT
   case h_2=>cases hT
   rename_i x t hargs hts;unfold yw at hT;split at hT
   case h_2=>cases hT
   rename_i b len cap hx;cases hT;obtain⟨z,hz,hr⟩:=cN hr;unfold o5 at hz;split at hz
   case h_2=>cases hz
   rename_i el hel;have ha:args= #[x]:=Zt.1 hargs;have ht:ts= #[t]:=Zt.1 hts;subst ha ht;exact uT h hd hK (GQ ho hel (h.ev x hx)) (fun m=> .x _) hr
 . --box
   rename_i t x ho;split at hT
   case h_2=>cases hT
   cases hT;obtain⟨xs,hxs,hr⟩:=cN hr;obtain⟨m1,hv⟩:=h.rdx x rfl (G2 hxs);obtain⟨hcs,_⟩:=uS hxs hv;refine SH hE h hd hK (uw ho) ?_;rw[hcs];exact hr _ h.new
 . --makeSlice
   rename_i t l c ho;split at hT
   case h_2=>cases hT
   unfold rx at hT;split at hT
   case h_2=>cases hT
   rename_i k i k' i' hl hc;cases hT;obtain⟨q,hq,⟨rfl,rfl,h0,hb,hm⟩,hr⟩:=cN hr;unfold KW at hq;split at hq
   case h_2=>cases hq
   rename_i el hel;split at hq
   case h_2=>cases hq
   rename_i inf hinf;obtain⟨z,hz,rfl⟩:=YE.1 hq;have:=hr _ h.new;rw[show ∀A:Array Value,rowO A.toList el= .cells A el (0,0) from fun A=>by simp[rowO]] at this;exact SH hE h hd hK (kX ho hel hinf hz (h.ev l hl) (h.ev c hc) h0 hb hm) this
 . --a call
   rename_i c args ts ho;unfold ry at hT;split at hT
   case h_2=>cases hT
   rename_i f hf;split at hT
   case h_2=>cases hT
   rename_i C hC;cases hT;obtain⟨hdat,hr⟩:=hr;obtain⟨hcall,hfun⟩:=hF f C hC;have hc:a.eval c= .func (.func f) #[] #[]:=h.ev c (z6 hf);have hrun:(execOp a.eval o).run E.P w= .ok (.enter f (args.map a.eval)) w:=by simp only[execOp,ho,resolve,Sem.run_bind,hc,Deferred.ofValue,Sem.run_pure,Result.andThen_ok,invoke];rw[hcall];simp
   obtain⟨D,m,O,q1,q2,q4,q5,q6⟩:=h;obtain⟨⟨b,β,hrel⟩,hlt⟩:=q1;unfold Oper.wp;rw[hrun];have q1:Now E n D O m s.st a w:=⟨⟨b,β,hrel⟩,hlt⟩;refine(hfun m w (args.map a.eval) _ s.H R hr hdat (by simpa using i7 hrel args.toList hdat) (fun g ob hg=>⟨(q2 g ob hg).2.1,(q2 g ob hg).2.2.1,(q2 g ob hg).2.2.2.2⟩) q1.J hrel.glob).mono ?_;rintro e w' ⟨v,m',u,H',rfl,hv,hR,hs,hH⟩;obtain⟨_,O',k1,k2,k3,k4,k5⟩:=HoldX.stepped hE q1 q2 q4 q5 q6 hs hH;refine hK (a.put o.dst v) w' u H' hR ?_;cases hdst:o.dst with
   |none=>exact⟨D,m',O',k1,k2,k3,k4,k5⟩
   |some d=>exact⟨D,m',O',k1.put (hd d hdst) hv,k2,k3,k4,k5⟩
 . --a method
   rename_i x name args ts ho;unfold yx at hT;split at hT
   case h_2=>cases hT
   rename_i t v hx;split at hT
   case h_2=>cases hT
   rename_i C hC;cases hT;obtain⟨hdat,hr⟩:=hr;have hx':=h.ev x hx;obtain⟨D,m,O,q1,q2,q4,q5,q6⟩:=h;obtain⟨⟨b,β,hrel⟩,hlt⟩:=q1;have q1:Now E n D O m s.st a w:=⟨⟨b,β,hrel⟩,hlt⟩;obtain⟨f,rc,hcall,hdo⟩:=hI t name C hC m w v (args.map a.eval) _ s.H R hr hdat (by simpa using i7 hrel args.toList hdat) (fun g ob hg=>⟨(q2 g ob hg).2.1,(q2 g ob hg).2.2.1,(q2 g ob hg).2.2.2.2⟩) q1.J hrel.glob;have hrun:(execOp a.eval o).run E.P w= .ok (.enter f (#[rc]++args.map a.eval)) w:=by
    have e0:(#[Value.iface t v]++args.map a.eval)[0]?=some (.iface t v):=by rw[ZF A0j];rfl
    have e1:(#[Value.iface t v]++args.map a.eval).extract 1 (#[Value.iface t v]++args.map a.eval).size=args.map a.eval:=by apply Zt.1;simp;exact YS A0j
    simp only[execOp,ho,resolve,Sem.run_bind,hx',Sem.run_pure,Result.andThen_ok,invoke,e0,e1];exact hcall
   unfold Oper.wp;rw[hrun];refine Calls.mono hdo ?_;rintro e w' ⟨v,m',u,H',rfl,hv,hR,hs,hH⟩;obtain⟨_,O',k1,k2,k3,k4,k5⟩:=HoldX.stepped hE q1 q2 q4 q5 q6 hs hH;refine hK (a.put o.dst v) w' u H' hR ?_;cases hdst:o.dst with
   |none=>exact⟨D,m',O',k1,k2,k3,k4,k5⟩
   |some d=>exact⟨D,m',O',k1.put (hd d hdst) hv,k2,k3,k4,k5⟩
 . -- append
   rename_i args ts ho;split at hT
   case h_2=>cases hT
   rename_i x y t t' hargs hts;split at hT
   case h_2=>cases hT
   rename_i ht;obtain rfl:=Y9 ht;unfold yy at hT;split at hT
   case h_2=>cases hT
   rename_i v z tok hx hy;cases hT;obtain⟨hap,es,hrow,hlen,hr⟩:=hr;unfold GV at hap;split at hap
   case h_2=>cases hap
   rename_i el hel;split at hap
   case h_2=>cases hap
   rename_i inf hinf;split at hap
   case h_2=>cases hap
   rename_i zv hzv;obtain⟨s1,s2,s3⟩:=Y9 hap;have ha:args= #[x,y]:=Zt.1 hargs;have ht:ts= #[t,t]:=Zt.1 hts;subst ha ht;have hx':=h.ev x hx;obtain⟨m1,hv⟩:=h.rdx y hy rfl;have hv':Rd m1 w (a.eval y) (.sl false 1 [.x (.int .i64 z)] none):=by
    have:=hv.bare
    rwa [dP] at this
   obtain⟨v',w',g,ob,h1,h2,h3,h4,h5,h6,h7,h8,h9,h10⟩:=GS (ty:=o.type) hel hinf s1 hzv s2 s3 hrow (fun g ob hg=>h.at hg) hv' hlen;have hg:blkOf v=some g∨s.H g=none:=h9.imp id fun hle=>by
    cases e:s.H g with
    |none=>rfl
    |some ob'=>exact absurd (ai (h.at e)) (Zs.2 hle)
   have hw:HoldX E n B ⟨s.st,upd s.H g (some ob)⟩ a w':=by
    refine h.wrote hE h2 h3 h4 h5 (fun k hk hn=>h8 k hk (fun e=>?_)) (fun g' ob' hg'=>?_)
    . subst e;rcases h9 with h9|h9
      . rcases hrow with⟨_,rfl⟩|⟨g0,cap,cur,ty,rfl,hH0,_⟩
        . cases h9
        . cases h9;rw[hH0] at hn;cases hn
      . exact absurd hk (Zs.2 h9)
    . by_cases e:g'=g
      . subst e;rw[aj] at hg';cases hg';refine⟨h7,h9.imp (fun h9=>?_) id⟩;rcases hrow with⟨_,rfl⟩|⟨g0,cap,cur,ty,rfl,hH0,_⟩
        . cases h9
        . cases h9;rw[hH0];simp
      . rw[ag _ _ e] at hg';have hat:=h.at hg';exact⟨(h8 g' (ai hat) e).trans hat,.inl (by rw[hg'];simp)⟩
   unfold Oper.wp;have hrun:(execOp a.eval o).run E.P w= .ok (.value v') w':=by simp only[execOp,ho,resolve,Sem.run_bind,Sem.run_pure,Result.andThen_ok,invoke,builtin];rw[show Array.map a.eval #[x,y]= #[v,a.eval y] from by simp[hx'],h1];rfl
   rw[hrun];exact hK _ _ _ _ (hr v' g ob h6 hg (h10 _ (aj _ _ _))) (hw.put hd (fun m=> .x _))
 . --a row's beginning
   rename_i t x k ho;unfold rA at hT;split at hT
   case h_2=>cases hT
   rename_i g off len cap kk i hx hk;cases hT;obtain⟨z,hz,⟨h0,hl⟩,hr⟩:=cN hr;unfold o5 at hz;split at hz
   case h_2=>cases hz
   rename_i el hel;obtain⟨j,rfl⟩:=ZX h0;refine uT h hd hK ?_ (fun m=> .x _) hr;have hb:(Instr.sliceBounds true len cap none (some (Value.int kk (j:Int))) none).run E.P w= .ok (0,j,cap) w:=by simp[Instr.sliceBounds,cm _ (show j<=cap by omega)]
   simp only[execOp,ho,h.ev x hx,h.ev k hk,Instr.sliceAt,Sem.run_bind,ax hel,Result.andThen_ok,Instr.slice,aax,Zk,hb,bz hz,Sem.run_pure];congr 2;cases cap<;>simp[aI]
 . --makeInterface
   rename_i t x ho;unfold nZ at hT;split at hT
   case h_2=>cases hT
   rename_i v hx;cases hT;obtain⟨hni,hr⟩:=hr;refine uT h hd hK ?_ (fun m=> .x _) hr;unfold o6 at hni;split at hni
   . cases hni
   . rename_i ty hty hne;simp only[execOp,ho,h.ev x hx,Instr.makeInterface,Sem.run_bind,ax hne,Result.andThen_ok,Sem.run_pure]
   . cases hni
 . --typeAssert
   rename_i x t0 t ok ho;split at hT
   case h_2=>cases hT
   unfold k7 at hT;split at hT
   case h_2=>cases hT
   rename_i t' v hx;cases hT;obtain⟨⟨hni,rfl⟩,hr⟩:=hr;refine uT h hd hK ?_ (fun m=> .x _) hr;unfold o6 at hni;split at hni
   . cases hni
   . rename_i ty hty hne;simp only[execOp,ho,h.ev x hx,Instr.typeAssert,Sem.run_bind,ax hne,Result.andThen_ok,Sem.run_pure,YX,Y2,YU]
   . cases hni
 . --a row becomes data
   rename_i x ho;split at hT
   case h_2=>cases hT
   exact SI hE h hd hK hT hr (by simp[execOp,ho])
 . rename_i x ho;split at hT
   case h_2=>cases hT
   exact SI hE h hd hK hT hr (by simp[execOp,ho])
 . cases hT
theorem lf (hE:EnvOK E) (hF:∀f C,F.F f=some C->cn E f C) (hI:∀t name C,F.I t name=some C->ij E t name C) {ops:Array Oper} {K':XS->Prop} {i:Nat} (hi:ops[i]?=some o) (hdo:∀k,o.dst=some k->k<n) (h:HoldX E n B s a w) (hx:eg E F ops [o] s K') (hK:∀s' a' w',K' s'->HoldX E n B s' a' w'->K a' w'):wpOpIn (bo r) 0 E.P ops Q i K a w:=by
 rw[kz] at hx;unfold wpOpIn;rw[hi];simp only;cases hb:bS ops s.st.t o.guard with
 |none=>rw[hb] at hx;exact hx.elim
 | some b=>
   rw[hb] at hx;have hw:=(match h with|⟨_,_,_,⟨⟨_,_,hrel⟩,_⟩,_⟩=>gU hrel hb);rw[hw];cases b with
   | true=>
     simp only[YX];rw[n9] at hx;cases hT:o7 E.P F o (ev E s.st) s.H with
     |some T=>rw[hT] at hx;refine qM r (fun c e=>?_) (yP hE hF hI h hT hdo hx (fun a' w' v H' hR h'=>hK _ a' w' hR h'));unfold o7 at hT;rw[e] at hT;cases hT
     | none=>
       rw[hT,n8] at hx;cases he:dh E o s.st with
       |none=>rw[he] at hx;exact hx.elim
       |some st'=>rw[he] at hx;exact qM r (jw he) (SG hE h he hdo (fun a' w' h'=>hK _ a' w' hx h'))
   |false=>simp only[Y2,YU];rw[l7] at hx;exact⟨fun _ _=>trivial,hK _ _ _ hx (by have:=h.put hdo (u:= .x (.tuple #[])) (v:= .tuple #[]) (fun m=> .x _);rwa [de] at this)⟩
theorem oc (hE:EnvOK E) (hF:∀f C,F.F f=some C->cn E f C) (hI:∀t name C,F.I t name=some C->ij E t name C) {ops:Array Oper} {K:XS->Prop} {Q:Exit->Act->World->Prop} (hQ:∀s' a' w',K s'->HoldX E n B s' a' w'->Q .normal a' w'):
 ∀(l:List Oper) (is:List Nat) (s:XS) (a:Act) (w:World),(∀j:Nat,(is[j]?).bind (ops[·]?)=l[j]?)->is.length=l.length->bg n l=true->HoldX E n B s a w->eg E F ops l s K->wpOpsIn (bo r) 0 E.P ops Q is a w
 | [],is,s,a,w,_,hl,_,h,hx=>by
   cases is with
   |nil=>exact hQ _ _ _ hx h
   |cons i is=>simp at hl
 | o ::l,is,s,a,w,hj,hl,hd,h,hx=>by
   cases is with
   |nil=>simp at hl
   | cons i is=>
     rw[wpOpsIn_cons];have hi:ops[i]?=some o:=by simpa using hj 0
     have hdl:bg n l=true:=by simp only[bg,ZB,YH] at hd;exact hd.2
     rw[GX] at hx;exact lf hE hF hI hi (cL hd (o:=o) A0j) h hx (fun s' a' w' hx' h'=>oc hE hF hI hQ l is s' a' w' (fun j=>by simpa using hj (j+1)) (by simpa using hl) hdl h' hx')
theorem yQ (hE:EnvOK E) (hm:E.P.follows .mixedOrders=true) (hF:∀f C,F.F f=some C->cn E f C) (hI:∀t name C,F.I t name=some C->ij E t name C) {ops:List Oper} {K:XS->Prop} {Q:Exit->Act->World->Prop} (hQ:∀s' a' w',K s'->HoldX E n B s' a' w'->Q .normal a' w') {id:Nat} (hd:bg n ops=true) (h:HoldX E n B s a w) (hx:C6 E F ops s K):(Code.region id ⟨ops⟩ true).wpIn (bo r) 0 E.P Q a w:=by
 obtain⟨need,I,val0,hok,hps,hI0,hstep,hend⟩:=hx;refine uy hm hok (fun L a w=>∃H val bx,I L H val bx∧HoldX E n B ⟨IM s.st val ops L bx,H⟩ a w) ?_ (fun a w ⟨H,val,bx,h1,h2⟩=>?_) ⟨s.H,val0,s.st.b,hI0,by unfold IM;rw[L7];exact h.drew hE⟩
 . rintro L i o a w K' ho hr hcl ⟨H,val,bx,h1,h2⟩ hK;obtain⟨hb,hdd⟩:=kY ho hr;refine lf hE hF hI (by simpa using ho) (fun k hk=>cL hd (YB ho) k hk) h2 (hstep L i o H val bx ho hb hdd hcl h1 (fun k hk=>?_)) (fun s' a' w' ⟨val',hv,bx',hI',hle⟩ h'=>hK a' w' ⟨s'.H,val',bx',hI',(h'.le hle).le (st':=IM s.st val' ops (L|||2^i) bx') ⟨fun k=>?_,fun s cs h=>⟨cs,h,gh cs⟩⟩⟩)
   . refine eL ?_;have h3:=YK.1 hps i (Ze.2 (iO.1 ho).1);rw[ho] at h3;obtain⟨j,hj,hjk⟩:=Z2.1 (YK.1 h3 k hk);unfold cI;refine Z2.2 ⟨j,Ze.2 ?_,by rw[hdd j hj,aaO];exact hjk⟩;unfold ig at hjk;split at hjk
     . rename_i o' ho';exact(iO.1 ho').1
     . cases hjk
   . have h1:=(AI (st:=s.st) (L:=L) ho hv).t k;unfold yD;cases hdst:o.dst with
     |none=>rw[hdst] at h1;exact h1
     |some d=>rw[hdst] at h1;exact h1
 . obtain⟨ts,bs,q1,q2,hk⟩:=hend H val bx h1;exact hQ _ a w hk (h2.le (aJ q1 q2))
def uU (any anyX PX:Nat->Bool) (n:Nat):Code->Bool
 | .region id ops d=>bg n ops.toList&&(!d||(anyX id||(any id||qP ops)))
 | .seq a b=>(match a with| .region id _ _=>PX id|_=>false)||(uU any anyX PX n a&&uU any anyX PX n b)
 | .cond _ a b=>uU any anyX PX n a&&uU any anyX PX n b
 | .block _ a=>uU any anyX PX n a
 | .loop a=>uU any anyX PX n a
 |_=>true
def G3 (E:Env) (n:Nat) (B:Xb) (K:Out->XS->Prop) (e:Exit) (a:Act) (w:World):Prop:=∃o s,ea e=some o∧K o s∧HoldX E n B s a w
def od (E:Env) (n:Nat) (r:Option Nat) (p:Code×(XS->(Out->XS->Prop)->Prop)):Prop:=∀(B:Xb) (s:XS) (K:Out->XS->Prop) (a:Act) (w:World),HoldX E n B s a w->p.2 s K->p.1.wpIn (bo r) 0 E.P (G3 E n B K) a w
theorem jV (hE:EnvOK E) (hm:E.P.follows .mixedOrders=true) (hF:∀f C,F.F f=some C->cn E f C) (hI:∀t name C,F.I t name=some C->ij E t name C) (hP:∀id p,F.P id=some p->od E n r p):∀(c:Code) (K:Out->XS->Prop) (s:XS) (a:Act) (w:World),uU E.any F.any (fun id=>(F.P id).isSome) n c=true->HoldX E n B s a w->cw E F c s K->c.wpIn (bo r) 0 E.P (G3 E n B K) a w:=by
 intro c
 induction c with
 |skip=>intro K s a w _ h hr;exact wpIn_skip ⟨.normal,s,rfl,hr,h⟩
 | region id ops d=>
   intro K s a w hok h hr;simp only[uU,YH] at hok;cases d with
   | true=>
     unfold cw at hr;cases ha:F.any id with
     |true=>rw[ha] at hr;exact yQ (ops:=ops.toList) hE hm hF hI (fun s' a' w' hk h'=>⟨.normal,s',rfl,hk,h'⟩) hok.1 h hr
     |false=>rw[ha] at hr hok;exact wpIn_mono (NT (r:=r) hE hm (by simp only[aY,YH];exact hok) h hr) (fun e a' w' ⟨o,st',h1,h2,h3⟩=>⟨o,_,h1,h2,h3⟩)
   | false=>
     refine wpIn_region (oc hE hF hI (fun s' a' w' hk h'=>⟨.normal,s',rfl,hk,h'⟩) ops.toList _ s a w (fun j=>?_) A0j hok.1 h hr);rcases Zu j ops.size with h'|h'
     . rw[ZP h'];simp
     . rw[Y1 (by simpa using h')];simp[h']
 | seq x y ihx ihy=>
   intro K s a w hok h hr;cases hp:eh F x with
   | some p=>
     have hid:∃id,F.P id=some p:=by
      unfold eh at hp;split at hp
      . exact⟨_,hp⟩
      . cases hp
     obtain⟨id,hid⟩:=hid;unfold cw at hr;rw[hp] at hr;obtain⟨he,hW⟩:p.1= .seq x y∧p.2 s K:=hr;exact he▸hP id p hid B s K a w h hW
   |none=>
   have hok:uU E.any F.any (fun id=>(F.P id).isSome) n x=true∧uU E.any F.any (fun id=>(F.P id).isSome) n y=true:=by
    simp only[uU,ZV,YH] at hok;rcases hok with hok|hok
    . unfold eh at hp;split at hok
      . simp only at hp;rw[hp] at hok;cases hok
      . cases hok
    . exact hok
   unfold cw at hr;rw[hp] at hr;replace hr:cw E F x s (fun o s'=>match o with| .normal=>cw E F y s' K|o=>K o s'):=hr;refine wpIn_seq (wpIn_mono (ihx _ s a w hok.1 h hr) ?_);rintro e a' w' ⟨o,s',ho,hk,h'⟩;cases e<;>simp only[ea,Y8,reduceCtorEq] at ho<;>subst ho
   all_goals first|exact ihy K s' a' w' hok.2 h' hk|exact⟨_,s',rfl,hk,h'⟩
 | cond c x y ihx ihy=>
   intro K s a w hok h hr;simp only[uU,YH] at hok;unfold cw at hr;split at hr
   . rename_i t ht;exact wpIn_cond_split (h.ev c ht) (fun e=>ihx K s a w hok.1 h (hr.1 e)) (fun e=>ihy K s a w hok.2 h (hr.2 e))
   . exact hr.elim
 | block id x ih=>
   intro K s a w hok h hr;refine wpIn_block (wpIn_mono (ih _ s a w hok h hr) ?_);rintro e a' w' ⟨o,s',ho,hk,h'⟩;cases e<;>simp only[ea,Y8,reduceCtorEq] at ho<;>subst ho<;>first|exact⟨_,s',rfl,hk,h'⟩|skip
   rename_i id';simp only[Exit.inBlock] at hk⊢;by_cases hid:id'=id
   . simp only[hid,YX] at hk⊢;exact⟨_,s',rfl,hk,h'⟩
   . simp only[hid,YU] at hk⊢;exact⟨_,s',rfl,hk,h'⟩
 | loop x ih=>
   intro K s a w hok h hr;obtain⟨X,T,B',J,μ,x0,⟨h0,hJ0⟩,hround⟩:=hr;let S:Act->World->Nat->Prop:=fun a' w k=>∃x H,μ x=k∧J x H∧HoldX E n B ⟨au (T x) (B' x),H⟩ a' w
   let ν:Act->World->Nat:=fun a w=>Classical.epsilon fun k=>S a w k∧∀j,S a w j->k<=j
   have hspec:∀a w,(∃k,S a w k)->S a w (ν a w)∧∀j,S a w j->ν a w<=j:=fun a w ⟨k,hk⟩=>abx (Af _ k hk)
   refine wpIn_loop (fun a w=>∃k,S a w k) ν ⟨_,x0,s.H,rfl,hJ0,h.le h0⟩ ?_;intro a1 w1 hS;obtain⟨x,H,hx,hJ,hrel⟩:=(hspec a1 w1 hS).1;refine wpIn_mono (ih _ ⟨au (T x) (B' x),H⟩ a1 w1 hok hrel (hround x H hJ)) ?_;rintro e a' w' ⟨o,s',ho,hk,h'⟩;cases e<;>simp only[ea,Y8,reduceCtorEq] at ho<;>subst ho<;>first|exact⟨_,s',rfl,hk,h'⟩|skip
   obtain⟨x',⟨q1,q2,hJ'⟩,hlt⟩:=hk;have hS':S a' w' (μ x'):=⟨x',s'.H,rfl,hJ',h'.le (aJ q1 q2)⟩;refine⟨⟨_,hS'⟩,?_⟩;have:ν a' w'<=μ x':=(hspec a' w' ⟨_,hS'⟩).2 _ hS';omega
 |label l=>intro K s a w _ h hr;exact wpIn_label ⟨.normal,s,rfl,hr,h⟩
 |exit id=>intro K s a w _ h hr;exact wpIn_exit ⟨_,s,rfl,hr,h⟩
 |ret=>intro K s a w _ h hr;exact wpIn_ret ⟨_,s,rfl,hr,h⟩
 |_=>intro K s a w _ h hr;simp[cw] at hr
def NU (E:Env) (rs:List ResultVar) (T:V->HH->Prop):Out->XS->Prop
 | .exit _,_=>False
 |_,s=>iC (dZ E s.st rs) fun r=>T r s.H
def G4 (r:V) (H:HH) (T:V->HH->Prop):Prop:=∃(Z:Nat->Bool) (u:V),(∀m w v,(∀g ob,H g=some ob->w.heap[g]?=some ob)->(∀g,Z g=true->H g≠none->m g=none)->Rd m w v r->Rd m w v u)∧T u (fun g=>if Z g=true then none else H g)
def NV (E:Env) (rs:List ResultVar) (T:V->HH->Prop):Out->XS->Prop
 | .exit _,_=>False
 |_,s=>iC (dZ E s.st rs) fun r=>G4 r s.H T
theorem uV {D:List Deferred} (hE:EnvOK E) {fn:Func} {R:Ending->World->Prop} (hK:E.K<=B.ws.heap.size)
 (hR:∀(w:World) (m:Lim) (O:Nat->Prop),Now E n D O m s.st a w->(∀g ob,s.H g=some ob-> ¬O g∧w.heap[g]?=some ob∧m g=some 0∧(B.ws.heap.size<=g∨B.X g)∧E.K<=g)->Step B.X B.ms B.ws m w->∃v,(results fn a.tmps).run E.P w= .ok v w∧R (.returned v) w):∀(D':List Deferred) (w:World) (m:Lim) (O:Nat->Prop),Now E n D O m s.st a w->(∀g ob,s.H g=some ob-> ¬O g∧w.heap[g]?=some ob∧m g=some 0∧(B.ws.heap.size<=g∨B.X g)∧E.K<=g)->Step B.X B.ms B.ws m w->lc D' O B.ws.heap.size w s.H->LeavesInM (bo none) 0 E.P fn a.tmps R D' .returning w
 |[],w,m,O,h1,h2,h3,h4=>hR w m O h1 h2 h3
 | d::D',w,m,O,h1,h2,h3,h4=>by
   obtain⟨b,rfl,q1,q2,q3,q4⟩:=h4.2 d (Zc ..);have hs:Step (fun k=>k=b) m w m (w.putObj b (.deferred none)):=Step.mark q2;have hJ:E.J (w.putObj b (.deferred none)):=hE.keep [b] _ _ (fun x hx=>by rw[YF.1 hx];exact Y6 hK q1) h1.J (hs.bel (fun k _ e=>YF.2 e));have hnb:=(Zj.1 h4.1).1;refine⟨ A0E,.inl ⟨b,_,rfl,run_takeDeferred q2,uV hE hK hR D' _ m O (h1.other hs (fun k hk e=>q3 (e▸hk)) hJ) (fun g ob hg=>?_) (h3.next hs (fun i hi e=>absurd hi (Zs.2 (e▸q1)))) ⟨(Zj.1 h4.1).2,fun x hx=>?_⟩⟩⟩
   . obtain⟨r1,r2,r3⟩:=h2 g ob hg;exact⟨r1,(World.putObj_heap_other (fun e=>by rw[e,q4] at hg;cases hg)).trans r2,r3⟩
   . obtain⟨b',rfl,r1,r2,r3,r4⟩:=h4.2 x (YY _ hx);exact⟨b',rfl,r1,(World.putObj_heap_other (fun e=>hnb (by rw[e] at hx;exact hx))).trans r2,r3,r4⟩
theorem HoldX.leaves (hE:EnvOK E) (h:HoldX E n B s a w) {fn:Func} {R:Ending->World->Prop} (hK:E.K<=B.ws.heap.size)
 (hR:∀(D:List Deferred) (w:World) (m:Lim) (O:Nat->Prop),Now E n D O m s.st a w->(∀g ob,s.H g=some ob-> ¬O g∧w.heap[g]?=some ob∧m g=some 0∧(B.ws.heap.size<=g∨B.X g)∧E.K<=g)->Step B.X B.ms B.ws m w->∃v,(results fn a.tmps).run E.P w= .ok v w∧R (.returned v) w):LeavesInM (bo none) 0 E.P fn a.tmps R a.defers .returning w:=by
 obtain⟨D,m,O,q1,q2,q4,q5,q6⟩:=h;have hd:a.defers=D:=by obtain⟨_,_,hr⟩:=q1.rel;exact hr.defers
 rw[hd];exact uV hE hK (hR D) D w m O q1 q2 q5 q6.2
theorem G5 (hE:EnvOK E) (hm:E.P.follows .mixedOrders=true) (hF:∀f C,F.F f=some C->cn E f C) (hI:∀t name C,F.I t name=some C->ij E t name C) (hP:∀id p,F.P id=some p->od E n none p) {f:FuncId} {fn:Func} {c:Code} {C:List V->HH->Tr} {k:Nat} (hf:E.P.funcs[f]?=some fn) (hb:fn.body=some c) (hcall:∀args w,(callFunc f args).run E.P w= .ok (.enter f args) w) (hn:fn.ntmps=n) (hk:k<=n) (hn1:n<=1000) (hok:uU E.any F.any (fun id=>(F.P id).isSome) n c=true)
 (hbody:∀us H T,C us H T->us.all V.dat=true->us.length=k∧cw E F c ⟨start us,H⟩ (NU E fn.results.toList T)):cn E f C:=by
 refine⟨hcall,fun m w vs us H T hC hdat hr hH hj hg=>?_⟩;obtain⟨hl,hrun⟩:=hbody us H T hC hdat;refine cB.1 (callsIn_of_wp_marks (F:=bo none) (n:=0) hf hb trivial ?_);rw[hn];let B:Xb:=⟨fun k=>H k≠none,Kno.top,m,w⟩
 have h0:HoldX E n B ⟨start us,H⟩ {tmps:=vs++Array.replicate (n-vs.size) Go.undef,defers:=[]} w:=
  ⟨[],m,_,Now.first (gu hr hdat hl hk hn1 hj hg),fun g ob e=>⟨fun h=>h.elim,(hH g ob e).1,(hH g ob e).2.1,.inr A1d,(hH g ob e).2.2⟩,fun _ h=>h.elim,Step.refl _ _ _,trivial,ZD,fun d hd=>by cases hd⟩
 refine wpIn_mono (jV (r:=none) hE hm hF hI hP c _ _ _ _ hok h0 hrun) ?_;rintro e a' w' ⟨o,s',ho,hk,hX⟩;have fin:(∃r,dZ E s'.st fn.results.toList=some r∧T r s'.H)->LeavesInM (bo none) 0 E.P fn a'.tmps (fun e w'=>∃v m' r H',e= .returned v∧Rd m' w' v r∧T r H'∧Step (fun k=>H k≠none) m w m' w'∧∀g ob,H' g=some ob->w'.heap[g]?=some ob∧m' g=some 0∧(H g≠none∨w.heap.size<=g)) a'.defers .returning w':=by
  rintro⟨r,hres,hT⟩;refine hX.leaves hE (hE.high _ hj) fun D w' m1 O q1 q2 q5=>?_
  obtain⟨b,β,hrel⟩:=q1.rel;obtain⟨v,hv,hd⟩:=fp hrel hres;exact⟨v,hv,v,m1,r,s'.H,rfl,hd,hT,q5,fun g ob hg=>⟨(q2 g ob hg).2.1,(q2 g ob hg).2.2.1,(q2 g ob hg).2.2.2.1.elim .inr .inl⟩⟩
 cases e<;>simp only[ea,Y8,reduceCtorEq] at ho<;>subst ho
 all_goals first|exact fin (cN hk)|exact hk.elim
theorem cg (hE:EnvOK E) (hm:E.P.follows .mixedOrders=true) (hF:∀f C,F.F f=some C->cn E f C) (hI:∀t name C,F.I t name=some C->ij E t name C) {f:FuncId} {fn:Func} {c:Code} {C:List V->HH->Tr} {k:Nat} (hf:E.P.funcs[f]?=some fn) (hb:fn.body=some c) (hcall:∀args w,(callFunc f args).run E.P w= .ok (.enter f args) w) (hn:fn.ntmps=n) (hk:k<=n) (hn1:n<=1000) (hok:uU E.any F.any (fun id=>(F.P id).isSome) n c=true)
 (hbody:∀us H T,C us H T->us.all V.dat=true->us.length=k∧cw E F c ⟨start us,H⟩ (NU E fn.results.toList T)) (hP:∀id,F.P id=none:=by intro _;rfl):cn E f C:=
 G5 hE hm hF hI (fun id p h=>by rw[hP] at h;cases h) hf hb hcall hn hk hn1 hok hbody
theorem uW (hE:EnvOK E) (hm:E.P.follows .mixedOrders=true) (hF:∀f C,F.F f=some C->cn E f C) (hI:∀t name C,F.I t name=some C->ij E t name C) (hP:∀id p,F.P id=some p->od E n none p) {f:FuncId} {fn:Func} {c:Code} {C:List V->HH->Tr} {k:Nat} (hf:E.P.funcs[f]?=some fn) (hb:fn.body=some c) (hcall:∀args w,(callFunc f args).run E.P w= .ok (.enter f args) w) (hn:fn.ntmps=n) (hk:k<=n) (hn1:n<=1000) (hok:uU E.any F.any (fun id=>(F.P id).isSome) n c=true)
 (hbody:∀us H T,C us H T->us.all V.dat=true->us.length=k∧cw E F c ⟨start us,H⟩ (NV E fn.results.toList T)):cn E f C:=by
 refine⟨hcall,fun m w vs us H T hC hdat hr hH hj hg=>?_⟩;obtain⟨hl,hrun⟩:=hbody us H T hC hdat;refine cB.1 (callsIn_of_wp_marks (F:=bo none) (n:=0) hf hb trivial ?_);rw[hn];let B:Xb:=⟨fun k=>H k≠none,Kno.top,m,w⟩
 have h0:HoldX E n B ⟨start us,H⟩ {tmps:=vs++Array.replicate (n-vs.size) Go.undef,defers:=[]} w:=
  ⟨[],m,_,Now.first (gu hr hdat hl hk hn1 hj hg),fun g ob e=>⟨fun h=>h.elim,(hH g ob e).1,(hH g ob e).2.1,.inr A1d,(hH g ob e).2.2⟩,fun _ h=>h.elim,Step.refl _ _ _,trivial,ZD,fun d hd=>by cases hd⟩
 refine wpIn_mono (jV (r:=none) hE hm hF hI hP c _ _ _ _ hok h0 hrun) ?_;rintro e a' w' ⟨o,s',ho,hk,hX⟩;have fin:(∃r,dZ E s'.st fn.results.toList=some r∧G4 r s'.H T)->LeavesInM (bo none) 0 E.P fn a'.tmps (fun e w'=>∃v m' r H',e= .returned v∧Rd m' w' v r∧T r H'∧Step (fun k=>H k≠none) m w m' w'∧∀g ob,H' g=some ob->w'.heap[g]?=some ob∧m' g=some 0∧(H g≠none∨w.heap.size<=g)) a'.defers .returning w':=by
  rintro⟨r,hres,Z,u,hZ,hT⟩;refine hX.leaves hE (hE.high _ hj) fun D w' m1 O q1 q2 q5=>?_
  obtain⟨b,β,hrel⟩:=q1.rel;obtain⟨v,hv,hd⟩:=fp hrel hres;have hs:Step (fun k=>s'.H k≠none) m1 w' (fun k=>if Z k=true∧s'.H k≠none then none else m1 k) w':=by
   refine⟨rfl,rfl,rfl,⟨YJ _,fun b off v hlt hm hc=>hc,fun b hlt fr' hf=>?_,fun b es c hm hc=>hc⟩,fun k hk hn=>⟨rfl,YL (fun h=>hn h.2)⟩⟩;split at hf
   . cases hf
   . exact⟨fr',hf,YJ _⟩
  refine⟨v,hv,v,_,u,_,rfl,hZ _ w' v (fun g ob hg=>(q2 g ob hg).2.1) (fun g h1 h2=>YG ⟨h1,h2⟩) (hd.mono hs.ext),hT,q5.next hs (fun i hi e=>?_),fun g ob hg=>?_⟩
  . cases e':s'.H i with
    |none=>exact absurd e' e
    |some ob=>exact(q2 i ob e').2.2.2.1.resolve_left (aau.2 hi)
  . split at hg
    . cases hg
    . rename_i hz;exact⟨(q2 g ob hg).2.1,by rw[YL (fun h=>hz h.1)];exact(q2 g ob hg).2.2.1,(q2 g ob hg).2.2.2.1.elim .inr .inl⟩
 cases e<;>simp only[ea,Y8,reduceCtorEq] at ho<;>subst ho
 all_goals first|exact fin (cN hk)|exact hk.elim
theorem kA (hE:EnvOK E) (hm:E.P.follows .mixedOrders=true) (hF:∀f C,F.F f=some C->cn E f C) (hI:∀t name C,F.I t name=some C->ij E t name C) {f:FuncId} {fn:Func} {c:Code} {C:List V->HH->Tr} {k:Nat} (hf:E.P.funcs[f]?=some fn) (hb:fn.body=some c) (hcall:∀args w,(callFunc f args).run E.P w= .ok (.enter f args) w) (hn:fn.ntmps=n) (hk:k<=n) (hn1:n<=1000) (hok:uU E.any F.any (fun id=>(F.P id).isSome) n c=true)
 (hbody:∀us H T,C us H T->us.all V.dat=true->us.length=k∧cw E F c ⟨start us,H⟩ (NV E fn.results.toList T)) (hP:∀id,F.P id=none:=by intro _;rfl):cn E f C:=
 uW hE hm hF hI (fun id p h=>by rw[hP] at h;cases h) hf hb hcall hn hk hn1 hok hbody
end
variable {E:Env} {F:Fx}
theorem jg {K:XS->Prop} (need:Nat->List Nat) (I:Nat->HH->(Nat->V)->Prop) (val0:Nat->V) (h1:pY ops=true) (h2:((List.range ops.length).all fun i=>(match ops[i]? with|some o=>(need i).all fun k=>(directV o).any (ig ops k)|none=>true))=true) (h3:I 0 s.H val0)
 (h4:∀(L i:Nat) (o:Oper) (H:HH) (val:Nat->V) (st:St),ops[i]?=some o->L.testBit i=false->(∀k∈directV o,L.testBit k=true)->ClosedM ops L->I L H val->(∀k∈need i,st.t k=val k)->(∀k,(ops.all fun o=>o.dst !=some k)=true->st.t k=s.st.t k)->st.b=s.st.b->
  eg E F ⟨ops⟩ [o] ⟨st,H⟩ fun s'=>∃val',(∀k,o.dst≠some k->val' k=val k)∧I (L|||2^i) s'.H val'∧Le (match o.dst with|some d=>st.put (some d) (val' d)|none=>st) s'.st)
 (h5:∀H val,I (2^ops.length-1) H val->∃ts bs,fu (iB s.st val ops (2^ops.length-1)) ts∧fR (iB s.st val ops (2^ops.length-1)) bs∧K ⟨au ts bs,H⟩):C6 E F ops s K:=by
 refine⟨need,fun L H val bx=>bx=s.st.b∧I L H val,val0,h1,h2,⟨rfl,h3⟩,fun L i o H val bx a b c d ⟨hb,e⟩ f=>?_,fun H val bx ⟨hb,e⟩=>by subst hb;exact h5 H val e⟩;subst hb;have h:=h4 L i o H val (iB s.st val ops L) a b c d e f (fun _ hk=>ar hk) rfl;refine Eq.mp (aap (eg E F ⟨ops⟩ [o] ⟨iB s.st val ops L,H⟩) (funext fun s'=>propext ⟨?_,?_⟩)) h
 . rintro⟨val',q1,q2,q3⟩;refine⟨val',q1,s.st.b,⟨rfl,q2⟩,?_⟩;unfold yD;cases hd:o.dst<;>(rw[hd] at q3;exact q3)
 . rintro⟨val',q1,bx',⟨rfl,q2⟩,q3⟩;refine⟨val',q1,q2,?_⟩;unfold yD at q3;cases hd:o.dst<;>(rw[hd] at q3;exact q3)
theorem Df {x:Nat} {val:Nat->V} (h1:noPtrTo x st.t) (h2:noPtrTo x val):noPtrTo x (iB st val ops L).t:=fun k=>by
 show V.nm (if cI ops L k=true then val k else st.t k)≠_;split
 . exact h2 k
 . exact h1 k
variable {bx:Nat->Option (List V)}
theorem kB {val:Nat->V} (h:(ops.all fun o=>o.dst !=some k)=true):(IM st val ops L bx).t k=st.t k:=ar h
theorem G6 {val:Nat->V} (h:cI ops L k=true):(IM st val ops L bx).t k=val k:=eL h
theorem G7 {K:XS->Prop} (need:Nat->List Nat) (I:Nat->HH->(Nat->V)->(Nat->Option (List V))->Prop) (val0:Nat->V) (h1:pY ops=true) (h2:((List.range ops.length).all fun i=>(match ops[i]? with|some o=>(need i).all fun k=>(directV o).any (ig ops k)|none=>true))=true) (h3:I 0 s.H val0 s.st.b)
 (h4:∀(L i:Nat) (o:Oper) (H:HH) (val:Nat->V) (bx:Nat->Option (List V)) (t:Nat->V),ops[i]?=some o->L.testBit i=false->(∀k∈directV o,L.testBit k=true)->ClosedM ops L->I L H val bx->(∀k∈need i,t k=val k)->(∀k,(ops.all fun o=>o.dst !=some k)=true->t k=s.st.t k)->(∀x,noPtrTo x s.st.t->noPtrTo x val->noPtrTo x t)->
  eg E F ⟨ops⟩ [o] ⟨⟨t,bx⟩,H⟩ fun s'=>∃val',(∀k,o.dst≠some k->val' k=val k)∧∃bx',I (L|||2^i) s'.H val' bx'∧Le (yD o.dst ⟨t,bx⟩ val' bx') s'.st)
 (h5:∀H val bx,I (2^ops.length-1) H val bx->∃ts bs,fu (IM s.st val ops (2^ops.length-1) bx) ts∧fR (IM s.st val ops (2^ops.length-1) bx) bs∧K ⟨au ts bs,H⟩):C6 E F ops s K:=
 ⟨need,I,val0,h1,h2,h3,fun L i o H val bx a b c d e f=>h4 L i o H val bx (iB s.st val ops L).t a b c d e f (fun _ hk=>ar hk) (fun _=>Df),h5⟩
theorem lh {K:XS->Prop} (need:Nat->List Nat) (val:Nat->V) (ts:List (Nat×V)) (bs:List (Nat×List V)) (h1:pY ops=true) (h2:((List.range ops.length).all fun i=>(match ops[i]? with|some o=>(need i).all fun k=>(directV o).any (ig ops k)|none=>true))=true)
 (h4:∀(st:St) (i:Nat) (o:Oper),ops[i]?=some o->(∀k∈need i,st.t k=val k)->(∀k,(ops.all fun o=>o.dst !=some k)=true->st.t k=s.st.t k)->st.b=s.st.b->eg E F ⟨ops⟩ [o] ⟨st,s.H⟩ fun s'=>∃val',(∀k,o.dst≠some k->val' k=val k)∧(s'.H=s.H∧val'=val)∧Le (match o.dst with|some d=>st.put (some d) (val' d)|none=>st) s'.st)
 (h5:fu (iB s.st val ops (2^ops.length-1)) ts∧fR (iB s.st val ops (2^ops.length-1)) bs∧K ⟨au ts bs,s.H⟩):C6 E F ops s K:=by
 refine jg need (fun _ H val'=>H=s.H∧val'=val) val h1 h2 ⟨rfl,rfl⟩ ?_ ?_
 . rintro L i o H val' st ho _ _ _ ⟨rfl,rfl⟩ hn hb hbb;exact h4 st i o ho hn hb hbb
 . rintro H val' ⟨rfl,rfl⟩;exact⟨ts,bs,h5.1,h5.2.1,h5.2.2⟩
def uX:List (FuncId×(List V->HH->Tr))->FuncId->Option (List V->HH->Tr)
 |[],_=>none
 |p::l,f=>if p.1=f then some p.2 else uX l f
def SJ (E:Env):List (FuncId×(List V->HH->Tr))->Prop
 |[]=>True
 |p::l=>cn E p.1 p.2∧SJ E l
theorem fA {E:Env}:∀{l:List (FuncId×(List V->HH->Tr))},SJ E l->∀f C,uX l f=some C->cn E f C
 |[],_,f,C,e=>by cases e
 | p::l,h,f,C,e=>by
   unfold uX at e;split at e
   . rename_i hp;subst hp;cases e;exact h.1
   . exact fA h.2 f C e
theorem G8 (k:FuncId) (C:List V->HH->Tr) (l:List (FuncId×(List V->HH->Tr))) (f:FuncId):uX ((k,C)::l) f=if k=f then some C else uX l f:=rfl
theorem KX (f:FuncId):uX [] f=none:=rfl
attribute [go_sem] G8 KX
theorem G9 (K:α->Prop):iC none K=False:=rfl
theorem Ha (k:IntKind) (i:Int):kZ (.x (.int k i))=some [.int k i]:=rfl
theorem Dg (b:Bool):kZ (.x (.bool b))=some [.bool b]:=rfl
theorem yR (p:Option Addr) (l c:Nat):kZ (.x (.slice p l c))=some [.slice p l c]:=rfl
theorem Hc (s:ByteArray):kZ (.x (.string s))=some [.string s]:=rfl
theorem He (p:Option Addr):kZ (.x (.pointer p))=some [.pointer p]:=rfl
theorem Hf (z:Nat) (es:List V) (t:Option Nat):kZ (.sl true z es t)=some [.slice none 0 0]:=rfl
theorem Hg (v:Value) (n:Nat):(madeCells #[v] n).toList=List.replicate n v:=by rw[List.eq_replicate_iff];refine⟨by simp[madeCells],fun b hb=>?_⟩;simp only[madeCells,abD,abs,YR] at hb;obtain⟨x,_,rfl⟩:=hb;simp[Nat.mod_one]
theorem Dh (k:IntKind) (i:Int):(Value.int k i).cells= #[.int k i]:=rfl
theorem yS (b:Bool):(Value.bool b).cells= #[.bool b]:=rfl
theorem Hh (a:Option Addr) (l c:Nat):(Value.slice a l c).cells= #[.slice a l c]:=rfl
attribute [go_sem] Hg Dh yS Hh
theorem getD_some {α:Type} (a b:α):(some a).getD b=a:=rfl
theorem map_some {α β:Type} (f:α->β) (a:α):(some a).map f=some (f a):=rfl
attribute [go_sem] o9 yF uI rD uJ uK uL yG yH yI GW C5 yz yA yB n8 n9 l7 C8 uF C9 yE uG GZ Da yJ Db Dc G0 uN G1 Dd pa yK uO yL uP
attribute [go_sem] o8 yC uC C4 G9 Ha Dg yR Hc He Hf o7 rv nW nX yu nY yw rx ry rA nZ k7 yx yy n7 NU NV getD_some map_some
attribute [congr] uE uM uH uz uA uB uQ yM rE yN rB yq
section
variable {P:Program} {w:World} {t:TypeId} {i:TypeInfo} {mt:Method} {name:String} {f:FuncId} {v:Value} {args:Array Value}
variable {e:TypeId}
theorem yT (h0:P.types.size≠0) (hi:P.info? t=some i) (hm:i.methods.find? (·.name==name)=some mt) (hp:mt.path= #[]) (hf:mt.func=some (f,true)) (hu:P.underlying t=some (.pointer e)):(callMethod (.iface t v) name args).run P w=(callFunc f (#[v]++args)).run P w:=by obtain⟨k,hk⟩:∃k,P.types.size+Made.depth=k+1:=⟨P.types.size+Made.depth-1,A0b⟩;simp only[callMethod,Sem.run_bind,run_program,Result.andThen_ok,hk,method,run_typeInfo _ hi,hm,hp,hf,follow,Sem.run_pure,receiverAt,ax hu,Place.get]
variable {off:Nat}
theorem uY {st ix:Nat} {fs:Array Field} {fd:Field} {td:TypeDesc} {r:Value} (h0:P.types.size≠0) (hi:P.info? t=some i) (hm:i.methods.find? (·.name==name)=some mt) (hp:mt.path= #[⟨st,ix,true⟩]) (hf:mt.func=some (f,false)) (hs:P.underlying st=some (.struct fs)) (hfd:fs[ix]?=some fd) (hsz:bm P fd.type=some (k+1)) (ha:aK P fd.type=some false) (hu:P.underlying fd.type=some td) (hnp:∀e,td≠ .pointer e) (hc:w.cell? ⟨g,off+fd.offset,none⟩=some r):
 (callMethod (.iface t (.pointer (some ⟨g,off,none⟩))) name args).run P w=(callFunc f (#[r]++args)).run P w:=by
 obtain⟨k,hk⟩:∃k,P.types.size+Made.depth=k+1:=⟨P.types.size+Made.depth-1,A0b⟩;have hrec:(receiverAt fd.type (.var ⟨g,off+fd.offset,none⟩) false none).run P w= .ok r w:=by simp only[receiverAt,Sem.run_bind,ax hu,Result.andThen_ok];cases td<;>first|exact absurd rfl (hnp _)|simp only[Place.get,loadVar,Sem.run_bind,fi ha,Result.andThen_ok,Y2,YU,run_load,hc]
 simp only[callMethod,Sem.run_bind,run_program,Result.andThen_ok,hk,method,run_typeInfo _ hi,hm,hp,hf,follow,Sem.run_pure,ax hs,hfd,YX,Place.get,asAddr,fieldPlace,bz hsz,aI,Nat.add_one_ne_zero,YU];simp[hrec]
end
def AK (P:Program) (t:TypeId) (name:String):Option (Array FieldStep×Option (FuncId×Bool)):=match P.info? t with
 |some i=>(i.methods.find? (·.name==name)).map fun m=>(m.path,m.func)
 |none=>none
variable {P:Program} {t:TypeId} {name:String}
theorem uZ {p:Array FieldStep} {f:Option (FuncId×Bool)} (h:AK P t name=some (p,f)):∃i m,P.info? t=some i∧i.methods.find? (·.name==name)=some m∧m.path=p∧m.func=f:=by
 unfold AK at h;split at h
 case h_2=>cases h
 rename_i i hi;obtain⟨m,hm,e⟩:=YE.1 h;cases e;exact⟨i,m,hi,hm,rfl,rfl⟩
def NW (P:Program) (t:TypeId) (f:Nat):Option (TypeId×Nat):=match P.underlying t with
 |some (.struct fs)=>(fs[f]?).map fun d=>(d.type,d.offset)
 |_=>none
variable {off:Nat}
theorem KY {f ty:Nat} (h:NW P t f=some (ty,off)):∃fs d,P.underlying t=some (.struct fs)∧fs[f]?=some d∧d.type=ty∧d.offset=off:=by
 unfold NW at h;split at h
 case h_2=>cases h
 rename_i fs hfs;obtain⟨d,hd,e⟩:=YE.1 h;cases e;exact⟨fs,d,hfs,hd,rfl,rfl⟩
theorem AL (h:v.oneCell'=true):(V.x v).dat=true:=by cases v<;>first|rfl|cases h
variable {f:FuncId} {e:TypeId}
theorem u6 {C':List V->HH->Tr} {C:Value->List V->HH->Tr} (hfun:cn E f C') (h0:E.P.types.size≠0) (hmt:AK E.P t name=some (#[],some (f,true))) (hu:E.P.underlying t=some (.pointer e))
 (hC:∀v us H T,C v us H T->(V.x v).dat=true∧C' (.x v::us) H T):ij E t name C:=by
 intro m w v vs us H T h hdat hr hH hj hg;obtain⟨i,mt,hi,hm,hp,hf⟩:=uZ hmt;refine⟨f,v,(yT h0 hi hm hp hf hu).trans (hfun.1 _ w),?_⟩;exact hfun.2 m w (#[v]++vs) (.x v::us) H T (hC _ _ _ _ h).2 (by simp only[ZB,hdat,aaq];exact(hC _ _ _ _ h).1) (by simpa using⟨Rd.x v,hr⟩) hH hj hg
theorem ll (st ix ty off k:Nat) (td:TypeDesc) {name:String} {C':List V->HH->Tr} {C:Value->List V->HH->Tr} (hfun:cn E f C') (h0:E.P.types.size≠0) (hmt:AK E.P t name=some (#[⟨st,ix,true⟩],some (f,false))) (hfl:NW E.P st ix=some (ty,off)) (hsz:bm E.P ty=some (k+1)) (ha:aK E.P ty=some false) (hu:E.P.underlying ty=some td) (hnp:∀e,td≠ .pointer e)
 (hC:∀v us H T,C v us H T->∃g r l ty,v= .pointer (some ⟨g,0,none⟩)∧H g=some (rowO l ty)∧l[off]?=some r∧(V.x r).dat=true∧C' (.x r::us) H T):ij E t name C:=by
 intro m w v vs us H T h hdat hr hH hj hg;obtain⟨i,mt,hi,hm,hp,hf⟩:=uZ hmt;obtain⟨fs,fd,hs,hfd,rfl,rfl⟩:=KY hfl;obtain⟨g,r,l,ty,rfl,hl,hx,hd,hC'⟩:=hC _ _ _ _ h;have hh:=(hH g _ hl).1;refine⟨f,r,(uY h0 hi hm hp hf hs hfd hsz ha hu hnp (r:=r) (by rw[YC,Box.cell hh,ZL];exact hx)).trans (hfun.1 _ w),?_⟩;exact hfun.2 m w (#[r]++vs) (.x r::us) H T hC' (by simp only[ZB,hdat,aaq];exact hd) (by simpa using⟨Rd.x r,hr⟩) hH hj hg
variable {m m':Lim} {cs:List V}
theorem Hi {w:World} (h:BoxAt m w g cs) (he:Ext m w m' w) (hm:m' g=none):Rd m' w (.pointer (some ⟨g,0,none⟩)) (.ip cs):=by
 obtain⟨_,vals,ty,xs,rest,hh,hx,hr⟩:=h;have hr':=hr.mono he;have hl:=hr'.length;refine .ip g 0 cs (fun k=>(xs[k]?).getD Go.undef) (ai hh) (fun k hk=>?_) (fun fr hf=>by rw[hm] at hf;cases hf) (fun k d hd=>?_)
 . rw[Box.cell hh,<-YV,hx,YC,YN A0b,io A0b];rfl
 . have hk:=(iO.1 hd).1;rw[io (show k<xs.length by omega)];exact hr'.get k _ _ (io A0b) hd
def NX (K:St->Prop):Out->St->Prop
 | .normal,st=>K st
 |_,_=>False
def Di (K:XS->Prop):Out->XS->Prop
 | .normal,s=>K s
 |_,_=>False
theorem u7 (K:St->Prop) (st:St):NX K .normal st=K st:=rfl
theorem u9 (K:XS->Prop) (s:XS):Di K .normal s=K s:=rfl
theorem yU (K:XS->Prop) (s:XS) {o o':Out} (h:o=o'):Di K o s=Di K o' s:=by rw[h]
theorem va:∀(T:List (Nat×V)),(T.all fun p=>p.2.dat)=true->∀i,cJ T i= .undef∨(cJ T i).dat=true
 |[],_,i=> .inl rfl
 | (k,v)::l,h,i=>by
   simp only[ZB,YH] at h;by_cases e:i=k
   . subst e;exact .inr (by rw[show cJ ((i,v)::l) i=v from aj _ _ _];exact h.1)
   . rw[show cJ ((k,v)::l) i=cJ l i from ag _ _ e];exact va l h.2 i
section
variable {E:Env} {n:Nat} {B:Xb} {F:Fx} {s:XS} {a:Act} {w w':World} {r:Option Nat}
theorem HoldX.toIp (hMB:∀s,E.MB s=false) (h:HoldX E n B s a w) {i v:Nat} {cs:List V} {st':St} (hi:s.st.t i= .ptr v 0) (hin:i<n) (hb:s.st.b v=some cs) (hl:Le st' s.st) (hbn:st'.b v=none):HoldX E n B ⟨⟨upd st'.t i (.ip cs),st'.b⟩,s.H⟩ a w:=by
 obtain⟨D,m,O,q1,q2,q4,q5,q6⟩:=h;obtain⟨g,hg,hK,hbox,hptr,_,hn⟩:=Now.shed hMB q1 hb hl hbn;have hs:=Step.freeze g m w;have hn':=hn.other hs (fun k hk e=>hk.2 e) q1.J;have hrd:Rd (upd m g none) w (a.tmps.getD i Go.undef) (.ip cs):=by rw[hptr i hi];exact Hi hbox hs.ext (aj _ _ _)
 have hn2:=hn'.learn hin hrd;rw[jZ] at hn2;refine⟨D,_,_,hn2,fun g' ob hg'=>?_,fun k hk=>q4 k hk.1,q5.next hs (fun i hi e=>by subst e;exact(q4 _ hg).resolve_left (aau.2 hi)),B.Kn.mono _ _ _ _ q6.1 hs.ext,q6.2.1,fun d hd=>?_⟩
 . obtain⟨r1,r2,r3,r4⟩:=q2 g' ob hg';exact⟨fun hk=>r1 hk.1,r2,by rw[ag _ _ (show g'≠g from fun e=>r1 (e.symm▸hg))];exact r3,r4⟩
 . obtain⟨b,rfl,p1,p2,p3,p4⟩:=q6.2.2 d hd;exact⟨b,rfl,p1,p2,fun hk=>p3 hk.1,p4⟩
theorem HoldX.kn {Kn':Kno} (h:HoldX E n {B with Kn:=Kn'} s a w) (hk:∀m w,Kn'.P m w->B.Kn.P m w):HoldX E n B s a w:=by obtain⟨D,m,O,q1,q2,q4,q5,q6⟩:=h;exact⟨D,m,O,q1,q2,q4,q5,hk _ _ q6.1,q6.2⟩
theorem Hj (Kn':Kno) {ops:List Oper} {Q:Exit->Act->World->Prop} {i:Nat} {rest:List Nat} {o:Oper} {d:Tmp} {f:FuncId} {args:Array Operand} {ts:Array TypeId} {R:Ending->World->Prop} {u:V} (hi:ops[i]?=some o) (hop:o.op= .call {callee:= .value (.func f),args:=args,argTypes:=ts}) (hd:o.dst=some d) (hdn:d<n) (hg:o.guard=none)
 (hcall:∀args w,(callFunc f args).run E.P w= .ok (.enter f args) w) (h:HoldX E n B s a w)
 (hc:∀m D O,Now E n D O m s.st a w->B.Kn.P m w->Calls E.P f (args.map a.eval) w R)
 (hR:∀m D O,Now E n D O m s.st a w->B.Kn.P m w->∀e w',R e w'->∃v m',e= .returned v∧Step (fun _=>False) m w m' w'∧E.J w'∧Rd m' w' v u∧Kn'.P m' w'∧(HoldX E n {B with Kn:=Kn'} ⟨s.st.put (some d) u.bare,s.H⟩ (a.put (some d) v) w'->wpOpsIn (bo r) 0 E.P ⟨ops⟩ Q rest (a.put (some d) v) w')):wpOpsIn (bo r) 0 E.P ⟨ops⟩ Q (i::rest) a w:=by
 obtain⟨D,m,O,h1,h2,h4,h5,h6⟩:=h;rw[wpOpsIn_cons];unfold wpOpIn;have hi':(⟨ops⟩:Array Oper)[i]?=some o:=A0k
 rw[hi'];simp only;rw[YG A0t];refine⟨fun _ _=>trivial,?_⟩;rw[Oper.semAt_eq _ _ _ A0W];have hrun:(execOp a.eval o).run E.P w= .ok (.enter f (args.map a.eval)) w:=by simp only[execOp,hop,resolve,Sem.run_bind,Act.eval,Deferred.ofValue,Sem.run_pure,Result.andThen_ok,invoke];simpa using hcall _ _
 rw[hrun];refine⟨(fun e=>by cases e),cB.2 ((hc m D O h1 h6.1).mono ?_)⟩;intro e w' hr;obtain⟨v,m',rfl,hs,hJ,hv,hk,hK⟩:=hR m D O h1 h6.1 e w' hr;show wpOpsIn (bo r) 0 E.P ⟨ops⟩ Q rest (a.put o.dst v) w';rw[hd];refine hK ⟨D,m',O,(h1.other hs (fun _ _ h=>h) hJ).put hdn hv,fun g ob hg=>?_,h4,h5.next hs (fun _ _ h=>h.elim),hk,h6.2.1,fun x hx=>?_⟩
 . obtain⟨r1,r2,r3,r4⟩:=h2 g ob hg;have:=hs.same g (ai r2) (fun h=>h);exact⟨r1,this.1.trans r2,this.2.trans r3,r4⟩
 . obtain⟨b,rfl,p1,p2,p3,p4⟩:=h6.2.2 x hx;exact⟨b,rfl,p1,(hs.same b (ai p2) (fun h=>h)).1.trans p2,p3,p4⟩
theorem oe {o:Oper} {K:Act->World->Prop} {Q:Exit->Act->World->Prop} (hE:EnvOK E) (hF:∀f C,F.F f=some C->cn E f C) (hI:∀t name C,F.I t name=some C->ij E t name C) {ops:List Oper} {K':XS->Prop} {i:Nat} (hi:ops[i]?=some o) (hdo:∀k,o.dst=some k->k<n) (h:HoldX E n B s a w) (hx:eg E F ⟨ops⟩ [o] s K') (hK:∀s' a' w',K' s'->HoldX E n B s' a' w'->K a' w'):wpOpIn (bo r) 0 E.P ⟨ops⟩ Q i K a w:=
 lf hE hF hI A0k hdo h hx hK
variable {D:List Deferred} {O:Nat->Prop} {a':Act}
theorem Now.data {D':List Deferred} {T:List (Nat×V)} (h:Now E n D O m (au T []) a w) (hT:(T.all fun p=>p.2.dat)=true) (ht:a'.tmps=a.tmps) (hd:a'.defers=D'):Now E n D' (fun _=>False) m (au T []) a' w:=by
 obtain⟨⟨b,β,hr⟩,_⟩:=h;have hdt:=va T hT;have hnot:∀i sz es s,(au T []).t i= .sl false sz es (some s)->False:=by
  intro i sz es s hi;have hi:cJ T i=_:=hi;rcases hdt i with e|e
  . rw[e] at hi;cases hi
  . rw[hi] at e;simp[V.dat] at e
 have hnomp:∀i s ks vs,(au T []).t i= .mp s ks vs->False:=by
  intro i s ks vs hi;have hi:cJ T i=_:=hi;rcases hdt i with e|e
  . rw[e] at hi;cases hi
  . rw[hi] at e;simp[V.dat] at e
 have hnob:∀v sz es s,Bear E w id (au T []) (fun i=>a'.tmps.getD i Go.undef) v (.sl false sz es (some s))->False:=by
  intro v sz es s hi;rcases hi with⟨i,h1,_⟩|⟨k',c,j,_,h2,_⟩
  . exact hnot i sz es s h1
  . simp[au,wa] at h2
 refine Now.first (β:=id) (b:=id) ⟨fun i=>?_,by rw[ht];exact hr.size,fun s cs hs=>by simp[au,wa] at hs,fun s s' cs cs' hs=>by simp[au,wa] at hs,Bel.refl _ _,⟨hr.par.1,fun _ _=>rfl,fun x hx=>by cases hx⟩,⟨fun _ _ _=>rfl,Ext.refl _ _,fun x hx=>by cases hx⟩,⟨id,fun v sz es s hi=>(hnob v sz es s hi).elim,fun v sz es s v' sz' es' s' hi=>(hnob v sz es s hi).elim,fun v sz es s k cs hi=>(hnob v sz es s hi).elim⟩,fun i s sz len cs hi hs=>by simp[au,wa] at hs,hd,hr.glob,hr.j,⟨fun i s ks vs hi=>(hnomp i s ks vs hi).elim,fun i j s s' ks vs ks' vs' hi=>(hnomp i s ks vs hi).elim⟩⟩;have h1:=hr.tmps i;show Rs m w id _ (cJ T i);rw[ht];have h1:Rs m w β _ (cJ T i):=h1;rcases hdt i with e|e
 . rw[e];exact .of (.undef _)
 . exact .of (h1.dat e)
theorem Hk (hE:EnvOK E) (hm:E.P.follows .mixedOrders=true) (hF:∀f C,F.F f=some C->cn E f C) (hI:∀t name C,F.I t name=some C->ij E t name C) (hP:∀id,F.P id=none) {g:Operand} {ps:Array Tmp} {assign body:Code} {K:Out->XS->Prop} {gf:FuncId} {lb:Array Value} (h:HoldX E n B s a w)
 (hg:a.eval g= .func (.func gf) #[] lb) (hcall:∀args w,(callFunc gf args).run E.P w= .ok (.enter gf args) w) {Ok Done:List (List V)->Prop}
 (hit:∀m,B.Kn.P m w->∀m1 w1,Step (fun _=>False) m w m1 w1->E.J w1->rb E (fun _=>False) gf lb Ok Done m1 w1) (T:List (Nat×V)) (hT:fu s.st T) (hTd:(T.all fun p=>p.2.dat)=true)
 (hps:∀p∈ps.toList,p<n) (hlen:∀pre x,Ok (pre++[x])->x.length=ps.size) (hoka:aY E.any n assign=true) (hokb:uU E.any F.any (fun id=>(F.P id).isSome) n body=true)
 (J:List (List V)->HH->Prop) (h0:J [] s.H)
 (hround:∀pre x H,Ok (pre++[x])->J pre H->run E assign (xI ps.toList x (au T [])) (NX fun st1=>cw E F body ⟨st1,H⟩ (Di fun s2=>J (pre++[x]) s2.H)))
 (hdone:∀xs H,Done xs->J xs H->K .normal ⟨au T [],H⟩):(Code.rangeFunc g ps assign body).wpIn (bo none) 0 E.P (G3 E n B K) a w:=by
 obtain⟨D,m,O,h1,h2,h4,h5,h6⟩:=h;have h1:Now E n D O m (au T []) a w:=h1.le (aJ hT trivial);have hd0:a.defers=D:=by obtain⟨_,_,hr⟩:=h1.rel;exact hr.defers
 have hKB:E.K<=w.heap.size:=hE.high _ h1.J;let hs0:(Nat->Prop)->HH->Lim->World->Prop:=fun O1 H m' w'=>Now E n D O m' (au T []) a w'∧(∀g ob,H g=some ob-> ¬O g∧ ¬O1 g∧w'.heap[g]?=some ob∧m' g=some 0∧(w.heap.size<=g∨s.H g≠none)∧E.K<=g)∧B.Kn.P m' w'∧w.heap.size<=w'.heap.size
 have stab:∀{O1 S:Nat->Prop} {H:HH} {m1 m2:Lim} {w1 w2:World},hs0 O1 H m1 w1->Step S m1 w1 m2 w2->(∀k,O k∨H k≠none-> ¬S k)->E.J w2->hs0 O1 H m2 w2:=by rintro O1 S H m1 m2 w1 w2 ⟨q1,q2,q3,q4⟩ hs hS hj;refine⟨q1.other hs (fun k hk=>hS k (.inl hk)) hj,fun g ob hg=>?_,B.Kn.mono _ _ _ _ q3 hs.ext,Y6 q4 hs.ext.size⟩;obtain⟨r1,r0,r2,r3,r4⟩:=q2 g ob hg;have:=hs.same g (ai r2) (hS g (.inr A08));exact⟨r1,r0,this.1.trans r2,this.2.trans r3,r4⟩
 let JJ:List (List V)->(Nat->Prop)->Lim->World->Prop:=fun pre Ow m' w'=>∃H,hs0 (fun _=>False) H m' w'∧J pre H∧∀k,Ow k↔(O k∨H k≠none)
 let J1:List (List V)->List V->Act->(Nat->Prop)->Lim->World->Prop:=fun pre x a1 Ow m' w'=>∃H st1 O2,hs0 O2 H m' w'∧Now E n [] O2 m' st1 a1 w'∧(∀k,O2 k->w.heap.size<=k∧ ¬O k)∧cw E F body ⟨st1,H⟩ (Di fun s2=>J (pre++[x]) s2.H)∧∀k,Ow k↔(O k∨H k≠none∨O2 k)
 refine Cq (O:=fun k=>O k∨s.H k≠none) (m:=m) (G:=fun _=>False) hE h1.J hg hcall (fun k hk=>hk.elim) (fun m1 w1 hs hj=>hit m h6.1 m1 w1 hs hj) hlen JJ J1 (fun _ _ _ _ _=>False) (fun pre=>⟨?_,?_⟩) (fun pre x a1=>⟨?_,?_⟩) ?_ (fun c pre=>⟨fun _ _ _ _ _ _ h=>h.elim,fun _ _ _ h=>h.elim⟩) ⟨s.H,⟨h1,fun g ob hg=>?_,h6.1,YJ _⟩,h0,fun k=>abE⟩ ?_ ?_ ?_ (fun _ _ _ _ _ _ h=>h.elim)
 . rintro Ow m1 w1 S m2 w2 ⟨H,q1,q2,q3⟩ hs hS hj;exact⟨H,stab q1 hs (fun k hk=>hS k ((q3 k).2 hk)) hj,q2,q3⟩
 . rintro Ow m1 w1 ⟨H,q1,q2,q3⟩ k hk;rcases(q3 k).1 hk with hk|hk
   . exact⟨q1.1.lt k hk,q1.1.K k hk⟩
   . cases e:H k with
     |none=>exact absurd e hk
     |some ob=>exact⟨ai (q1.2.1 k ob e).2.2.1,(q1.2.1 k ob e).2.2.2.2.2⟩
 . rintro Ow m1 w1 S m2 w2 ⟨H,st1,O2,q1,q2,q3,q4,q5⟩ hs hS hj;exact⟨H,st1,O2,stab q1 hs (fun k hk=>hS k ((q5 k).2 (hk.imp id .inl))) hj,q2.other hs (fun k hk=>hS k ((q5 k).2 (.inr (.inr hk)))) hj,q3,q4,q5⟩
 . rintro Ow m1 w1 ⟨H,st1,O2,q1,q2,q3,q4,q5⟩ k hk;rcases(q5 k).1 hk with hk|hk|hk
   . exact⟨q1.1.lt k hk,q1.1.K k hk⟩
   . cases e:H k with
     |none=>exact absurd e hk
     |some ob=>exact⟨ai (q1.2.1 k ob e).2.2.1,(q1.2.1 k ob e).2.2.2.2.2⟩
   . exact⟨q2.lt k hk,q2.K k hk⟩
 . rintro pre x a1 Ow m1 w1 ⟨H,st1,O2,q1,q2,_⟩;exact q2.J
 . obtain⟨r1,r2,r3,r4,r5⟩:=h2 g ob hg;exact⟨r1,fun h=>h,r2,r3,.inr A08,r5⟩
 . --the round's variables
   rintro pre x l Ow m1 w1 vs hok ⟨H,q1,q2,q3⟩ hvs;have hn0:=Now.data (D':=[]) (a':={a with defers:=[]}) q1.1 hTd rfl rfl;obtain⟨hn1,_⟩:=tK (W:=fun _=>true) (ps:=ps.toList) hn0 hvs (fun p hp=>⟨rfl,hps p hp⟩);refine wpIn_mono (gZ (r:=some l) (W:=fun _=>true) hE hm hoka (fO _) hn1 (hround pre x H hok q2)) ?_;rintro e a2 w2 ⟨_,o,st',m',ho,hK,hn,hs⟩;cases o with
   |ret=>exact hK.elim
   |exit id=>exact hK.elim
   |normal=>
   have he:e= .normal:=by cases e<;>simp[ea] at ho<;>rfl
   refine⟨he,m',fun k=>O k∨H k≠none∨nA (fun _=>False) w1 w2 k,hs.mono (fun _ _ h=>h.elim),fun k hk=>?_,H,st',nA (fun _=>False) w1 w2,?_,hn,fun k hk=>?_,hK,fun k=>abE⟩
   . rcases hk with hk|hk|hk
     . exact .inl ((q3 k).2 (.inl hk))
     . exact .inl ((q3 k).2 (.inr hk))
     . exact .inr (hk.2.resolve_left (fun h=>h))
   . obtain⟨p1,p2,p3,p4⟩:=stab q1 hs (fun k _ h=>h) hn.J;refine⟨p1,fun g ob hg=>?_,p3,p4⟩;obtain⟨r1,_,r2,r3⟩:=p2 g ob hg;refine⟨r1,fun hgr=>?_,r2,r3⟩;have:=ai (q1.2.1 g ob hg).2.2.1;have:=hgr.2.resolve_left (fun h=>h);omega
   . have hk':=hk.2.resolve_left (fun h=>h);exact⟨Y6 q1.2.2.2 hk',fun ho=>absurd (q1.1.lt k ho) (Zs.2 hk')⟩
 . -- the round
   rintro pre x l a1 Ow m1 w1 hok ⟨H,st1,O2,q1,q2,q3,q4,q5⟩;have hX:HoldX E n ⟨fun k=>H k≠none∨O2 k,B.Kn,m1,w1⟩ ⟨st1,H⟩ a1 w1:=⟨[],m1,O2,q2,fun g ob hg=>by obtain⟨r1,r0,r2,r3,r4,r5⟩:=q1.2.1 g ob hg;exact⟨r0,r2,r3,.inr (.inl (by rw[show H g=some ob from hg];simp)),r5⟩,fun k hk=> .inr (.inr hk),Step.refl _ _ _,q1.2.2.1,ZD,fun d hd=>by cases hd⟩
   refine wpIn_mono (jV (r:=some l) hE hm hF hI (fun id p h=>by rw[hP] at h;cases h) body _ _ a1 w1 hokb hX q4) ?_;rintro e a2 w2 ⟨o,s2,ho,hK,D2,m2,O3,p1,p2,p4,p5,p6⟩;cases o with
   |ret=>exact hK.elim
   |exit id=>exact hK.elim
   |normal=>
   have he:e= .normal:=by cases e<;>simp[ea] at ho<;>rfl
   subst he;have hXO:∀k,O k-> ¬(H k≠none∨O2 k):=fun k hk h=>by
    rcases h with h|h
    . cases e:H k with
      |none=>exact h e
      |some ob=>exact(q1.2.1 k ob e).1 hk
    . exact(q3 k h).2 hk
   refine⟨m2,fun k=>O k∨s2.H k≠none,p5.mono (fun k _ h=>(q5 k).2 (.inr h)),fun k hk=>?_,p1.J,s2.H,⟨q1.1.other p5 hXO p1.J,fun g ob hg=>?_,p6.1,Y6 q1.2.2.2 p5.ext.size⟩,hK,fun k=>abE⟩
   . rcases hk with hk|hk
     . exact .inl ((q5 k).2 (.inl hk))
     . cases e:s2.H k with
       |none=>exact absurd e hk
       | some ob=>
         rcases(p2 k ob e).2.2.2.1 with h|h
         . exact .inr h
         . exact .inl ((q5 k).2 (.inr h))
   . obtain⟨r1,r2,r3,r4,r5⟩:=p2 g ob hg;refine⟨fun ho=>?_,fun h=>h,r2,r3,?_,r5⟩
     . rcases r4 with r4|r4
       . exact absurd (q1.1.lt g ho) (Zs.2 r4)
       . exact hXO g ho r4
     . rcases r4 with r4|r4|r4
       . exact .inl (Y6 q1.2.2.2 r4)
       . cases e:H g with
         |none=>exact absurd e r4
         |some ob'=>exact(q1.2.1 g ob' e).2.2.2.2.1
       . exact .inl (q3 g r4).1
 . rintro xs O' m' w' b hD ⟨H,q1,q2,q3⟩ hj hs hO hmk;refine⟨.normal,⟨au T [],H⟩,rfl,hdone xs H hD q2,markD b::D,m',O,q1.1.marks rfl (by show markD b::a.defers=_;rw[hd0]),fun g ob hg=>?_,h4,h5.next hs (fun i hi ho=>?_),q1.2.2.1,Zj.2 ⟨fun hmem=>?_,h6.2.1⟩,fun d hd=>?_⟩
   . obtain⟨r1,_,r2,r3,r4,r5⟩:=q1.2.1 g ob hg;refine⟨r1,r2,r3,?_,r5⟩;rcases r4 with r4|r4
     . exact .inl (Y6 h5.ext.size r4)
     . cases e:s.H g with
       |none=>exact absurd e r4
       |some ob'=>exact(h2 g ob' e).2.2.2.1
   . rcases ho with ho|ho
     . exact(h4 i ho).resolve_left (aau.2 hi)
     . cases e:s.H i with
       |none=>exact absurd e ho
       |some ob'=>exact(h2 i ob' e).2.2.2.1.resolve_left (aau.2 hi)
   . obtain⟨b',e,_,r2,_⟩:=h6.2.2 _ hmem;have:b=b':=by simpa[markD] using e
     have:=ai r2;have:=hmk.lo;omega
   . rcases YT.1 hd with rfl|hd
     . refine⟨b,rfl,Y6 h5.ext.size hmk.lo,hmk.is,fun ho=>hmk.no ((q3 b).2 (.inl ho)),?_⟩;cases e:H b with
       |none=>exact e
       |some ob=>exact absurd ((q3 b).2 (.inr (by rw[e];simp))) hmk.no
     . obtain⟨b',rfl,r1,r2,r3,r4⟩:=h6.2.2 d hd;refine⟨b',rfl,r1,(hs.same b' (ai r2) (fun h=>h.elim r3 (fun h=>h r4))).1.trans r2,r3,?_⟩;cases e:H b' with
       |none=>exact e
       | some ob=>
         rcases(q1.2.1 b' ob e).2.2.2.2.1 with h|h
         . exact absurd (ai r2) (Zs.2 h)
         . exact absurd r4 h
end
section
variable {E:Env} {n:Nat} {m:Lim} {w:World} {st:St} {a:Act} {Os:Nat->Prop} {ms:Lim} {ws:World} {A:(Nat->Prop)->Lim->World->Prop}
theorem yV {A1 Ax:(Nat->Prop)->Lim->World->Prop} {l:Nat} {ops:Array Oper} {i:Nat} {o:Oper} (hi:ops[i]?=some o) {d:Tmp} (hd:o.dst=some d) (hdn:d<n) {c:Operand} {args:Array Operand} {ts:Array TypeId} (hop:o.op= .call {callee:= .value c,args:=args,argTypes:=ts})
 (hg:bS ops st.t o.guard=some true) (hc:ev E st c= .x (.func (.yield l) #[] #[])) (h:Two E n Os ms ws A st a w) {us:List V} (hx:(args.toList.map fun x=>(ev E st x).bare)=us) (hxd:us.all V.dat=true)
 (hy:∀O m1 w1 (vs:Array Value),A O m1 w1->RdL m1 w1 vs.toList us->YieldAt (bo none) 0 E.P l vs w1 fun e w2=>∃m2 O2,Step O m1 w1 m2 w2∧(∀k,O2 k->O k∨w1.heap.size<=k)∧E.J w2∧
  ((e= .returned (.bool true)∧A1 O2 m2 w2)∨(e= .returned (.bool false)∧Ax O2 m2 w2)))
 {K:Act->World->Prop} {Q:Exit->Act->World->Prop} (hK1:∀a' w',Two E n Os ms ws A1 (st.put (some d) (.x (.bool true))) a' w'->K a' w') (hK2:∀a' w',Two E n Os ms ws Ax (st.put (some d) (.x (.bool false))) a' w'->K a' w'):wpOpIn (bo none) 0 E.P ops Q i K a w:=by
 obtain⟨m,Oi,O,h1,h2,h3,h4,h5,h6⟩:=h;have hlt:=h1.lt;obtain⟨b,β,hrel⟩:=h1.rel;unfold wpOpIn;rw[hi];simp only;rw[YG (by rw[gU hrel hg])];refine⟨fun _ _=>trivial,?_⟩;rw[Oper.semAt_eq _ _ _ A0W];have hcv:a.eval c= .func (.yield l) #[] #[]:=(hc▸aH hrel c:Rs m w β (a.eval c) (.x (.func (.yield l) #[] #[]))).x;have hxv:RdL m w (args.map a.eval).toList us:=by have:=i7 hrel args.toList (by rw[hx];exact hxd);rw[hx] at this;simpa using this
 obtain⟨fn,tmps,assign,body,hyr,hR⟩:=hy O m w (args.map a.eval) h2 hxv;have hrun:(execOp a.eval o).run E.P w= .ok (.round l fn tmps assign body) w:=by simp only[execOp,hop,resolve,Sem.run_bind,hcv,Deferred.ofValue,Sem.run_pure,Result.andThen_ok,invoke];simpa using hyr
 rw[hrun];refine⟨(fun e=>by cases e),RoundIn.mono hR ?_⟩;rintro e w2 ⟨m2,O2,hs,hO2,hJ,hend⟩;have hdis:∀k,Oi k-> ¬O k:=fun k hk ho=>h3 k ho hk
 have fin:∀(A':(Nat->Prop)->Lim->World->Prop) (t:Bool),A' O2 m2 w2->Two E n Os ms ws A' (st.put (some d) (.x (.bool t))) (a.put (some d) (.bool t)) w2:=fun A' t ha=>by
  have hn:=h1.other hs hdis hJ;have hp:=hn.put hdn (v:= .bool t) (u:= .x (.bool t)) (.x _);rw[de] at hp;refine⟨m2,Oi,O2,hp,ha,fun k hk ho=>?_,h4,fun k hk=>?_,h6.next hs (fun i hi ho=>?_)⟩
  . rcases hO2 k hk with hk|hk
    . exact h3 k hk ho
    . exact absurd (hlt k ho) (Zs.2 hk)
  . rcases hO2 k hk with hk|hk
    . exact h5 k hk
    . exact .inr (Y6 h6.ext.size hk)
  . rcases h5 i ho with h|h
    . exact h
    . exact absurd hi (Zs.2 h)
 rcases hend with⟨rfl,ha⟩|⟨rfl,ha⟩
 . show K (a.put o.dst (.bool true)) w2;rw[hd];exact hK1 _ _ (fin _ true ha)
 . show K (a.put o.dst (.bool false)) w2;rw[hd];exact hK2 _ _ (fin _ false ha)
end
attribute [go_sem] u7 u9
attribute [congr] yU
end Go.Proofs.YtmfojhkjbkombaaGreat
