/- A run that tells blocks of its own by their very contents, and writes them: for code that writes rows and structs in place, and hands them on. What each operation does to them. No program is named here. -/
import Derived.Test.YtmfojhkjbkombaaMH
namespace Go.Proofs.Ytmfojhkjbkombaa
set_option linter.unusedSimpArgs false
open Go Go.RowKit
abbrev HH:=Nat->Option Obj
structure XS where
 st:St
 H:HH
abbrev Tr:=(V->HH->Prop)->Prop
structure Fx where
 F:FuncId->Option (List V->HH->Tr)
 D:Nat->Bool
 I:TypeId->String->Option (Value->List V->HH->Tr):=fun _ _=>none
 Z:Nat->Bool:=fun _=>false
 any:Nat->Bool:=fun _=>false
 P:Nat->Option (Code×(XS->(Out->XS->Prop)->Prop)):=fun _=>none
def rowO (l:List Value) (ty:TypeId):Obj:= .cells l.toArray ty (0,0)
def ik (H:HH) (g:Nat):Option (List Value×TypeId):=match H g with
 |some (.cells vals ty (0,0))=>some (vals.toList,ty)
 |_=>none
variable {H:HH} {g:Nat}
theorem aS {l:List Value} {ty:TypeId} (h:H g=some (rowO l ty)):ik H g=some (l,ty):=by unfold ik;rw[h];simp[rowO]
theorem jY {c:List Value×TypeId} (h:ik H g=some c):H g=some (.cells c.1.toArray c.2 (0,0)):=by
 unfold ik at h;split at h
 . rename_i vals ty e;cases h;rw[e]
 . cases h
def eL (l:List Value) (off:Nat) (xs:List Value):List Value:=l.take off++xs++l.drop (off+xs.length)
theorem cz (l:List Value) (i:Nat) (v:Value) (h:i<l.length):eL l i [v]=l.set i v:=by unfold eL;rw[List.set_eq_take_append_cons_drop,Zp h];simp
variable {v:Value}
theorem Dt (h:v.oneCell'=true):v.cells= #[v]:=by cases v<;>first|rfl|cases h
def Hp:List V->Option (List Value)
 |[]=>some []
 | .x v::us=>if v.oneCell'=true then (Hp us).map (v:: ·) else none
 | .sl true _ _ _::us=>(Hp us).map (.slice none 0 0:: ·)
 |_::_=>none
def lA:V->Option (List Value)
 | .x v=>Hp [.x v]
 | .sl true z es t=>Hp [.sl true z es t]
 | .agg us=>Hp us
 |_=>none
def iD {α:Type} (o:Option α) (K:α->Prop):Prop:=match o with
 |some a=>K a
 |none=>False
variable {α:Type}
theorem Du (a:α) (K:α->Prop):iD (some a) K=K a:=rfl
theorem yX {o o':Option α} (h:o=o') (K:α->Prop):iD o K=iD o' K:=by rw[h]
theorem cI {α:Type} {o:Option α} {K:α->Prop} (h:iD o K):∃a,o=some a∧K a:=by
 cases o with
 |none=>exact h.elim
 |some a=>exact⟨a,rfl,h⟩
def Hq (P:Program) (t:TypeId) (f:Nat):Option Nat:=match P.underlying t with
 | some (.struct fs)=>match fs[f]? with
   | some fd=>match aY P fd.type with
     |some (_+1)=>some fd.offset
     |_=>none
   |none=>none
 |_=>none
def pj (P:Program) (t:TypeId):Option Nat:=match P.underlying t with
 |some (.slice el)=>aY P el
 |_=>none
def rJ (P:Program) (t:TypeId) (H:HH):V->Option Tr
 | .x (.pointer (some ⟨g,off,none⟩))=>some fun T=>iD (ik H g) fun c=>iD (cD P t (c.1.map V.x) off) fun u=>T u H
 |_=>none
def oc (P:Program) (t:TypeId) (H:HH) (y:V):V->Option Tr
 | .x (.pointer (some ⟨g,off,none⟩))=>some fun T=>iD (ik H g) fun c=>iD (lA y) fun xs=>(aY P t=some xs.length∧off+xs.length<=c.1.length)∧T .undef (upd H g (some (rowO (eL c.1 off xs) c.2)))
 |_=>none
def od (P:Program) (t:TypeId) (f:Nat) (H:HH):V->Option Tr
 | .x (.pointer (some ⟨g,off,none⟩))=>some fun T=>iD (Hq P t f) fun k=>T (.x (.pointer (some ⟨g,off+k,none⟩))) H
 |_=>none
def yY (H:HH):V->Option Tr
 | .x (.pointer (some p))=>some fun T=>T (.x (.pointer (some p))) H
 |_=>none
def oe (P:Program) (t:TypeId) (H:HH):V->V->Option Tr
 | .x (.slice (some ⟨g,off,none⟩) len _),.x (.int _ i)=>some fun T=>iD (pj P t) fun z=>(0<=i∧i<len)∧T (.x (.pointer (some ⟨g,off+i.toNat*z,none⟩))) H
 |_,_=>none
def yZ (P:Program) (t:TypeId) (H:HH):V->Option Tr
 | .x (.slice _ len _)=>some fun T=>iD (pj P t) fun _=>T (.x (.int .i64 (len:Int))) H
 |_=>none
def Oh (t:TypeId) (H:HH) (xs:Option (List Value)):Tr:=fun T=>iD xs fun l=>∀g,H g=none->T (.x (.pointer (some ⟨g,0,none⟩))) (upd H g (some (rowO l t)))
def Lg (P:Program) (t:TypeId):Option (TypeId×Nat×Nat×Value):=match P.underlying t with
 | some (.slice el)=>match P.info? el with
   |some i=>i.zero.map fun z=>(el,i.size,i.bytes,z)
   |none=>none
 |_=>none
def rK (P:Program) (t:TypeId) (H:HH):V->V->Option Tr
 | .x (.int k n),.x (.int k' n')=>some fun T=>iD (Lg P t) fun c=>(k=k'∧n=n'∧0<=n∧(c.2.2.1:Int)*n<=281474976710656∧n<=9223372036854775807)∧∀g,H g=none->T (.x (.slice (some ⟨g,0,none⟩) n.toNat n.toNat)) (upd H g (some (rowO (madeCells c.2.2.2.cells (n.toNat*c.2.1)).toList c.1)))
 |_,_=>none
def rM (F:FuncId->Option (List V->HH->Tr)) (H:HH) (us:List V):Option FuncId->Option Tr
 | some f=>match F f with
   |some C=>some fun T=>us.all V.dat=true∧C us H T
   |none=>none
 |none=>none
def pk (P:Program) (t:TypeId):Bool:=match P.underlying t with
 |some (.interface _)=>false
 |some _=>true
 |none=>false
def rO (P:Program) (t:TypeId) (H:HH):V->V->Option Tr
 | .x (.slice (some ⟨g,off,none⟩) _ cap),.x (.int _ k)=>some fun T=>iD (pj P t) fun _=>(0<=k∧k<=cap)∧T (.x (.slice (some ⟨g,off,none⟩) k.toNat cap)) H
 |_,_=>none
def og (P:Program) (t:TypeId) (H:HH):V->Option Tr
 | .x v=>some fun T=>pk P t=true∧T (.x (.iface t v)) H
 |_=>none
def lB (P:Program) (t:TypeId) (H:HH):V->Option Tr
 | .x (.iface t' v)=>some fun T=>(pk P t=true∧t'=t)∧T (.x v) H
 |_=>none
def y4 (I:TypeId->String->Option (Value->List V->HH->Tr)) (name:String) (H:HH) (us:List V):V->Option Tr
 | .x (.iface t v)=>match I t name with
   |some C=>some fun T=>us.all V.dat=true∧C v us H T
   |none=>none
 |_=>none
def Hr (P:Program) (t:TypeId):Bool:=match P.underlying t with
 | some (.slice el)=>match P.info? el with
   | some i=>match i.zero with
     |some z=>decide (i.size=1∧z.cells.size=1∧i.bytes=8)
     |none=>false
   |none=>false
 |_=>false
def Ym (H:HH) (v:Value) (x:Int) (T:V->HH->Prop):Prop:=∃es,RowJ H v es∧es.length+1<=100000000∧∀v' g ob,blkOf v'=some g->(blkOf v=some g∨H g=none)->RowJ (upd H g (some ob)) v' (es++[x])->T (.x v') (upd H g (some ob))
def y5 (P:Program) (t:TypeId) (H:HH):V->V->Option Tr
 | .x v,.sl false 1 [.x (.int .i64 x)] _=>some fun T=>Hr P t=true∧Ym H v x T
 |_,_=>none
def oh (H:HH):V->Option Tr
 | .x (.slice (some ⟨g,0,none⟩) n cap)=>some fun T=>iD (ik H g) fun c=>(n<=cap∧n<=c.1.length∧((c.1.take n).all fun v=>v.oneCell')=true)∧T (.sl false 1 ((c.1.take n).map V.x) none) (upd H g none)
 |_=>none
noncomputable def pn (P:Program) (F:Fx) (o:Oper) (ρ:Operand->V) (H:HH):Option Tr:=
 match o.op with
 | .load t x=>rJ P t H (ρ x)
 | .store t x y=>match o.dst with
   |none=>oc P t H (ρ y) (ρ x)
   |some _=>none
 | .fieldAddr t x f=>od P t f H (ρ x)
 | .nilCheck x=>yY H (ρ x)
 | .indexAddr t x i=>oe P t H (ρ x) (ρ i)
 | .call {callee:= .builtin .len,args,argTypes}=>match args.toList,argTypes.toList with
   |[x],[t]=>yZ P t H (ρ x)
   |_,_=>none
 | .box t x=>match (o.dst.map F.D).getD false with
   |true=>some (Oh t H (lA (ρ x)))
   |false=>none
 | .makeSlice t l c=>match (o.dst.map F.D).getD false with
   |true=>rK P t H (ρ l) (ρ c)
   |false=>none
 | .call {callee:= .value c,args,argTypes:=_}=>rM F.F H (args.toList.map fun x=>(ρ x).bare) (xc (ρ c))
 | .call {callee:= .invoke x name,args,argTypes:=_}=>y4 F.I name H (args.toList.map fun x=>(ρ x).bare) (ρ x)
 | .call {callee:= .builtin .append,args,argTypes}=>match args.toList,argTypes.toList with
   | [x,y],[t,t']=>match decide (t=t') with
     |true=>y5 P t H (ρ x) (ρ y)
     |false=>none
   |_,_=>none
 | .slice t x none (some k) none=>rO P t H (ρ x) (ρ k)
 | .makeInterface t x=>og P t H (ρ x)
 | .typeAssert x _ t ok=>match ok with
   |false=>lB P t H (ρ x)
   |true=>none
 | .move x=>match (o.dst.map F.Z).getD false with
   |true=>oh H (ρ x)
   |false=>none
 | .assign x=>match (o.dst.map F.Z).getD false with
   |true=>oh H (ρ x)
   |false=>none
 |_=>none
def d9 (E:Env) (F:Fx) (ops:Array Oper):List Oper->XS->(XS->Prop)->Prop
 |[],s,K=>K s
 | o::l,s,K=>match bK ops s.st.t o.guard with
   |some b=>(b=true->match pn E.P F o (ev E s.st) s.H with
    |some T=>T fun v H'=>d9 E F ops l ⟨s.st.put o.dst v.bare,H'⟩ K
    | none=>match dg E o s.st with
      |some st'=>d9 E F ops l ⟨st',s.H⟩ K
      |none=>False)∧(b=false->d9 E F ops l ⟨s.st.put o.dst (.x (.tuple #[])),s.H⟩ K)
   |none=>False
def qe (E:Env) (F:Fx) (ops:Array Oper) (l:List Oper) (H:HH) (K:XS->Prop):Option St->Prop
 |some st'=>d9 E F ops l ⟨st',H⟩ K
 |none=>False
def kA (E:Env) (F:Fx) (ops:Array Oper) (o:Oper) (l:List Oper) (s:XS) (K:XS->Prop):Option Tr->Prop
 |some T=>T fun v H'=>d9 E F ops l ⟨s.st.put o.dst v.bare,H'⟩ K
 |none=>qe E F ops l s.H K (dg E o s.st)
def iY (E:Env) (F:Fx) (ops:Array Oper) (o:Oper) (l:List Oper) (s:XS) (K:XS->Prop):Option Bool->Prop
 |some b=>(b=true->kA E F ops o l s K (pn E.P F o (ev E s.st) s.H))∧(b=false->d9 E F ops l ⟨s.st.put o.dst (.x (.tuple #[])),s.H⟩ K)
 |none=>False
section
variable (E:Env) (F:Fx) (ops:Array Oper) (l:List Oper) (s:XS) (K:XS->Prop) (o:Oper) (H:HH)
theorem Hs:d9 E F ops [] s K=K s:=rfl
theorem kB:d9 E F ops (o::l) s K=iY E F ops o l s K (bK ops s.st.t o.guard):=by
 unfold d9 iY;cases bK ops s.st.t o.guard with
 |none=>rfl
 |some b=>simp only[kA];congr 2
theorem Dv (d:Option Tmp) (op:Op) (ty:TypeId) (pos:String) (af:Array Edge):d9 E F ops (⟨d,op,ty,pos,af,none⟩::l) s K=kA E F ops ⟨d,op,ty,pos,af,none⟩ l s K (pn E.P F ⟨d,op,ty,pos,af,none⟩ (ev E s.st) s.H):=by rw[kB];simp only[iY,bK,true_implies,Bool.true_eq_false,false_implies,aaZ]
theorem y6 (d:Option Tmp) (op:Op) (ty:TypeId) (pos:String) (af:Array Edge) (g:Nat×Bool):d9 E F ops (⟨d,op,ty,pos,af,some g⟩::l) s K=iY E F ops ⟨d,op,ty,pos,af,some g⟩ l s K (bK ops s.st.t (some g)):=kB ..
theorem Ht:d9 E F ops (o::l) s K=d9 E F ops [o] s fun s'=>d9 E F ops l s' K:=by
 rw[kB,kB];cases bK ops s.st.t o.guard with
 |none=>rfl
 | some b=>
   unfold iY kA;cases pn E.P F o (ev E s.st) s.H with
   |some T=>rfl
   |none=>unfold qe;cases dg E o s.st<;>rfl
theorem y7 (st':St):qe E F ops l H K (some st')=d9 E F ops l ⟨st',H⟩ K:=rfl
theorem y8 (T:Tr):kA E F ops o l s K (some T)=T fun v H'=>d9 E F ops l ⟨s.st.put o.dst v.bare,H'⟩ K:=rfl
theorem oi:kA E F ops o l s K none=qe E F ops l s.H K (dg E o s.st):=rfl
theorem oj:iY E F ops o l s K (some true)=kA E F ops o l s K (pn E.P F o (ev E s.st) s.H):=by simp[iY]
theorem mj:iY E F ops o l s K (some false)=d9 E F ops l ⟨s.st.put o.dst (.x (.tuple #[])),s.H⟩ K:=by simp[iY]
theorem uY {r r':Option St} (h:r=r'):qe E F ops l H K r=qe E F ops l H K r':=by rw[h]
theorem uZ {r r':Option Tr} (h:r=r'):kA E F ops o l s K r=kA E F ops o l s K r':=by rw[h]
theorem u6 {r r':Option Bool} (h:r=r'):iY E F ops o l s K r=iY E F ops o l s K r':=by rw[h]
end
def Hu {X:Type} (T:X->List (Nat×V)) (B:X->List (Nat×List V)) (J:X->HH->Prop) (μ:X->Nat) (n:Nat) (s:XS):Prop:=∃x',(fH s.st (T x')∧fX s.st (B x')∧J x' s.H)∧μ x'<n
def jZ {X:Type} (T:X->List (Nat×V)) (B:X->List (Nat×List V)) (J:X->HH->Prop) (μ:X->Nat) (n:Nat) (K:Out->XS->Prop):Out->XS->Prop
 | .normal,s=>Hu T B J μ n s
 | .ret,s=>K .ret s
 | .exit id,s=>K (.exit id) s
section
variable {X:Type} (T:X->List (Nat×V)) (B:X->List (Nat×List V)) (J:X->HH->Prop) (μ:X->Nat) (n:Nat) (K:Out->XS->Prop) (s:XS)
theorem po:jZ T B J μ n K .normal s=Hu T B J μ n s:=rfl
theorem y9:jZ T B J μ n K .ret s=K .ret s:=rfl
theorem u7 (id:Nat):jZ T B J μ n K (.exit id) s=K (.exit id) s:=rfl
variable {o o':Out}
theorem rP (h:o=o'):jZ T B J μ n K o s=jZ T B J μ n K o' s:=by rw[h]
end
def u9 (body:XS->(Out->XS->Prop)->Prop) (s:XS) (K:Out->XS->Prop):Prop:=
 ∃ (X:Type) (T:X->List (Nat×V)) (B:X->List (Nat×List V)) (J:X->HH->Prop) (μ:X->Nat) (x0:X),(Le (am (T x0) (B x0)) s.st∧J x0 s.H)∧
   ∀x H,J x H->body ⟨am (T x) (B x),H⟩ (jZ T B J μ (μ x) K)
variable {body:XS->(Out->XS->Prop)->Prop} {s:XS} {X:Type}
theorem bf {K:Out->XS->Prop} (T:X->List (Nat×V)) (B:X->List (Nat×List V)) (J:X->HH->Prop) (μ:X->Nat) (x0:X) (h0:fH s.st (T x0)) (h1:fX s.st (B x0)) (hJ:J x0 s.H) (h:∀x H,J x H->body ⟨am (T x) (B x),H⟩ (jZ T B J μ (μ x) K)):u9 body s K:=⟨X,T,B,J,μ,x0,⟨aG h0 h1,hJ⟩,h⟩
theorem lC {K:Out->XS->Prop} (i n tok:Nat) {n0:Nat} {k0:Option Nat} (h:s.st.t i= .sl true n0 [] k0) (hr:u9 body ⟨⟨upd s.st.t i (.sl true n [] (some tok)),s.st.b⟩,s.H⟩ K):u9 body s K:=by
 obtain⟨X,T,B,J,μ,x0,⟨h0,hJ⟩,hx⟩:=hr;refine⟨X,T,B,J,μ,x0,⟨⟨fun j=>?_,h0.b⟩,hJ⟩,hx⟩;have:=h0.t j;simp only[aB] at this;split at this
 . rename_i e;subst e;rw[h];rcases this with e|e|⟨n1,k1,n2,k2,e,_⟩
   . exact .inl e
   . exact .inr (.inr ⟨_,_,_,_,e,rfl⟩)
   . exact .inr (.inr ⟨_,_,_,_,e,rfl⟩)
 . exact this
def I6 (st:St) (val:Nat->V) (ops:List Oper) (L:Nat) (bx:Nat->Option (List V)):St:=⟨(fh st val ops L).t,bx⟩
def za (d:Option Tmp) (st:St) (v:Nat->V) (bx:Nat->Option (List V)):St:=⟨match d with|some d=>upd st.t d (v d)|none=>st.t,bx⟩
def Dw (E:Env) (F:Fx) (ops:List Oper) (s:XS) (K:XS->Prop):Prop:=
 ∃ (need:Nat->List Nat) (I:Nat->HH->(Nat->V)->(Nat->Option (List V))->Prop) (val0:Nat->V),qd ops=true∧((List.range ops.length).all fun i=>(match ops[i]? with|some o=>(need i).all fun k=>(directV o).any (ij ops k)|none=>true))=true∧I 0 s.H val0 s.st.b∧
   (∀(L i:Nat) (o:Oper) (H:HH) (val:Nat->V) (bx:Nat->Option (List V)),ops[i]?=some o->L.testBit i=false->(∀k∈directV o,L.testBit k=true)->ClosedM ops L->I L H val bx->(∀k∈need i,(fh s.st val ops L).t k=val k)->
    d9 E F ⟨ops⟩ [o] ⟨I6 s.st val ops L bx,H⟩ fun s'=>∃val',(∀k,o.dst≠some k->val' k=val k)∧∃bx',I (L|||2^i) s'.H val' bx'∧Le (za o.dst (fh s.st val ops L) val' bx') s'.st)∧
   ∀H val bx,I (2^ops.length-1) H val bx->∃ts bs,fH (I6 s.st val ops (2^ops.length-1) bx) ts∧fX (I6 s.st val ops (2^ops.length-1) bx) bs∧K ⟨am ts bs,H⟩
def qf (E:Env) (F:Fx) (id:Nat) (ops:Array Oper) (s:XS) (K:Out->XS->Prop):Bool->Prop
 |true=>Dw E F ops.toList s (K .normal)
 |false=>run E (.region id ops true) s.st fun o st'=>K o ⟨st',s.H⟩
variable {st:St} {ops:List Oper} {L k:Nat}
theorem eF {val:Nat->V} (h:ce ops L k=true):(fh st val ops L).t k=val k:=Zp h
def ea (F:Fx):Code->Option (Code×(XS->(Out->XS->Prop)->Prop))
 | .region id _ _=>F.P id
 |_=>none
def A8 (c' c:Code) (p:Prop):Prop:=c'=c∧p
theorem va (c' c:Code) {p p':Prop} (h:p=p'):A8 c' c p=A8 c' c p':=by rw[h]
def ol (c:Code) (s:XS) (K:Out->XS->Prop) (d:Prop):Option (Code×(XS->(Out->XS->Prop)->Prop))->Prop
 |some p=>A8 p.1 c (p.2 s K)
 |none=>d
def cv (E:Env) (F:Fx):Code->XS->(Out->XS->Prop)->Prop
 | .skip,s,K=>K .normal s
 | .region _ ops false,s,K=>d9 E F ops ops.toList s (K .normal)
 | .region id ops true,s,K=>qf E F id ops s K (F.any id)
 | .seq a b,s,K=>ol (.seq a b) s K (cv E F a s fun o s'=>match o with
   | .normal=>cv E F b s' K
   |o=>K o s') (ea F a)
 | .cond c a b,s,K=>match ev E s.st c with
   | .x (.bool t)=>(t=true->cv E F a s K)∧(t=false->cv E F b s K)
   |_=>False
 | .block id a,s,K=>cv E F a s fun o s'=>match o with
   | .exit id'=>if id'=id then K .normal s' else K (.exit id') s'
   |o=>K o s'
 | .loop a,s,K=>u9 (cv E F a) s K
 | .label _,s,K=>K .normal s
 | .exit id,s,K=>K (.exit id) s
 | .ret,s,K=>K .ret s
 |_,_,_=>False
def Dx (E:Env) (F:Fx) (b:Code) (K:Out->XS->Prop):Out->XS->Prop
 | .normal,s=>cv E F b s K
 | .ret,s=>K .ret s
 | .exit id,s=>K (.exit id) s
def lD (id:Nat) (K:Out->XS->Prop):Out->XS->Prop
 | .exit id',s=>if id'=id then K .normal s else K (.exit id') s
 | .normal,s=>K .normal s
 | .ret,s=>K .ret s
def ml (E:Env) (F:Fx) (a b:Code) (s:XS) (K:Out->XS->Prop):V->Prop
 | .x (.bool t)=>(t=true->cv E F a s K)∧(t=false->cv E F b s K)
 |_=>False
section
variable (E:Env) (F:Fx) (a b:Code) (s:XS) (K:Out->XS->Prop) (id:Nat)
theorem Dy:cv E F .skip s K=K .normal s:=rfl
theorem vb (ops:List Oper):cv E F (.region id ⟨ops⟩ false) s K=d9 E F ⟨ops⟩ ops s (K .normal):=rfl
theorem Dz (ops:List Oper):cv E F (.region id ⟨ops⟩ true) s K=qf E F id ⟨ops⟩ s K (F.any id):=rfl
theorem zb (ops:List Oper):qf E F id ⟨ops⟩ s K true=Dw E F ops s (K .normal):=rfl
theorem vc (ops:List Oper):qf E F id ⟨ops⟩ s K false=run E (.region id ⟨ops⟩ true) s.st (fun o st'=>K o ⟨st',s.H⟩):=rfl
theorem vd (ops:Array Oper) {o o':Bool} (h:o=o'):qf E F id ops s K o=qf E F id ops s K o':=by rw[h]
theorem pp (ops:Array Oper) (d:Bool):ea F (.region id ops d)=F.P id:=rfl
theorem zc:ea F (.seq a b)=none:=rfl
theorem ve (c:Operand):ea F (.cond c a b)=none:=rfl
theorem rQ:ea F (.block id a)=none:=rfl
theorem vf:ea F (.loop a)=none:=rfl
theorem vg:ea F .skip=none:=rfl
theorem vh:ea F (.exit id)=none:=rfl
theorem zd:ea F .ret=none:=rfl
theorem ze (c:Code) (d:Prop):ol c s K d none=d:=rfl
theorem zf (c c':Code) (W:XS->(Out->XS->Prop)->Prop) (d:Prop):ol c s K d (some (c',W))=A8 c' c (W s K):=rfl
theorem vm (c:Code) (d:Prop) {o o':Option (Code×(XS->(Out->XS->Prop)->Prop))} (h:o=o'):ol c s K d o=ol c s K d o':=by rw[h]
theorem Hv:cv E F (.seq a b) s K=ol (.seq a b) s K (cv E F a s (Dx E F b K)) (ea F a):=by show ol _ s K (cv E F a s _) _=_;congr 2;funext o s';cases o<;>rfl
theorem DA (c:Operand):cv E F (.cond c a b) s K=ml E F a b s K (ev E s.st c):=by show(match ev E s.st c with| .x (.bool t)=>(t=true->cv E F a s K)∧(t=false->cv E F b s K)|_=>False)=_;unfold ml;split<;>simp_all
theorem zg:cv E F (.block id a) s K=cv E F a s (lD id K):=by show cv E F a s _=_;congr 1;funext o s';cases o<;>rfl
theorem DB:cv E F (.loop a) s K=u9 (cv E F a) s K:=rfl
theorem DC:cv E F (.exit id) s K=K (.exit id) s:=rfl
theorem Hw:cv E F .ret s K=K .ret s:=rfl
theorem vo:Dx E F b K .normal s=cv E F b s K:=rfl
theorem Hx:Dx E F b K .ret s=K .ret s:=rfl
theorem DD:Dx E F b K (.exit id) s=K (.exit id) s:=rfl
theorem pq:lD id K .normal s=K .normal s:=rfl
theorem zh:lD id K .ret s=K .ret s:=rfl
theorem vp (id':Nat):lD id K (.exit id') s=if id'=id then K .normal s else K (.exit id') s:=rfl
theorem zi:ml E F a b s K (.x (.bool true))=cv E F a s K:=by simp[ml]
theorem vq:ml E F a b s K (.x (.bool false))=cv E F b s K:=by simp[ml]
theorem vr {v v':V} (h:v=v'):ml E F a b s K v=ml E F a b s K v':=by rw[h]
variable {o o':Out}
theorem zj (h:o=o'):Dx E F b K o s=Dx E F b K o' s:=by rw[h]
theorem rT (h:o=o'):lD id K o s=lD id K o' s:=by rw[h]
theorem zk {s':XS} (h:s=s'):cv E F a s K=cv E F a s' K:=by rw[h]
end
structure Xb where
 X:Nat->Prop
 Kn:Kno
 ms:Lim
 ws:World
def lE (D:List Deferred) (O:Nat->Prop) (lo:Nat) (w:World) (H:HH):Prop:=D.Nodup∧∀d∈D,∃b,d=markD b∧lo<=b∧w.heap[b]?=some (.deferred (some []))∧ ¬O b∧H b=none
def HoldX (E:Env) (n:Nat) (B:Xb) (s:XS) (a:Act) (w:World):Prop:=
 ∃D m O,Now E n D O m s.st a w∧(∀g ob,s.H g=some ob-> ¬O g∧w.heap[g]?=some ob∧m g=some 0∧(B.ws.heap.size<=g∨B.X g)∧E.K<=g)∧(∀k,O k->B.ws.heap.size<=k∨B.X k)∧Step B.X B.ms B.ws m w∧B.Kn.P m w∧lE D O B.ws.heap.size w s.H
def Mt (P:Program) (f:FuncId) (vs:Array Value) (m:Lim) (w:World) (H:HH) (T:V->HH->Prop):Prop:=
 Calls P f vs w fun e w'=>∃v m' r H',e= .returned v∧Rd m' w' v r∧T r H'∧Step (fun k=>H k≠none) m w m' w'∧∀g ob,H' g=some ob->w'.heap[g]?=some ob∧m' g=some 0∧(H g≠none∨w.heap.size<=g)
def cn (E:Env) (f:FuncId) (C:List V->HH->Tr):Prop:=
 (∀args w,(callFunc f args).run E.P w= .ok (.enter f args) w)∧
 ∀ (m:Lim) (w:World) (vs:Array Value) (us:List V) (H:HH) (T:V->HH->Prop),C us H T->us.all V.dat=true->RdL m w vs.toList us->(∀g ob,H g=some ob->w.heap[g]?=some ob∧m g=some 0∧E.K<=g)->E.J w->(∀g,Rd m w (.pointer (some ⟨g,0,none⟩)) (E.G g))->
   Mt E.P f vs m w H T
def im (E:Env) (t:TypeId) (name:String) (C:Value->List V->HH->Tr):Prop:=
 ∀ (m:Lim) (w:World) (v:Value) (vs:Array Value) (us:List V) (H:HH) (T:V->HH->Prop),C v us H T->us.all V.dat=true->RdL m w vs.toList us->(∀g ob,H g=some ob->w.heap[g]?=some ob∧m g=some 0∧E.K<=g)->E.J w->(∀g,Rd m w (.pointer (some ⟨g,0,none⟩)) (E.G g))->
   ∃f r,(callMethod (.iface t v) name vs).run E.P w= .ok (.enter f (#[r]++vs)) w∧Mt E.P f (#[r]++vs) m w H T
section
variable {E:Env} {n:Nat} {B:Xb} {F:Fx} {s:XS} {a:Act} {w w':World} {r:Option Nat}
variable {st':St}
theorem HoldX.le (h:HoldX E n B s a w) (hl:Le st' s.st):HoldX E n B ⟨st',s.H⟩ a w:=by obtain⟨D,m,O,h1,h2⟩:=h;exact⟨D,m,O,h1.le hl,h2⟩
theorem HoldX.ev (h:HoldX E n B s a w) (x:Operand) {v:Value} (hx:ev E s.st x= .x v):a.eval x=v:=by obtain⟨D,m,O,⟨⟨b,β,hr⟩,_⟩,_⟩:=h;exact(hx▸aE hr x).x
theorem HoldX.at (h:HoldX E n B s a w) {g:Nat} {ob:Obj} (hg:s.H g=some ob):w.heap[g]?=some ob:=by obtain⟨D,m,O,_,h2,_⟩:=h;exact(h2 g ob hg).2.1
theorem HoldX.new (h:HoldX E n B s a w):s.H w.heap.size=none:=by
 cases e:s.H w.heap.size with
 |none=>rfl
 |some ob=>exact absurd (ae (h.at e)) (act _)
theorem HoldX.put (h:HoldX E n B s a w) {d:Option Tmp} (hd:∀k,d=some k->k<n) {v:Value} {u:V} (hv:∀m,Rd m w v u):HoldX E n B ⟨s.st.put d u.bare,s.H⟩ (a.put d v) w:=by
 obtain⟨D,m,O,h1,h2⟩:=h;cases d with
 |none=>exact⟨D,m,O,h1,h2⟩
 |some k=>exact⟨D,m,O,h1.put (hd k rfl) (hv m),h2⟩
variable {D:List Deferred} {O:Nat->Prop} {m m':Lim} {a':Act}
theorem HoldX.grown (h2:∀g ob,s.H g=some ob-> ¬O g∧w.heap[g]?=some ob∧m g=some 0∧(B.ws.heap.size<=g∨B.X g)∧E.K<=g) (h4:∀k,O k->B.ws.heap.size<=k∨B.X k) (h5:Step B.X B.ms B.ws m w) (h6:B.Kn.P m w∧lE D O B.ws.heap.size w s.H)
 (hn:Now E n D (o8 O w w') m' st' a' w') (hs:Step O m w m' w'):HoldX E n B ⟨st',s.H⟩ a' w':=by
 refine⟨D,m',_,hn,fun g ob hg=>?_,fun k hg=>?_,h5.next hs (fun i hi ho=>(h4 i ho).resolve_left (abh.2 hi)),B.Kn.mono _ _ _ _ h6.1 hs.ext,h6.2.1,fun d hd=>?_⟩
 . obtain⟨q1,q2,q3,q4⟩:=h2 g ob hg;obtain⟨s1,s2⟩:=hs.same g (ae q2) q1;refine⟨fun hgr=>?_,s1.trans q2,s2.trans q3,q4⟩;rcases hgr.2 with ho|ho
   . exact q1 ho
   . exact absurd (ae q2) (Z4.2 ho)
 . rcases hg.2 with ho|ho
   . exact h4 k ho
   . exact .inl (ZL h5.ext.size ho)
 . obtain⟨b,rfl,q1,q2,q3,q4⟩:=h6.2.2 d hd;refine⟨b,rfl,q1,(hs.same b (ae q2) q3).1.trans q2,fun hg=>?_,q4⟩;rcases hg.2 with hg|hg
   . exact q3 hg
   . exact absurd (ae q2) (Z4.2 hg)
theorem Oj (hE:EnvOK E) (hm:E.P.follows .mixedOrders=true) {c:Code} {K:Out->St->Prop} (hok:aZ E.any n c=true) (h:HoldX E n B s a w) (hr:run E c s.st K):
 c.wpIn (aX r) 0 E.P (fun e a' w'=>∃o st',d6 e=some o∧K o st'∧HoldX E n B ⟨st',s.H⟩ a' w') a w:=by
 obtain⟨D,m,O,h1,h2,h4,h5,h6⟩:=h;refine wpIn_mono (jg (r:=r) (W:=fun _=>true) hE hm hok (fT c) h1 hr) ?_;rintro e a' w' ⟨_,o,st',m',ho,hK,hn,hs⟩;exact⟨o,st',ho,hK,HoldX.grown h2 h4 h5 h6 hn hs⟩
theorem Tc (hE:EnvOK E) (h:HoldX E n B s a w) {o:Oper} {st':St} (hx:dg E o s.st=some st') (hd:∀k,o.dst=some k->k<n) {K:Act->World->Prop} {Q:Exit->Act->World->Prop} (hK:∀a' w',HoldX E n B ⟨st',s.H⟩ a' w'->K a' w'):o.wp E.P a w K Q:=by obtain⟨D,m,O,h1,h2,h4,h5,h6⟩:=h;have hlt:=h1.lt;obtain⟨b,β,hrel⟩:=h1.rel;refine l6 (hE.x (.inr (fun _ h=>h))) hrel hx hd (fun a' w' m' β' hr'=>hK a' w' ?_);obtain⟨hn,hst⟩:=Now.of_rel hE hlt hr';exact HoldX.grown h2 h4 h5 h6 hn hst
theorem HoldX.stepped (hE:EnvOK E) {D:List Deferred} {m m':Lim} {O:Nat->Prop} {H':HH} (q1:Now E n D O m s.st a w) (q2:∀g ob,s.H g=some ob-> ¬O g∧w.heap[g]?=some ob∧m g=some 0∧(B.ws.heap.size<=g∨B.X g)∧E.K<=g) (q4:∀k,O k->B.ws.heap.size<=k∨B.X k) (q5:Step B.X B.ms B.ws m w) (q6:B.Kn.P m w∧lE D O B.ws.heap.size w s.H)
 (hs:Step (fun k=>s.H k≠none) m w m' w') (hH:∀g ob,H' g=some ob->w'.heap[g]?=some ob∧m' g=some 0∧(s.H g≠none∨w.heap.size<=g)):HoldX E n B ⟨s.st,H'⟩ a w'∧∃O,Now E n D O m' s.st a w'∧(∀g ob,H' g=some ob-> ¬O g∧w'.heap[g]?=some ob∧m' g=some 0∧(B.ws.heap.size<=g∨B.X g)∧E.K<=g)∧(∀k,O k->B.ws.heap.size<=k∨B.X k)∧Step B.X B.ms B.ws m' w'∧B.Kn.P m' w'∧lE D O B.ws.heap.size w' H':=by
 have hne:∀k,O k-> ¬s.H k≠none:=fun k hk=>by
  cases e:s.H k with
  |none=>simp
  |some ob=>exact absurd hk (q2 k ob e).1
 have hJ:E.J w':=hE.keep ((List.range w.heap.size).filter fun k=>(s.H k).isSome) _ _ (fun x hx=>by
  obtain⟨ob,e⟩:=aca.1 (aaa.1 hx).2
  exact(q2 x ob e).2.2.2.2) q1.J (hs.bel (fun k hk e=>aaa.2 ⟨ZT.2 hk,by cases e':s.H k with
   |none=>exact absurd e' e
   |some _=>rfl⟩))
 have hK:E.K<=w.heap.size:=hE.high _ q1.J;have key:∃O,Now E n D O m' s.st a w'∧(∀g ob,H' g=some ob-> ¬O g∧w'.heap[g]?=some ob∧m' g=some 0∧(B.ws.heap.size<=g∨B.X g)∧E.K<=g)∧(∀k,O k->B.ws.heap.size<=k∨B.X k)∧Step B.X B.ms B.ws m' w'∧B.Kn.P m' w'∧lE D O B.ws.heap.size w' H':=by
  refine⟨O,q1.other hs hne hJ,fun g ob hg=>?_,q4,q5.next hs (fun i hi e=>?_),B.Kn.mono _ _ _ _ q6.1 hs.ext,q6.2.1,fun d hd=>?_⟩
  . obtain⟨h1,h3,h2⟩:=hH g ob hg;rcases h2 with h2|h2
    . cases e:s.H g with
      |none=>exact absurd e h2
      |some ob'=>exact⟨(q2 g ob' e).1,h1,h3,(q2 g ob' e).2.2.2⟩
    . exact⟨fun ho=>absurd (q1.lt g ho) (Z4.2 h2),h1,h3,.inl (ZL q5.ext.size h2),ZL hK h2⟩
  . cases e':s.H i with
    |none=>exact absurd e' e
    |some ob=>exact(q2 i ob e').2.2.2.1.resolve_left (abh.2 hi)
  . obtain⟨b,rfl,r1,r2,r3,r4⟩:=q6.2.2 d hd;refine⟨b,rfl,r1,(hs.same b (ae r2) (by rw[r4];simp)).1.trans r2,r3,?_⟩;cases e:H' b with
    |none=>rfl
    | some ob=>
      rcases(hH b ob e).2.2 with h|h
      . exact absurd r4 h
      . exact absurd (ae r2) (Z4.2 h)
 obtain⟨O',k1,k2,k3,k4,k5⟩:=key;exact⟨⟨D,m',O',k1,k2,k3,k4,k5⟩,O',k1,k2,k3,k4,k5⟩
theorem HoldX.wrote (hE:EnvOK E) {H':HH} (h:HoldX E n B s a w) (hos:w'.os=w.os) (htp:w'.tape=w.tape) (hou:w'.output=w.output) (hsz:w.heap.size<=w'.heap.size) (hb:∀k,k<w.heap.size->s.H k=none->w'.heap[k]?=w.heap[k]?) (hH:∀g ob,H' g=some ob->w'.heap[g]?=some ob∧(s.H g≠none∨w.heap.size<=g)):HoldX E n B ⟨s.st,H'⟩ a w':=by
 obtain⟨D,m,O,q1,q2,q4,q5,q6⟩:=h;have hs:Step (fun k=>s.H k≠none) m w (fun j=>if w.heap.size<=j then some 0 else m j) w':=by
  refine⟨hos,htp,hou,⟨hsz,fun b off v hlt hm hc=>?_,fun b hlt fr' hf=>?_,fun b es c hm hc=>?_⟩,fun k hk hn=>⟨hb k hk A0R,Zs (abh.2 hk)⟩⟩
  . cases e:s.H b with
    |none=>rw[aT (hb b hlt e)];exact hc
    |some ob=>exact absurd (hm 0 (q2 b ob e).2.2.1) (abv _)
  . rw[Zs (abh.2 hlt)] at hf;exact⟨fr',hf,Zt _⟩
  . cases e:s.H b with
    |none=>rw[hb b (dF hc) e];exact hc
    |some ob=>rw[(q2 b ob e).2.2.1] at hm;cases hm
 refine(HoldX.stepped hE q1 q2 q4 q5 q6 hs (fun g ob hg=>?_)).1;obtain⟨h1,h2⟩:=hH g ob hg;refine⟨h1,?_,h2⟩;rcases h2 with h2|h2
 . cases e:s.H g with
   |none=>exact absurd e h2
   |some ob'=>rw[Zs (abh.2 (ae (q2 g ob' e).2.1))];exact(q2 g ob' e).2.2.1
 . exact Zp h2
theorem HoldX.drew (hE:EnvOK E) (h:HoldX E n B s a w):HoldX E n B s a {w with drawn:=w.drawn+1}:=
 h.wrote hE rfl rfl rfl (Zt _) (fun _ _ _=>rfl) (fun g ob e=>⟨h.at e,.inl (by rw[e];exact fun h=>by cases h)⟩)
theorem HoldX.fresh (hE:EnvOK E) (h:HoldX E n B s a w) (ob:Obj):HoldX E n B ⟨s.st,upd s.H w.heap.size (some ob)⟩ a (w.alloc ob):=by
 refine h.wrote hE rfl rfl rfl A0l (fun k hk _=>Below.heap_alloc w ob k hk) (fun g ob' hg=>?_);by_cases e:g=w.heap.size
 . subst e;rw[ai] at hg;cases hg;exact⟨World.heap_new w ob,.inr (Zt _)⟩
 . rw[ag _ _ e] at hg;have:=h.at hg;exact⟨(Below.heap_alloc w ob g (ae this)).trans this,.inl A1b ⟩
theorem vt {m:Lim}:∀{us:List V} {xs vs:List Value},Hp us=some xs->RdL m w vs us->vs=xs∧∀v∈xs,v.oneCell'=true∧v.cells= #[v]
 | [],xs,vs,h,hr=>by
   cases h;cases vs with
   |nil=>exact⟨rfl,fun v hv=>by cases hv⟩
   |cons v vs=>exact hr.elim
 | u ::us,xs,vs,h,hr=>by
   cases u with
   | x v =>
     unfold Hp at h;split at h
     . rename_i hv;obtain⟨ys,hy,rfl⟩:=Zu.1 h;cases vs with
       |nil=>exact hr.elim
       | cons v' vs=>
         obtain⟨q1,q2⟩:=vt hy hr.2;exact⟨by rw[Rd.x_iff.1 hr.1,q1],fun y hm=>by
          cases hm with
          |head=>exact⟨hv,Dt hv⟩
          |tail _ hm=>exact q2 y hm⟩
     . cases h
   | sl nl z es tok=>
     cases nl with
     |false=>simp[Hp] at h
     | true=>
       unfold Hp at h;obtain⟨ys,hy,rfl⟩:=Zu.1 h;cases vs with
       |nil=>exact hr.elim
       | cons v' vs=>
         obtain⟨q1,q2⟩:=vt hy hr.2;have hv:v'= .slice none 0 0:=by have:=hr.1;cases this;rfl
         exact⟨by rw[hv,q1],fun y hm=>by
          cases hm with
          |head=>exact⟨rfl,rfl⟩
          |tail _ hm=>exact q2 y hm⟩
   |_=>simp[Hp] at h
variable {u:V} {xs:List Value}
theorem vu (h:lA u=some xs) (hr:Rd m w v u):v.cells=xs.toArray∧∀v∈xs,v.oneCell'=true:=by
 cases u with
 |x v'=>obtain⟨q1,q2⟩:=vt (us:=[.x v']) (vs:=[v]) h ⟨hr,trivial⟩;subst q1;exact⟨(q2 v (Zn.2 rfl)).2,fun y hy=>(q2 y hy).1⟩
 | sl nl z es tok=>
   cases nl with
   |false=>cases h
   |true=>obtain⟨q1,q2⟩:=vt (us:=[.sl true z es tok]) (vs:=[v]) h ⟨hr,trivial⟩;subst q1;exact⟨(q2 v (Zn.2 rfl)).2,fun y hy=>(q2 y hy).1⟩
 |agg us=>obtain⟨cs,rfl,hl⟩:=Rd.agg_iff.1 hr;obtain⟨q1,q2⟩:=vt h hl;exact⟨by rw[<-q1];rfl,fun y hy=>(q2 y hy).1⟩
 |_=>cases h
theorem Hy (h:lA u=some xs):u.nm=none:=by cases u<;>first|rfl|cases h
variable {P:Program} {t:TypeId} {cs:List V} {off:Nat}
theorem DE (h:cD P t cs off=some u):cD P t (cs.drop off) 0=some u:=by
 unfold cD at h⊢;generalize aH P t=A at h⊢;generalize aY P t=Z at h⊢;cases A with
 |none=>exact h
 | some b=>
   cases Z with
   |none=>cases b<;>exact h
   | some k=>
     cases b with
     |false=>simpa using h
     | true=>
       simp only at h⊢;split at h
       . rw[Zp (by rw[aa8];omega)];simpa using h
       . cases h
theorem zm (m:Lim) (w:World):∀l:List Value,RdL m w l (l.map V.x)
 |[]=>trivial
 |v::l=>⟨.x v,zm m w l⟩
theorem HoldX.rdx (h:HoldX E n B s a w) (x:Operand) {u:V} (hx:Go.Proofs.Ytmfojhkjbkombaa.ev E s.st x=u) (hu:u.nm=none):∃m,Rd m w (a.eval x) u:=by obtain⟨D,m,O,⟨⟨b,β,hr⟩,_⟩,_⟩:=h;exact⟨m,(hx▸aE hr x).rd hu⟩
end
section
variable {E:Env} {n:Nat} {B:Xb} {F:Fx} {s:XS} {a:Act} {w w':World} {r:Option Nat} {o:Oper} {R:V->HH->Prop} {K:Act->World->Prop} {Q:Exit->Act->World->Prop}
theorem Mu (h:v.oneCell'=true):(V.x v).cells=[.x v]:=by cases v<;>first|rfl|cases h
theorem vv (h:HoldX E n B s a w) (hd:∀k,o.dst=some k->k<n) (hK:∀a' w' v H',R v H'->HoldX E n B ⟨s.st.put o.dst v.bare,H'⟩ a' w'->K a' w') {v:Value} {u:V} (hrun:(execOp a.eval o).run E.P w= .ok (.value v) w) (hv:∀m,Rd m w v u) (hR:R u s.H):o.wp E.P a w K Q:=by unfold Oper.wp;rw[hrun];exact hK _ _ _ _ hR (h.put hd hv)
theorem Td (hE:EnvOK E) (h:HoldX E n B s a w) (hd:∀k,o.dst=some k->k<n) (hK:∀a' w' v H',R v H'->HoldX E n B ⟨s.st.put o.dst v.bare,H'⟩ a' w'->K a' w') {v:Value} {ob:Obj} (hrun:(execOp a.eval o).run E.P w= .ok (.value v) (w.alloc ob)) (hR:R (.x v) (upd s.H w.heap.size (some ob))):o.wp E.P a w K Q:=by unfold Oper.wp;rw[hrun];exact hK _ _ _ _ hR ((h.fresh hE ob).put hd (fun m=> .x v))
theorem Te (hE:EnvOK E) (h:HoldX E n B s a w) (hd:∀k,o.dst=some k->k<n) (hK:∀a' w' v H',R v H'->HoldX E n B ⟨s.st.put o.dst v.bare,H'⟩ a' w'->K a' w') {x:Operand} {T:Tr} (hT:oh s.H (ev E s.st x)=some T) (hr:T R) (hrun:(execOp a.eval o).run E.P w= .ok (.value (a.eval x)) w):o.wp E.P a w K Q:=by
 unfold oh at hT;split at hT
 case h_2=>cases hT
 rename_i g k cap hx;cases hT;obtain⟨c,hc,⟨hk,hl,h1⟩,hr⟩:=cI hr;have hob:=jY hc;have hx':=h.ev x hx;obtain⟨D,m,O,q1,q2,q4,q5,q6⟩:=h;obtain⟨p1,p2,p3,p4,p5⟩:=q2 g _ hob;have hs:Step (fun k=>s.H k≠none) m w (upd m g none) w:=(Step.freeze g m w).mono (fun i _ e=>by subst e;rw[hob];simp);obtain⟨_,O',k1,k2,k3,k4,k5⟩:=HoldX.stepped (H':=upd s.H g none) hE q1 q2 q4 q5 q6 hs (fun g' ob hg=>by
  by_cases e:g'=g
  . subst e;rw[ai] at hg;cases hg
  . rw[ag _ _ e] at hg;obtain⟨r1,r2,r3,r4⟩:=q2 g' ob hg;exact⟨r2,by rw[ag _ _ e];exact r3,.inl A1b ⟩)
 have hlen:((c.1.take k).map V.x).length=k:=by rw[io,ZS,aaW hl]
 have hrd:Rd (upd m g none) w (a.eval x) (.sl false 1 ((c.1.take k).map V.x) none):=by
  rw[hx'];have:=Rd.sl (m:=upd m g none) (w:=w) g 0 cap 1 ((c.1.take k).map V.x) none (fun j=>(c.1[j]?).getD Go.undef) (ae p2) (by rw[hlen];exact hk) (fun i e he=>?_) (fun j hj=>?_) (fun fr hf=>?_) (fun i e he j d hdj=>?_)
  . rwa [hlen] at this
  . rw[Io] at he;obtain⟨v,hv,rfl⟩:=Zu.1 he;rw[Mu ((Zw.1 h1) v (Zo hv))];rfl
  . rw[Zx,hlen] at hj;rw[Box.cell p2,Zm,aaD,eq A0c];rfl
  . rw[ai] at hf;cases hf
  . rw [Io] at he;obtain⟨v,hv,rfl⟩:=Zu.1 he;rw[Mu ((Zw.1 h1) v (Zo hv))] at hdj;cases j with
    | zero=>
      cases hdj;have:c.1[i]?=some v:=by
       rw[Z9] at hv;split at hv
       . exact hv
       . cases hv
      rw[Zx,aas,this];exact .x _
    |succ j=>cases hdj
 unfold Oper.wp;rw[hrun];refine hK _ _ _ _ hr ?_;cases hdst:o.dst with
 |none=>exact⟨D,_,O',k1,k2,k3,k4,k5⟩
 |some d=>exact⟨D,_,O',k1.put (hd d hdst) hrd,k2,k3,k4,k5⟩
theorem zn (hE:EnvOK E) (hF:∀f C,F.F f=some C->cn E f C) (hI:∀t name C,F.I t name=some C->im E t name C) (h:HoldX E n B s a w) {T:Tr} (hT:pn E.P F o (ev E s.st) s.H=some T) (hd:∀k,o.dst=some k->k<n) (hr:T R) (hK:∀a' w' v H',R v H'->HoldX E n B ⟨s.st.put o.dst v.bare,H'⟩ a' w'->K a' w'):o.wp E.P a w K Q:=by
 unfold pn at hT;split at hT
 . --load
   rename_i t x ho;unfold rJ at hT;split at hT
   case h_2=>cases hT
   rename_i g off hx;cases hT;obtain⟨c,hc,hr⟩:=cI hr;obtain⟨u,hu,hr⟩:=cI hr;have hh:=h.at (jY hc);have hx':=h.ev x hx;have hcell:∀(k:Nat) (v:Value),(c.1.drop off)[k]?=some v->w.cell? ⟨g,off+k,none⟩=some v:=fun k v hk=>by
    rw[Box.cell hh,aaD]
    rwa [aay] at hk
   have hp:=DE hu;rw[<-List.map_drop] at hp;obtain⟨m0,hm0⟩:∃m:Lim,True:=⟨fun _=>none,trivial⟩;obtain⟨v,hrun,_⟩:=gX (m:=m0) hcell (zm m0 w _) hp;refine vv h hd hK (v:=v) (u:=u) (by simp only[execOp,ho,hx',Sem.run_bind,hrun,Result.andThen_ok,Sem.run_pure]) (fun m=>?_) hr;obtain⟨v',hrun',hv'⟩:=gX (m:=m) hcell (zm m w _) hp;rw[hrun] at hrun';cases hrun';exact hv'
 . --store
   rename_i t x y ho;split at hT
   case h_2=>cases hT
   rename_i hdst;unfold oc at hT;split at hT
   case h_2=>cases hT
   rename_i g off hy;cases hT;obtain⟨c,hc,hr⟩:=cI hr;obtain⟨xs,hxs,⟨hsz,hlen⟩,hr⟩:=cI hr;have hob:=jY hc;have hh:=h.at hob;obtain⟨m1,hv⟩:=h.rdx y rfl (Hy hxs);obtain⟨hcs,hone⟩:=vu hxs hv;have hx':=h.ev x hy;have hst:=cN E.P g off c.2 (0,0) xs 0 c.1.toArray w hh (.inl rfl) (by simpa using hlen) hone;simp only[aas,List.toList_toArray] at hst;have hrun:(execOp a.eval o).run E.P w= .ok .skip (w.setRow g (eL c.1 off xs).toArray):=by simp only[execOp,ho,hx',Instr.storeAt,Instr.sureAddr,storeVar,Sem.run_bind,Sem.run_pure,Result.andThen_ok,bv hsz,hcs];rw[Zs A0l,hst];rfl
   unfold Oper.wp;rw[hrun];show K (a.put o.dst undef) _;rw[hdst];have hw:HoldX E n B ⟨s.st,upd s.H g (some (rowO (eL c.1 off xs) c.2))⟩ a (w.setRow g (eL c.1 off xs).toArray):=by
    refine h.wrote hE rfl rfl rfl (by simp[World.setRow]) (fun k _ hk=>setRow_other w g k _ (by rintro rfl;rw[hob] at hk;cases hk)) (fun g' ob' hg=>?_);by_cases e:g'=g
    . subst e;rw[ai] at hg;cases hg;exact⟨setRow_heap w _ _ _ _ (0,0) hh,.inl (by rw[hob];simp)⟩
    . rw[ag _ _ e] at hg;exact⟨(setRow_other w g g' _ e).trans (h.at hg),.inl A1b ⟩
   have:=hK a (w.setRow g (eL c.1 off xs).toArray) .undef _ hr;rw[hdst] at this;exact this hw
 . --fieldAddr
   rename_i t x f ho;unfold od at hT;split at hT
   case h_2=>cases hT
   rename_i g off hx;cases hT;obtain⟨k,hk,hr⟩:=cI hr;unfold Hq at hk;split at hk
   case h_2=>cases hk
   rename_i fs hfs;split at hk
   case h_2=>cases hk
   rename_i fd hfd;split at hk
   case h_2=>cases hk
   rename_i z hz;cases hk;exact vv h hd hK (bC ho hfs hfd hz A0c (h.ev x hx) rfl) (fun m=> .x _) hr
 . --nilCheck
   rename_i x ho;unfold yY at hT;split at hT
   case h_2=>cases hT
   rename_i p hx;cases hT;exact vv h hd hK (cW ho (h.ev x hx)) (fun m=> .x _) hr
 . --indexAddr
   rename_i t x i ho;unfold oe at hT;split at hT
   case h_2=>cases hT
   rename_i g off len cap k iv hx hi;cases hT;obtain⟨z,hz,⟨h0,hl⟩,hr⟩:=cI hr;unfold pj at hz;split at hz
   case h_2=>cases hz
   rename_i el hel;refine vv h hd hK ?_ (fun m=> .x _) hr;simp only[execOp,ho,h.ev x hx,h.ev i hi,Instr.indexAt,asIntOf,Sem.run_bind,Sem.run_pure,Result.andThen_ok,ax hel,Sem.run_ite];rw[Zp ⟨h0,hl⟩];simp only[bv hz,Result.andThen_ok,aK]
 . --len
   rename_i args ts ho;split at hT
   case h_2=>cases hT
   rename_i x t hargs hts;unfold yZ at hT;split at hT
   case h_2=>cases hT
   rename_i b len cap hx;cases hT;obtain⟨z,hz,hr⟩:=cI hr;unfold pj at hz;split at hz
   case h_2=>cases hz
   rename_i el hel;have ha:args= #[x]:=aae.1 hargs;have ht:ts= #[t]:=aae.1 hts;subst ha ht;exact vv h hd hK (Hm ho hel (h.ev x hx)) (fun m=> .x _) hr
 . --box
   rename_i t x ho;split at hT
   case h_2=>cases hT
   cases hT;obtain⟨xs,hxs,hr⟩:=cI hr;obtain⟨m1,hv⟩:=h.rdx x rfl (Hy hxs);obtain⟨hcs,_⟩:=vu hxs hv;refine Td hE h hd hK (uU ho) ?_;rw[hcs];exact hr _ h.new
 . --makeSlice
   rename_i t l c ho;split at hT
   case h_2=>cases hT
   unfold rK at hT;split at hT
   case h_2=>cases hT
   rename_i k i k' i' hl hc;cases hT;obtain⟨q,hq,⟨rfl,rfl,h0,hb,hm⟩,hr⟩:=cI hr;unfold Lg at hq;split at hq
   case h_2=>cases hq
   rename_i el hel;split at hq
   case h_2=>cases hq
   rename_i inf hinf;obtain⟨z,hz,rfl⟩:=Zu.1 hq;have:=hr _ h.new;rw[show ∀A:Array Value,rowO A.toList el= .cells A el (0,0) from fun A=>by simp[rowO]] at this;exact Td hE h hd hK (ly ho hel hinf hz (h.ev l hl) (h.ev c hc) h0 hb hm) this
 . --a call
   rename_i c args ts ho;unfold rM at hT;split at hT
   case h_2=>cases hT
   rename_i f hf;split at hT
   case h_2=>cases hT
   rename_i C hC;cases hT;obtain⟨hdat,hr⟩:=hr;obtain⟨hcall,hfun⟩:=hF f C hC;have hc:a.eval c= .func (.func f) #[] #[]:=h.ev c (Ao hf);have hrun:(execOp a.eval o).run E.P w= .ok (.enter f (args.map a.eval)) w:=by simp only[execOp,ho,resolve,Sem.run_bind,hc,Deferred.ofValue,Sem.run_pure,Result.andThen_ok,invoke];rw[hcall];simp
   obtain⟨D,m,O,q1,q2,q4,q5,q6⟩:=h;obtain⟨⟨b,β,hrel⟩,hlt⟩:=q1;unfold Oper.wp;rw[hrun];have q1:Now E n D O m s.st a w:=⟨⟨b,β,hrel⟩,hlt⟩;refine(hfun m w (args.map a.eval) _ s.H R hr hdat (by simpa using jd hrel args.toList hdat) (fun g ob hg=>⟨(q2 g ob hg).2.1,(q2 g ob hg).2.2.1,(q2 g ob hg).2.2.2.2⟩) q1.J hrel.glob).mono ?_;rintro e w' ⟨v,m',u,H',rfl,hv,hR,hs,hH⟩;obtain⟨_,O',k1,k2,k3,k4,k5⟩:=HoldX.stepped hE q1 q2 q4 q5 q6 hs hH;refine hK (a.put o.dst v) w' u H' hR ?_;cases hdst:o.dst with
   |none=>exact⟨D,m',O',k1,k2,k3,k4,k5⟩
   |some d=>exact⟨D,m',O',k1.put (hd d hdst) hv,k2,k3,k4,k5⟩
 . --a method
   rename_i x name args ts ho;unfold y4 at hT;split at hT
   case h_2=>cases hT
   rename_i t v hx;split at hT
   case h_2=>cases hT
   rename_i C hC;cases hT;obtain⟨hdat,hr⟩:=hr;have hx':=h.ev x hx;obtain⟨D,m,O,q1,q2,q4,q5,q6⟩:=h;obtain⟨⟨b,β,hrel⟩,hlt⟩:=q1;have q1:Now E n D O m s.st a w:=⟨⟨b,β,hrel⟩,hlt⟩;obtain⟨f,rc,hcall,hdo⟩:=hI t name C hC m w v (args.map a.eval) _ s.H R hr hdat (by simpa using jd hrel args.toList hdat) (fun g ob hg=>⟨(q2 g ob hg).2.1,(q2 g ob hg).2.2.1,(q2 g ob hg).2.2.2.2⟩) q1.J hrel.glob;have hrun:(execOp a.eval o).run E.P w= .ok (.enter f (#[rc]++args.map a.eval)) w:=by
    have e0:(#[Value.iface t v]++args.map a.eval)[0]?=some (.iface t v):=by rw[aar A0l];rfl
    have e1:(#[Value.iface t v]++args.map a.eval).extract 1 (#[Value.iface t v]++args.map a.eval).size=args.map a.eval:=by apply aae.1;simp;exact ZX A0l
    simp only[execOp,ho,resolve,Sem.run_bind,hx',Sem.run_pure,Result.andThen_ok,invoke,e0,e1];exact hcall
   unfold Oper.wp;rw[hrun];refine Calls.mono hdo ?_;rintro e w' ⟨v,m',u,H',rfl,hv,hR,hs,hH⟩;obtain⟨_,O',k1,k2,k3,k4,k5⟩:=HoldX.stepped hE q1 q2 q4 q5 q6 hs hH;refine hK (a.put o.dst v) w' u H' hR ?_;cases hdst:o.dst with
   |none=>exact⟨D,m',O',k1,k2,k3,k4,k5⟩
   |some d=>exact⟨D,m',O',k1.put (hd d hdst) hv,k2,k3,k4,k5⟩
 . -- append
   rename_i args ts ho;split at hT
   case h_2=>cases hT
   rename_i x y t t' hargs hts;split at hT
   case h_2=>cases hT
   rename_i ht;obtain rfl:=ZO ht;unfold y5 at hT;split at hT
   case h_2=>cases hT
   rename_i v z tok hx hy;cases hT;obtain⟨hap,es,hrow,hlen,hr⟩:=hr;unfold Hr at hap;split at hap
   case h_2=>cases hap
   rename_i el hel;split at hap
   case h_2=>cases hap
   rename_i inf hinf;split at hap
   case h_2=>cases hap
   rename_i zv hzv;obtain⟨s1,s2,s3⟩:=ZO hap;have ha:args= #[x,y]:=aae.1 hargs;have ht:ts= #[t,t]:=aae.1 hts;subst ha ht;have hx':=h.ev x hx;obtain⟨m1,hv⟩:=h.rdx y hy rfl;have hv':Rd m1 w (a.eval y) (.sl false 1 [.x (.int .i64 z)] none):=by
    have:=hv.bare
    rwa [dq] at this
   obtain⟨v',w',g,ob,h1,h2,h3,h4,h5,h6,h7,h8,h9,h10⟩:=uV (ty:=o.type) hel hinf s1 hzv s2 s3 hrow (fun g ob hg=>h.at hg) hv' hlen;have hg:blkOf v=some g∨s.H g=none:=h9.imp id fun hle=>by
    cases e:s.H g with
    |none=>rfl
    |some ob'=>exact absurd (ae (h.at e)) (Z4.2 hle)
   have hw:HoldX E n B ⟨s.st,upd s.H g (some ob)⟩ a w':=by
    refine h.wrote hE h2 h3 h4 h5 (fun k hk hn=>h8 k hk (fun e=>?_)) (fun g' ob' hg'=>?_)
    . subst e;rcases h9 with h9|h9
      . rcases hrow with⟨_,rfl⟩|⟨g0,cap,cur,ty,rfl,hH0,_⟩
        . cases h9
        . cases h9;rw[hH0] at hn;cases hn
      . exact absurd hk (Z4.2 h9)
    . by_cases e:g'=g
      . subst e;rw[ai] at hg';cases hg';refine⟨h7,h9.imp (fun h9=>?_) id⟩;rcases hrow with⟨_,rfl⟩|⟨g0,cap,cur,ty,rfl,hH0,_⟩
        . cases h9
        . cases h9;rw[hH0];simp
      . rw[ag _ _ e] at hg';have hat:=h.at hg';exact⟨(h8 g' (ae hat) e).trans hat,.inl (by rw[hg'];simp)⟩
   unfold Oper.wp;have hrun:(execOp a.eval o).run E.P w= .ok (.value v') w':=by simp only[execOp,ho,resolve,Sem.run_bind,Sem.run_pure,Result.andThen_ok,invoke,builtin];rw[show Array.map a.eval #[x,y]= #[v,a.eval y] from by simp[hx'],h1];rfl
   rw[hrun];exact hK _ _ _ _ (hr v' g ob h6 hg (h10 _ (ai _ _ _))) (hw.put hd (fun m=> .x _))
 . --a row's beginning
   rename_i t x k ho;unfold rO at hT;split at hT
   case h_2=>cases hT
   rename_i g off len cap kk i hx hk;cases hT;obtain⟨z,hz,⟨h0,hl⟩,hr⟩:=cI hr;unfold pj at hz;split at hz
   case h_2=>cases hz
   rename_i el hel;obtain⟨j,rfl⟩:=aaf h0;refine vv h hd hK ?_ (fun m=> .x _) hr;have hb:(Instr.sliceBounds true len cap none (some (Value.int kk (j:Int))) none).run E.P w= .ok (0,j,cap) w:=by simp[Instr.sliceBounds,ck _ (show j<=cap by omega)]
   simp only[execOp,ho,h.ev x hx,h.ev k hk,Instr.sliceAt,Sem.run_bind,ax hel,Result.andThen_ok,Instr.slice,abk,aah,hb,bv hz,Sem.run_pure];congr 2;cases cap<;>simp[aK]
 . --makeInterface
   rename_i t x ho;unfold og at hT;split at hT
   case h_2=>cases hT
   rename_i v hx;cases hT;obtain⟨hni,hr⟩:=hr;refine vv h hd hK ?_ (fun m=> .x _) hr;unfold pk at hni;split at hni
   . cases hni
   . rename_i ty hty hne;simp only[execOp,ho,h.ev x hx,Instr.makeInterface,Sem.run_bind,ax hne,Result.andThen_ok,Sem.run_pure]
   . cases hni
 . --typeAssert
   rename_i x t0 t ok ho;split at hT
   case h_2=>cases hT
   unfold lB at hT;split at hT
   case h_2=>cases hT
   rename_i t' v hx;cases hT;obtain⟨⟨hni,rfl⟩,hr⟩:=hr;refine vv h hd hK ?_ (fun m=> .x _) hr;unfold pk at hni;split at hni
   . cases hni
   . rename_i ty hty hne;simp only[execOp,ho,h.ev x hx,Instr.typeAssert,Sem.run_bind,ax hne,Result.andThen_ok,Sem.run_pure,ZD,ZK,Zz]
   . cases hni
 . --a row becomes data
   rename_i x ho;split at hT
   case h_2=>cases hT
   exact Te hE h hd hK hT hr (by simp[execOp,ho])
 . rename_i x ho;split at hT
   case h_2=>cases hT
   exact Te hE h hd hK hT hr (by simp[execOp,ho])
 . cases hT
theorem lF (hE:EnvOK E) (hF:∀f C,F.F f=some C->cn E f C) (hI:∀t name C,F.I t name=some C->im E t name C) {ops:Array Oper} {K':XS->Prop} {i:Nat} (hi:ops[i]?=some o) (hdo:∀k,o.dst=some k->k<n) (h:HoldX E n B s a w) (hx:d9 E F ops [o] s K') (hK:∀s' a' w',K' s'->HoldX E n B s' a' w'->K a' w'):wpOpIn (aX r) 0 E.P ops Q i K a w:=by
 rw[kB] at hx;unfold wpOpIn;rw[hi];simp only;cases hb:bK ops s.st.t o.guard with
 |none=>rw[hb] at hx;exact hx.elim
 | some b=>
   rw[hb] at hx;have hw:=(match h with|⟨_,_,_,⟨⟨_,_,hrel⟩,_⟩,_⟩=>eV hrel hb);rw[hw];cases b with
   | true=>
     simp only[ZD];rw[oj] at hx;cases hT:pn E.P F o (ev E s.st) s.H with
     |some T=>rw[hT] at hx;refine qP r (fun c e=>?_) (zn hE hF hI h hT hdo hx (fun a' w' v H' hR h'=>hK _ a' w' hR h'));unfold pn at hT;rw[e] at hT;cases hT
     | none=>
       rw[hT,oi] at hx;cases he:dg E o s.st with
       |none=>rw[he] at hx;exact hx.elim
       |some st'=>rw[he] at hx;exact qP r (jB he) (Tc hE h he hdo (fun a' w' h'=>hK _ a' w' hx h'))
   |false=>simp only[ZK,Zz];rw[mj] at hx;exact⟨fun _ _=>trivial,hK _ _ _ hx (by have:=h.put hdo (u:= .x (.tuple #[])) (v:= .tuple #[]) (fun m=> .x _);rwa [cM] at this)⟩
theorem om (hE:EnvOK E) (hF:∀f C,F.F f=some C->cn E f C) (hI:∀t name C,F.I t name=some C->im E t name C) {ops:Array Oper} {K:XS->Prop} {Q:Exit->Act->World->Prop} (hQ:∀s' a' w',K s'->HoldX E n B s' a' w'->Q .normal a' w'):
 ∀(l:List Oper) (is:List Nat) (s:XS) (a:Act) (w:World),(∀j:Nat,(is[j]?).bind (ops[·]?)=l[j]?)->is.length=l.length->bl n l=true->HoldX E n B s a w->d9 E F ops l s K->wpOpsIn (aX r) 0 E.P ops Q is a w
 | [],is,s,a,w,_,hl,_,h,hx=>by
   cases is with
   |nil=>exact hQ _ _ _ hx h
   |cons i is=>simp at hl
 | o ::l,is,s,a,w,hj,hl,hd,h,hx=>by
   cases is with
   |nil=>simp at hl
   | cons i is=>
     rw[wpOpsIn_cons];have hi:ops[i]?=some o:=by simpa using hj 0
     have hdl:bl n l=true:=by simp only[bl,aap,Zq] at hd;exact hd.2
     rw[Ht] at hx;exact lF hE hF hI hi (c8 hd (o:=o) A0l) h hx (fun s' a' w' hx' h'=>om hE hF hI hQ l is s' a' w' (fun j=>by simpa using hj (j+1)) (by simpa using hl) hdl h' hx')
theorem zo (hE:EnvOK E) (hm:E.P.follows .mixedOrders=true) (hF:∀f C,F.F f=some C->cn E f C) (hI:∀t name C,F.I t name=some C->im E t name C) {ops:List Oper} {K:XS->Prop} {Q:Exit->Act->World->Prop} (hQ:∀s' a' w',K s'->HoldX E n B s' a' w'->Q .normal a' w') {id:Nat} (hd:bl n ops=true) (h:HoldX E n B s a w) (hx:Dw E F ops s K):(Code.region id ⟨ops⟩ true).wpIn (aX r) 0 E.P Q a w:=by
 obtain⟨need,I,val0,hok,hps,hI0,hstep,hend⟩:=hx;refine uX hm hok (fun L a w=>∃H val bx,I L H val bx∧HoldX E n B ⟨I6 s.st val ops L bx,H⟩ a w) ?_ (fun a w ⟨H,val,bx,h1,h2⟩=>?_) ⟨s.H,val0,s.st.b,hI0,by unfold I6;rw[Ms];exact h.drew hE⟩
 . rintro L i o a w K' ho hr hcl ⟨H,val,bx,h1,h2⟩ hK;obtain⟨hb,hdd⟩:=lz ho hr;refine lF hE hF hI (by simpa using ho) (fun k hk=>c8 hd (Zo ho) k hk) h2 (hstep L i o H val bx ho hb hdd hcl h1 (fun k hk=>?_)) (fun s' a' w' ⟨val',hv,bx',hI',hle⟩ h'=>hK a' w' ⟨s'.H,val',bx',hI',(h'.le hle).le (st':=I6 s.st val' ops (L|||2^i) bx') ⟨fun k=>?_,fun s cs h=>⟨cs,h,fp cs⟩⟩⟩)
   . refine eF ?_;have h3:=Zw.1 hps i (ZT.2 (tl.1 ho).1);rw[ho] at h3;obtain⟨j,hj,hjk⟩:=aaF.1 (Zw.1 h3 k hk);unfold ce;refine aaF.2 ⟨j,ZT.2 ?_,by rw[hdd j hj,aaY];exact hjk⟩;unfold ij at hjk;split at hjk
     . rename_i o' ho';exact(tl.1 ho').1
     . cases hjk
   . have h1:=(A7 (st:=s.st) (L:=L) ho hv).t k;unfold za;cases hdst:o.dst with
     |none=>rw[hdst] at h1;exact h1
     |some d=>rw[hdst] at h1;exact h1
 . obtain⟨ts,bs,q1,q2,hk⟩:=hend H val bx h1;exact hQ _ a w hk (h2.le (aG q1 q2))
def vw (any anyX PX:Nat->Bool) (n:Nat):Code->Bool
 | .region id ops d=>bl n ops.toList&&(!d||(anyX id||(any id||qS ops)))
 | .seq a b=>(match a with| .region id _ _=>PX id|_=>false)||(vw any anyX PX n a&&vw any anyX PX n b)
 | .cond _ a b=>vw any anyX PX n a&&vw any anyX PX n b
 | .block _ a=>vw any anyX PX n a
 | .loop a=>vw any anyX PX n a
 |_=>true
def Hz (E:Env) (n:Nat) (B:Xb) (K:Out->XS->Prop) (e:Exit) (a:Act) (w:World):Prop:=∃o s,d6 e=some o∧K o s∧HoldX E n B s a w
def oo (E:Env) (n:Nat) (r:Option Nat) (p:Code×(XS->(Out->XS->Prop)->Prop)):Prop:=∀(B:Xb) (s:XS) (K:Out->XS->Prop) (a:Act) (w:World),HoldX E n B s a w->p.2 s K->p.1.wpIn (aX r) 0 E.P (Hz E n B K) a w
theorem j3 (hE:EnvOK E) (hm:E.P.follows .mixedOrders=true) (hF:∀f C,F.F f=some C->cn E f C) (hI:∀t name C,F.I t name=some C->im E t name C) (hP:∀id p,F.P id=some p->oo E n r p):∀(c:Code) (K:Out->XS->Prop) (s:XS) (a:Act) (w:World),vw E.any F.any (fun id=>(F.P id).isSome) n c=true->HoldX E n B s a w->cv E F c s K->c.wpIn (aX r) 0 E.P (Hz E n B K) a w:=by
 intro c
 induction c with
 |skip=>intro K s a w _ h hr;exact wpIn_skip ⟨.normal,s,rfl,hr,h⟩
 | region id ops d=>
   intro K s a w hok h hr;simp only[vw,Zq] at hok;cases d with
   | true=>
     unfold cv at hr;cases ha:F.any id with
     |true=>rw[ha] at hr;exact zo (ops:=ops.toList) hE hm hF hI (fun s' a' w' hk h'=>⟨.normal,s',rfl,hk,h'⟩) hok.1 h hr
     |false=>rw[ha] at hr hok;exact wpIn_mono (Oj (r:=r) hE hm (by simp only[aZ,Zq];exact hok) h hr) (fun e a' w' ⟨o,st',h1,h2,h3⟩=>⟨o,_,h1,h2,h3⟩)
   | false=>
     refine wpIn_region (om hE hF hI (fun s' a' w' hk h'=>⟨.normal,s',rfl,hk,h'⟩) ops.toList _ s a w (fun j=>?_) A0l hok.1 h hr);rcases aac j ops.size with h'|h'
     . rw[aav h'];simp
     . rw[ZM (by simpa using h')];simp[h']
 | seq x y ihx ihy=>
   intro K s a w hok h hr;cases hp:ea F x with
   | some p=>
     have hid:∃id,F.P id=some p:=by
      unfold ea at hp;split at hp
      . exact⟨_,hp⟩
      . cases hp
     obtain⟨id,hid⟩:=hid;unfold cv at hr;rw[hp] at hr;obtain⟨he,hW⟩:p.1= .seq x y∧p.2 s K:=hr;exact he▸hP id p hid B s K a w h hW
   |none=>
   have hok:vw E.any F.any (fun id=>(F.P id).isSome) n x=true∧vw E.any F.any (fun id=>(F.P id).isSome) n y=true:=by
    simp only[vw,aaG,Zq] at hok;rcases hok with hok|hok
    . unfold ea at hp;split at hok
      . simp only at hp;rw[hp] at hok;cases hok
      . cases hok
    . exact hok
   unfold cv at hr;rw[hp] at hr;replace hr:cv E F x s (fun o s'=>match o with| .normal=>cv E F y s' K|o=>K o s'):=hr;refine wpIn_seq (wpIn_mono (ihx _ s a w hok.1 h hr) ?_);rintro e a' w' ⟨o,s',ho,hk,h'⟩;cases e<;>simp only[d6,ZR,reduceCtorEq] at ho<;>subst ho
   all_goals first|exact ihy K s' a' w' hok.2 h' hk|exact⟨_,s',rfl,hk,h'⟩
 | cond c x y ihx ihy=>
   intro K s a w hok h hr;simp only[vw,Zq] at hok;unfold cv at hr;split at hr
   . rename_i t ht;exact wpIn_cond_split (h.ev c ht) (fun e=>ihx K s a w hok.1 h (hr.1 e)) (fun e=>ihy K s a w hok.2 h (hr.2 e))
   . exact hr.elim
 | block id x ih=>
   intro K s a w hok h hr;refine wpIn_block (wpIn_mono (ih _ s a w hok h hr) ?_);rintro e a' w' ⟨o,s',ho,hk,h'⟩;cases e<;>simp only[d6,ZR,reduceCtorEq] at ho<;>subst ho<;>first|exact⟨_,s',rfl,hk,h'⟩|skip
   rename_i id';simp only[Exit.inBlock] at hk⊢;by_cases hid:id'=id
   . simp only[hid,ZD] at hk⊢;exact⟨_,s',rfl,hk,h'⟩
   . simp only[hid,Zz] at hk⊢;exact⟨_,s',rfl,hk,h'⟩
 | loop x ih=>
   intro K s a w hok h hr;obtain⟨X,T,B',J,μ,x0,⟨h0,hJ0⟩,hround⟩:=hr;let S:Act->World->Nat->Prop:=fun a' w k=>∃x H,μ x=k∧J x H∧HoldX E n B ⟨am (T x) (B' x),H⟩ a' w
   let ν:Act->World->Nat:=fun a w=>Classical.epsilon fun k=>S a w k∧∀j,S a w j->k<=j
   have hspec:∀a w,(∃k,S a w k)->S a w (ν a w)∧∀j,S a w j->ν a w<=j:=fun a w ⟨k,hk⟩=>aci (Ay _ k hk)
   refine wpIn_loop (fun a w=>∃k,S a w k) ν ⟨_,x0,s.H,rfl,hJ0,h.le h0⟩ ?_;intro a1 w1 hS;obtain⟨x,H,hx,hJ,hrel⟩:=(hspec a1 w1 hS).1;refine wpIn_mono (ih _ ⟨am (T x) (B' x),H⟩ a1 w1 hok hrel (hround x H hJ)) ?_;rintro e a' w' ⟨o,s',ho,hk,h'⟩;cases e<;>simp only[d6,ZR,reduceCtorEq] at ho<;>subst ho<;>first|exact⟨_,s',rfl,hk,h'⟩|skip
   obtain⟨x',⟨q1,q2,hJ'⟩,hlt⟩:=hk;have hS':S a' w' (μ x'):=⟨x',s'.H,rfl,hJ',h'.le (aG q1 q2)⟩;refine⟨⟨_,hS'⟩,?_⟩;have:ν a' w'<=μ x':=(hspec a' w' ⟨_,hS'⟩).2 _ hS';omega
 |label l=>intro K s a w _ h hr;exact wpIn_label ⟨.normal,s,rfl,hr,h⟩
 |exit id=>intro K s a w _ h hr;exact wpIn_exit ⟨_,s,rfl,hr,h⟩
 |ret=>intro K s a w _ h hr;exact wpIn_ret ⟨_,s,rfl,hr,h⟩
 |_=>intro K s a w _ h hr;simp[cv] at hr
def Ol (E:Env) (rs:List ResultVar) (T:V->HH->Prop):Out->XS->Prop
 | .exit _,_=>False
 |_,s=>iD (dW E s.st rs) fun r=>T r s.H
def HA (r:V) (H:HH) (T:V->HH->Prop):Prop:=∃(Z:Nat->Bool) (u:V),(∀m w v,(∀g ob,H g=some ob->w.heap[g]?=some ob)->(∀g,Z g=true->H g≠none->m g=none)->Rd m w v r->Rd m w v u)∧T u (fun g=>if Z g=true then none else H g)
def Om (E:Env) (rs:List ResultVar) (T:V->HH->Prop):Out->XS->Prop
 | .exit _,_=>False
 |_,s=>iD (dW E s.st rs) fun r=>HA r s.H T
theorem vx {D:List Deferred} (hE:EnvOK E) {fn:Func} {R:Ending->World->Prop} (hK:E.K<=B.ws.heap.size)
 (hR:∀(w:World) (m:Lim) (O:Nat->Prop),Now E n D O m s.st a w->(∀g ob,s.H g=some ob-> ¬O g∧w.heap[g]?=some ob∧m g=some 0∧(B.ws.heap.size<=g∨B.X g)∧E.K<=g)->Step B.X B.ms B.ws m w->∃v,(results fn a.tmps).run E.P w= .ok v w∧R (.returned v) w):∀(D':List Deferred) (w:World) (m:Lim) (O:Nat->Prop),Now E n D O m s.st a w->(∀g ob,s.H g=some ob-> ¬O g∧w.heap[g]?=some ob∧m g=some 0∧(B.ws.heap.size<=g∨B.X g)∧E.K<=g)->Step B.X B.ms B.ws m w->lE D' O B.ws.heap.size w s.H->LeavesInM (aX none) 0 E.P fn a.tmps R D' .returning w
 |[],w,m,O,h1,h2,h3,h4=>hR w m O h1 h2 h3
 | d::D',w,m,O,h1,h2,h3,h4=>by
   obtain⟨b,rfl,q1,q2,q3,q4⟩:=h4.2 d (ZP ..);have hs:Step (fun k=>k=b) m w m (w.putObj b (.deferred none)):=Step.mark q2;have hJ:E.J (w.putObj b (.deferred none)):=hE.keep [b] _ _ (fun x hx=>by rw[Zn.1 hx];exact ZL hK q1) h1.J (hs.bel (fun k _ e=>Zn.2 e));have hnb:=(ZZ.1 h4.1).1;refine⟨ A0F,.inl ⟨b,_,rfl,run_takeDeferred q2,vx hE hK hR D' _ m O (h1.other hs (fun k hk e=>q3 (e▸hk)) hJ) (fun g ob hg=>?_) (h3.next hs (fun i hi e=>absurd hi (Z4.2 (e▸q1)))) ⟨(ZZ.1 h4.1).2,fun x hx=>?_⟩⟩⟩
   . obtain⟨r1,r2,r3⟩:=h2 g ob hg;exact⟨r1,(World.putObj_heap_other (fun e=>by rw[e,q4] at hg;cases hg)).trans r2,r3⟩
   . obtain⟨b',rfl,r1,r2,r3,r4⟩:=h4.2 x (ZI _ hx);exact⟨b',rfl,r1,(World.putObj_heap_other (fun e=>hnb (by rw[e] at hx;exact hx))).trans r2,r3,r4⟩
theorem HoldX.leaves (hE:EnvOK E) (h:HoldX E n B s a w) {fn:Func} {R:Ending->World->Prop} (hK:E.K<=B.ws.heap.size)
 (hR:∀(D:List Deferred) (w:World) (m:Lim) (O:Nat->Prop),Now E n D O m s.st a w->(∀g ob,s.H g=some ob-> ¬O g∧w.heap[g]?=some ob∧m g=some 0∧(B.ws.heap.size<=g∨B.X g)∧E.K<=g)->Step B.X B.ms B.ws m w->∃v,(results fn a.tmps).run E.P w= .ok v w∧R (.returned v) w):LeavesInM (aX none) 0 E.P fn a.tmps R a.defers .returning w:=by
 obtain⟨D,m,O,q1,q2,q4,q5,q6⟩:=h;have hd:a.defers=D:=by obtain⟨_,_,hr⟩:=q1.rel;exact hr.defers
 rw[hd];exact vx hE hK (hR D) D w m O q1 q2 q5 q6.2
theorem HB (hE:EnvOK E) (hm:E.P.follows .mixedOrders=true) (hF:∀f C,F.F f=some C->cn E f C) (hI:∀t name C,F.I t name=some C->im E t name C) (hP:∀id p,F.P id=some p->oo E n none p) {f:FuncId} {fn:Func} {c:Code} {C:List V->HH->Tr} {k:Nat} (hf:E.P.funcs[f]?=some fn) (hb:fn.body=some c) (hcall:∀args w,(callFunc f args).run E.P w= .ok (.enter f args) w) (hn:fn.ntmps=n) (hk:k<=n) (hn1:n<=1000) (hok:vw E.any F.any (fun id=>(F.P id).isSome) n c=true)
 (hbody:∀us H T,C us H T->us.all V.dat=true->us.length=k∧cv E F c ⟨start us,H⟩ (Ol E fn.results.toList T)):cn E f C:=by
 refine⟨hcall,fun m w vs us H T hC hdat hr hH hj hg=>?_⟩;obtain⟨hl,hrun⟩:=hbody us H T hC hdat;refine bH.1 (callsIn_of_wp_marks (F:=aX none) (n:=0) hf hb trivial ?_);rw[hn];let B:Xb:=⟨fun k=>H k≠none,Kno.top,m,w⟩
 have h0:HoldX E n B ⟨start us,H⟩ {tmps:=vs++Array.replicate (n-vs.size) Go.undef,defers:=[]} w:=
  ⟨[],m,_,Now.first (fg hr hdat hl hk hn1 hj hg),fun g ob e=>⟨fun h=>h.elim,(hH g ob e).1,(hH g ob e).2.1,.inr A1h,(hH g ob e).2.2⟩,fun _ h=>h.elim,Step.refl _ _ _,trivial,Z8,fun d hd=>by cases hd⟩
 refine wpIn_mono (j3 (r:=none) hE hm hF hI hP c _ _ _ _ hok h0 hrun) ?_;rintro e a' w' ⟨o,s',ho,hk,hX⟩;have fin:(∃r,dW E s'.st fn.results.toList=some r∧T r s'.H)->LeavesInM (aX none) 0 E.P fn a'.tmps (fun e w'=>∃v m' r H',e= .returned v∧Rd m' w' v r∧T r H'∧Step (fun k=>H k≠none) m w m' w'∧∀g ob,H' g=some ob->w'.heap[g]?=some ob∧m' g=some 0∧(H g≠none∨w.heap.size<=g)) a'.defers .returning w':=by
  rintro⟨r,hres,hT⟩;refine hX.leaves hE (hE.high _ hj) fun D w' m1 O q1 q2 q5=>?_
  obtain⟨b,β,hrel⟩:=q1.rel;obtain⟨v,hv,hd⟩:=ft hrel hres;exact⟨v,hv,v,m1,r,s'.H,rfl,hd,hT,q5,fun g ob hg=>⟨(q2 g ob hg).2.1,(q2 g ob hg).2.2.1,(q2 g ob hg).2.2.2.1.elim .inr .inl⟩⟩
 cases e<;>simp only[d6,ZR,reduceCtorEq] at ho<;>subst ho
 all_goals first|exact fin (cI hk)|exact hk.elim
theorem cf (hE:EnvOK E) (hm:E.P.follows .mixedOrders=true) (hF:∀f C,F.F f=some C->cn E f C) (hI:∀t name C,F.I t name=some C->im E t name C) {f:FuncId} {fn:Func} {c:Code} {C:List V->HH->Tr} {k:Nat} (hf:E.P.funcs[f]?=some fn) (hb:fn.body=some c) (hcall:∀args w,(callFunc f args).run E.P w= .ok (.enter f args) w) (hn:fn.ntmps=n) (hk:k<=n) (hn1:n<=1000) (hok:vw E.any F.any (fun id=>(F.P id).isSome) n c=true)
 (hbody:∀us H T,C us H T->us.all V.dat=true->us.length=k∧cv E F c ⟨start us,H⟩ (Ol E fn.results.toList T)) (hP:∀id,F.P id=none:=by intro _;rfl):cn E f C:=
 HB hE hm hF hI (fun id p h=>by rw[hP] at h;cases h) hf hb hcall hn hk hn1 hok hbody
theorem vy (hE:EnvOK E) (hm:E.P.follows .mixedOrders=true) (hF:∀f C,F.F f=some C->cn E f C) (hI:∀t name C,F.I t name=some C->im E t name C) (hP:∀id p,F.P id=some p->oo E n none p) {f:FuncId} {fn:Func} {c:Code} {C:List V->HH->Tr} {k:Nat} (hf:E.P.funcs[f]?=some fn) (hb:fn.body=some c) (hcall:∀args w,(callFunc f args).run E.P w= .ok (.enter f args) w) (hn:fn.ntmps=n) (hk:k<=n) (hn1:n<=1000) (hok:vw E.any F.any (fun id=>(F.P id).isSome) n c=true)
 (hbody:∀us H T,C us H T->us.all V.dat=true->us.length=k∧cv E F c ⟨start us,H⟩ (Om E fn.results.toList T)):cn E f C:=by
 refine⟨hcall,fun m w vs us H T hC hdat hr hH hj hg=>?_⟩;obtain⟨hl,hrun⟩:=hbody us H T hC hdat;refine bH.1 (callsIn_of_wp_marks (F:=aX none) (n:=0) hf hb trivial ?_);rw[hn];let B:Xb:=⟨fun k=>H k≠none,Kno.top,m,w⟩
 have h0:HoldX E n B ⟨start us,H⟩ {tmps:=vs++Array.replicate (n-vs.size) Go.undef,defers:=[]} w:=
  ⟨[],m,_,Now.first (fg hr hdat hl hk hn1 hj hg),fun g ob e=>⟨fun h=>h.elim,(hH g ob e).1,(hH g ob e).2.1,.inr A1h,(hH g ob e).2.2⟩,fun _ h=>h.elim,Step.refl _ _ _,trivial,Z8,fun d hd=>by cases hd⟩
 refine wpIn_mono (j3 (r:=none) hE hm hF hI hP c _ _ _ _ hok h0 hrun) ?_;rintro e a' w' ⟨o,s',ho,hk,hX⟩;have fin:(∃r,dW E s'.st fn.results.toList=some r∧HA r s'.H T)->LeavesInM (aX none) 0 E.P fn a'.tmps (fun e w'=>∃v m' r H',e= .returned v∧Rd m' w' v r∧T r H'∧Step (fun k=>H k≠none) m w m' w'∧∀g ob,H' g=some ob->w'.heap[g]?=some ob∧m' g=some 0∧(H g≠none∨w.heap.size<=g)) a'.defers .returning w':=by
  rintro⟨r,hres,Z,u,hZ,hT⟩;refine hX.leaves hE (hE.high _ hj) fun D w' m1 O q1 q2 q5=>?_
  obtain⟨b,β,hrel⟩:=q1.rel;obtain⟨v,hv,hd⟩:=ft hrel hres;have hs:Step (fun k=>s'.H k≠none) m1 w' (fun k=>if Z k=true∧s'.H k≠none then none else m1 k) w':=by
   refine⟨rfl,rfl,rfl,⟨Zt _,fun b off v hlt hm hc=>hc,fun b hlt fr' hf=>?_,fun b es c hm hc=>hc⟩,fun k hk hn=>⟨rfl,Zs (fun h=>hn h.2)⟩⟩;split at hf
   . cases hf
   . exact⟨fr',hf,Zt _⟩
  refine⟨v,hv,v,_,u,_,rfl,hZ _ w' v (fun g ob hg=>(q2 g ob hg).2.1) (fun g h1 h2=>Zp ⟨h1,h2⟩) (hd.mono hs.ext),hT,q5.next hs (fun i hi e=>?_),fun g ob hg=>?_⟩
  . cases e':s'.H i with
    |none=>exact absurd e' e
    |some ob=>exact(q2 i ob e').2.2.2.1.resolve_left (abh.2 hi)
  . split at hg
    . cases hg
    . rename_i hz;exact⟨(q2 g ob hg).2.1,by rw[Zs (fun h=>hz h.1)];exact(q2 g ob hg).2.2.1,(q2 g ob hg).2.2.2.1.elim .inr .inl⟩
 cases e<;>simp only[d6,ZR,reduceCtorEq] at ho<;>subst ho
 all_goals first|exact fin (cI hk)|exact hk.elim
theorem kC (hE:EnvOK E) (hm:E.P.follows .mixedOrders=true) (hF:∀f C,F.F f=some C->cn E f C) (hI:∀t name C,F.I t name=some C->im E t name C) {f:FuncId} {fn:Func} {c:Code} {C:List V->HH->Tr} {k:Nat} (hf:E.P.funcs[f]?=some fn) (hb:fn.body=some c) (hcall:∀args w,(callFunc f args).run E.P w= .ok (.enter f args) w) (hn:fn.ntmps=n) (hk:k<=n) (hn1:n<=1000) (hok:vw E.any F.any (fun id=>(F.P id).isSome) n c=true)
 (hbody:∀us H T,C us H T->us.all V.dat=true->us.length=k∧cv E F c ⟨start us,H⟩ (Om E fn.results.toList T)) (hP:∀id,F.P id=none:=by intro _;rfl):cn E f C:=
 vy hE hm hF hI (fun id p h=>by rw[hP] at h;cases h) hf hb hcall hn hk hn1 hok hbody
end
variable {E:Env} {F:Fx}
theorem jp {K:XS->Prop} (need:Nat->List Nat) (I:Nat->HH->(Nat->V)->Prop) (val0:Nat->V) (h1:qd ops=true) (h2:((List.range ops.length).all fun i=>(match ops[i]? with|some o=>(need i).all fun k=>(directV o).any (ij ops k)|none=>true))=true) (h3:I 0 s.H val0)
 (h4:∀(L i:Nat) (o:Oper) (H:HH) (val:Nat->V) (st:St),ops[i]?=some o->L.testBit i=false->(∀k∈directV o,L.testBit k=true)->ClosedM ops L->I L H val->(∀k∈need i,st.t k=val k)->(∀k,(ops.all fun o=>o.dst !=some k)=true->st.t k=s.st.t k)->st.b=s.st.b->
  d9 E F ⟨ops⟩ [o] ⟨st,H⟩ fun s'=>∃val',(∀k,o.dst≠some k->val' k=val k)∧I (L|||2^i) s'.H val'∧Le (match o.dst with|some d=>st.put (some d) (val' d)|none=>st) s'.st)
 (h5:∀H val,I (2^ops.length-1) H val->∃ts bs,fH (fh s.st val ops (2^ops.length-1)) ts∧fX (fh s.st val ops (2^ops.length-1)) bs∧K ⟨am ts bs,H⟩):Dw E F ops s K:=by
 refine⟨need,fun L H val bx=>bx=s.st.b∧I L H val,val0,h1,h2,⟨rfl,h3⟩,fun L i o H val bx a b c d ⟨hb,e⟩ f=>?_,fun H val bx ⟨hb,e⟩=>by subst hb;exact h5 H val e⟩;subst hb;have h:=h4 L i o H val (fh s.st val ops L) a b c d e f (fun _ hk=>aq hk) rfl;refine Eq.mp (abo (d9 E F ⟨ops⟩ [o] ⟨fh s.st val ops L,H⟩) (funext fun s'=>propext ⟨?_,?_⟩)) h
 . rintro⟨val',q1,q2,q3⟩;refine⟨val',q1,s.st.b,⟨rfl,q2⟩,?_⟩;unfold za;cases hd:o.dst<;>(rw[hd] at q3;exact q3)
 . rintro⟨val',q1,bx',⟨rfl,q2⟩,q3⟩;refine⟨val',q1,q2,?_⟩;unfold za at q3;cases hd:o.dst<;>(rw[hd] at q3;exact q3)
theorem DF {x:Nat} {val:Nat->V} (h1:noPtrTo x st.t) (h2:noPtrTo x val):noPtrTo x (fh st val ops L).t:=fun k=>by
 show V.nm (if ce ops L k=true then val k else st.t k)≠_;split
 . exact h2 k
 . exact h1 k
variable {bx:Nat->Option (List V)}
theorem kD {val:Nat->V} (h:(ops.all fun o=>o.dst !=some k)=true):(I6 st val ops L bx).t k=st.t k:=aq h
theorem HC {val:Nat->V} (h:ce ops L k=true):(I6 st val ops L bx).t k=val k:=eF h
theorem HD {K:XS->Prop} (need:Nat->List Nat) (I:Nat->HH->(Nat->V)->(Nat->Option (List V))->Prop) (val0:Nat->V) (h1:qd ops=true) (h2:((List.range ops.length).all fun i=>(match ops[i]? with|some o=>(need i).all fun k=>(directV o).any (ij ops k)|none=>true))=true) (h3:I 0 s.H val0 s.st.b)
 (h4:∀(L i:Nat) (o:Oper) (H:HH) (val:Nat->V) (bx:Nat->Option (List V)) (t:Nat->V),ops[i]?=some o->L.testBit i=false->(∀k∈directV o,L.testBit k=true)->ClosedM ops L->I L H val bx->(∀k∈need i,t k=val k)->(∀k,(ops.all fun o=>o.dst !=some k)=true->t k=s.st.t k)->(∀x,noPtrTo x s.st.t->noPtrTo x val->noPtrTo x t)->
  d9 E F ⟨ops⟩ [o] ⟨⟨t,bx⟩,H⟩ fun s'=>∃val',(∀k,o.dst≠some k->val' k=val k)∧∃bx',I (L|||2^i) s'.H val' bx'∧Le (za o.dst ⟨t,bx⟩ val' bx') s'.st)
 (h5:∀H val bx,I (2^ops.length-1) H val bx->∃ts bs,fH (I6 s.st val ops (2^ops.length-1) bx) ts∧fX (I6 s.st val ops (2^ops.length-1) bx) bs∧K ⟨am ts bs,H⟩):Dw E F ops s K:=
 ⟨need,I,val0,h1,h2,h3,fun L i o H val bx a b c d e f=>h4 L i o H val bx (fh s.st val ops L).t a b c d e f (fun _ hk=>aq hk) (fun _=>DF),h5⟩
theorem lG {K:XS->Prop} (need:Nat->List Nat) (val:Nat->V) (ts:List (Nat×V)) (bs:List (Nat×List V)) (h1:qd ops=true) (h2:((List.range ops.length).all fun i=>(match ops[i]? with|some o=>(need i).all fun k=>(directV o).any (ij ops k)|none=>true))=true)
 (h4:∀(st:St) (i:Nat) (o:Oper),ops[i]?=some o->(∀k∈need i,st.t k=val k)->(∀k,(ops.all fun o=>o.dst !=some k)=true->st.t k=s.st.t k)->st.b=s.st.b->d9 E F ⟨ops⟩ [o] ⟨st,s.H⟩ fun s'=>∃val',(∀k,o.dst≠some k->val' k=val k)∧(s'.H=s.H∧val'=val)∧Le (match o.dst with|some d=>st.put (some d) (val' d)|none=>st) s'.st)
 (h5:fH (fh s.st val ops (2^ops.length-1)) ts∧fX (fh s.st val ops (2^ops.length-1)) bs∧K ⟨am ts bs,s.H⟩):Dw E F ops s K:=by
 refine jp need (fun _ H val'=>H=s.H∧val'=val) val h1 h2 ⟨rfl,rfl⟩ ?_ ?_
 . rintro L i o H val' st ho _ _ _ ⟨rfl,rfl⟩ hn hb hbb;exact h4 st i o ho hn hb hbb
 . rintro H val' ⟨rfl,rfl⟩;exact⟨ts,bs,h5.1,h5.2.1,h5.2.2⟩
def vz:List (FuncId×(List V->HH->Tr))->FuncId->Option (List V->HH->Tr)
 |[],_=>none
 |p::l,f=>if p.1=f then some p.2 else vz l f
def Tf (E:Env):List (FuncId×(List V->HH->Tr))->Prop
 |[]=>True
 |p::l=>cn E p.1 p.2∧Tf E l
theorem fD {E:Env}:∀{l:List (FuncId×(List V->HH->Tr))},Tf E l->∀f C,vz l f=some C->cn E f C
 |[],_,f,C,e=>by cases e
 | p::l,h,f,C,e=>by
   unfold vz at e;split at e
   . rename_i hp;subst hp;cases e;exact h.1
   . exact fD h.2 f C e
theorem HE (k:FuncId) (C:List V->HH->Tr) (l:List (FuncId×(List V->HH->Tr))) (f:FuncId):vz ((k,C)::l) f=if k=f then some C else vz l f:=rfl
theorem Lh (f:FuncId):vz [] f=none:=rfl
attribute [go_sem] HE Lh
theorem HF (K:α->Prop):iD none K=False:=rfl
theorem HG (k:IntKind) (i:Int):lA (.x (.int k i))=some [.int k i]:=rfl
theorem DG (b:Bool):lA (.x (.bool b))=some [.bool b]:=rfl
theorem zp (p:Option Addr) (l c:Nat):lA (.x (.slice p l c))=some [.slice p l c]:=rfl
theorem HI (s:ByteArray):lA (.x (.string s))=some [.string s]:=rfl
theorem HJ (p:Option Addr):lA (.x (.pointer p))=some [.pointer p]:=rfl
theorem HK (z:Nat) (es:List V) (t:Option Nat):lA (.sl true z es t)=some [.slice none 0 0]:=rfl
theorem HL (v:Value) (n:Nat):(madeCells #[v] n).toList=List.replicate n v:=by rw[List.eq_replicate_iff];refine⟨by simp[madeCells],fun b hb=>?_⟩;simp only[madeCells,acp,acd,ZA] at hb;obtain⟨x,_,rfl⟩:=hb;simp[Nat.mod_one]
theorem DH (k:IntKind) (i:Int):(Value.int k i).cells= #[.int k i]:=rfl
theorem zq (b:Bool):(Value.bool b).cells= #[.bool b]:=rfl
theorem HM (a:Option Addr) (l c:Nat):(Value.slice a l c).cells= #[.slice a l c]:=rfl
attribute [go_sem] HL DH zq HM
theorem getD_some {α:Type} (a b:α):(some a).getD b=a:=rfl
theorem map_some {α β:Type} (f:α->β) (a:α):(some a).map f=some (f a):=rfl
attribute [go_sem] pp zc ve rQ vf vg vh zd ze zf Hs Dv y6 y7 y8 oi oj mj Dy vb Dz zb vc Hv DA zg DB DC Hw vo Hx DD pq zh vp zi vq
attribute [go_sem] po y9 u7 Du HF HG DG zp HI HJ HK pn rJ oc od yY oe yZ rK rM rO og lB y4 y5 oh Ol Om getD_some map_some
attribute [congr] va vm vd uY uZ u6 vr zj rT zk rP yX
section
variable {P:Program} {w:World} {t:TypeId} {i:TypeInfo} {mt:Method} {name:String} {f:FuncId} {v:Value} {args:Array Value}
variable {e:TypeId}
theorem zs (h0:P.types.size≠0) (hi:P.info? t=some i) (hm:i.methods.find? (·.name==name)=some mt) (hp:mt.path= #[]) (hf:mt.func=some (f,true)) (hu:P.underlying t=some (.pointer e)):(callMethod (.iface t v) name args).run P w=(callFunc f (#[v]++args)).run P w:=by obtain⟨k,hk⟩:∃k,P.types.size+Made.depth=k+1:=⟨P.types.size+Made.depth-1,A0c⟩;simp only[callMethod,Sem.run_bind,run_program,Result.andThen_ok,hk,method,run_typeInfo _ hi,hm,hp,hf,follow,Sem.run_pure,receiverAt,ax hu,Place.get]
variable {off:Nat}
theorem vA {st ix:Nat} {fs:Array Field} {fd:Field} {td:TypeDesc} {r:Value} (h0:P.types.size≠0) (hi:P.info? t=some i) (hm:i.methods.find? (·.name==name)=some mt) (hp:mt.path= #[⟨st,ix,true⟩]) (hf:mt.func=some (f,false)) (hs:P.underlying st=some (.struct fs)) (hfd:fs[ix]?=some fd) (hsz:aY P fd.type=some (k+1)) (ha:aH P fd.type=some false) (hu:P.underlying fd.type=some td) (hnp:∀e,td≠ .pointer e) (hc:w.cell? ⟨g,off+fd.offset,none⟩=some r):
 (callMethod (.iface t (.pointer (some ⟨g,off,none⟩))) name args).run P w=(callFunc f (#[r]++args)).run P w:=by
 obtain⟨k,hk⟩:∃k,P.types.size+Made.depth=k+1:=⟨P.types.size+Made.depth-1,A0c⟩;have hrec:(receiverAt fd.type (.var ⟨g,off+fd.offset,none⟩) false none).run P w= .ok r w:=by simp only[receiverAt,Sem.run_bind,ax hu,Result.andThen_ok];cases td<;>first|exact absurd rfl (hnp _)|simp only[Place.get,loadVar,Sem.run_bind,fk ha,Result.andThen_ok,ZK,Zz,run_load,hc]
 simp only[callMethod,Sem.run_bind,run_program,Result.andThen_ok,hk,method,run_typeInfo _ hi,hm,hp,hf,follow,Sem.run_pure,ax hs,hfd,ZD,Place.get,asAddr,fieldPlace,bv hsz,aK,Nat.add_one_ne_zero,Zz];simp[hrec]
end
def A9 (P:Program) (t:TypeId) (name:String):Option (Array FieldStep×Option (FuncId×Bool)):=match P.info? t with
 |some i=>(i.methods.find? (·.name==name)).map fun m=>(m.path,m.func)
 |none=>none
variable {P:Program} {t:TypeId} {name:String}
theorem vB {p:Array FieldStep} {f:Option (FuncId×Bool)} (h:A9 P t name=some (p,f)):∃i m,P.info? t=some i∧i.methods.find? (·.name==name)=some m∧m.path=p∧m.func=f:=by
 unfold A9 at h;split at h
 case h_2=>cases h
 rename_i i hi;obtain⟨m,hm,e⟩:=Zu.1 h;cases e;exact⟨i,m,hi,hm,rfl,rfl⟩
def On (P:Program) (t:TypeId) (f:Nat):Option (TypeId×Nat):=match P.underlying t with
 |some (.struct fs)=>(fs[f]?).map fun d=>(d.type,d.offset)
 |_=>none
variable {off:Nat}
theorem Li {f ty:Nat} (h:On P t f=some (ty,off)):∃fs d,P.underlying t=some (.struct fs)∧fs[f]?=some d∧d.type=ty∧d.offset=off:=by
 unfold On at h;split at h
 case h_2=>cases h
 rename_i fs hfs;obtain⟨d,hd,e⟩:=Zu.1 h;cases e;exact⟨fs,d,hfs,hd,rfl,rfl⟩
theorem Ba (h:v.oneCell'=true):(V.x v).dat=true:=by cases v<;>first|rfl|cases h
variable {f:FuncId} {e:TypeId}
theorem vC {C':List V->HH->Tr} {C:Value->List V->HH->Tr} (hfun:cn E f C') (h0:E.P.types.size≠0) (hmt:A9 E.P t name=some (#[],some (f,true))) (hu:E.P.underlying t=some (.pointer e))
 (hC:∀v us H T,C v us H T->(V.x v).dat=true∧C' (.x v::us) H T):im E t name C:=by
 intro m w v vs us H T h hdat hr hH hj hg;obtain⟨i,mt,hi,hm,hp,hf⟩:=vB hmt;refine⟨f,v,(zs h0 hi hm hp hf hu).trans (hfun.1 _ w),?_⟩;exact hfun.2 m w (#[v]++vs) (.x v::us) H T (hC _ _ _ _ h).2 (by simp only[aap,hdat,abe];exact(hC _ _ _ _ h).1) (by simpa using⟨Rd.x v,hr⟩) hH hj hg
theorem lH (st ix ty off k:Nat) (td:TypeDesc) {name:String} {C':List V->HH->Tr} {C:Value->List V->HH->Tr} (hfun:cn E f C') (h0:E.P.types.size≠0) (hmt:A9 E.P t name=some (#[⟨st,ix,true⟩],some (f,false))) (hfl:On E.P st ix=some (ty,off)) (hsz:aY E.P ty=some (k+1)) (ha:aH E.P ty=some false) (hu:E.P.underlying ty=some td) (hnp:∀e,td≠ .pointer e)
 (hC:∀v us H T,C v us H T->∃g r l ty,v= .pointer (some ⟨g,0,none⟩)∧H g=some (rowO l ty)∧l[off]?=some r∧(V.x r).dat=true∧C' (.x r::us) H T):im E t name C:=by
 intro m w v vs us H T h hdat hr hH hj hg;obtain⟨i,mt,hi,hm,hp,hf⟩:=vB hmt;obtain⟨fs,fd,hs,hfd,rfl,rfl⟩:=Li hfl;obtain⟨g,r,l,ty,rfl,hl,hx,hd,hC'⟩:=hC _ _ _ _ h;have hh:=(hH g _ hl).1;refine⟨f,r,(vA h0 hi hm hp hf hs hfd hsz ha hu hnp (r:=r) (by rw[Zm,Box.cell hh,aaD];exact hx)).trans (hfun.1 _ w),?_⟩;exact hfun.2 m w (#[r]++vs) (.x r::us) H T hC' (by simp only[aap,hdat,abe];exact hd) (by simpa using⟨Rd.x r,hr⟩) hH hj hg
variable {m m':Lim} {cs:List V}
theorem HN {w:World} (h:BoxAt m w g cs) (he:Ext m w m' w) (hm:m' g=none):Rd m' w (.pointer (some ⟨g,0,none⟩)) (.ip cs):=by
 obtain⟨_,vals,ty,xs,rest,hh,hx,hr⟩:=h;have hr':=hr.mono he;have hl:=hr'.length;refine .ip g 0 cs (fun k=>(xs[k]?).getD Go.undef) (ae hh) (fun k hk=>?_) (fun fr hf=>by rw[hm] at hf;cases hf) (fun k d hd=>?_)
 . rw[Box.cell hh,<-ZG,hx,Zm,Zy A0c,eq A0c];rfl
 . have hk:=(tl.1 hd).1;rw[eq (show k<xs.length by omega)];exact hr'.get k _ _ (eq A0c) hd
def Oo (K:St->Prop):Out->St->Prop
 | .normal,st=>K st
 |_,_=>False
def DI (K:XS->Prop):Out->XS->Prop
 | .normal,s=>K s
 |_,_=>False
theorem vD (K:St->Prop) (st:St):Oo K .normal st=K st:=rfl
theorem vE (K:XS->Prop) (s:XS):DI K .normal s=K s:=rfl
theorem zt (K:XS->Prop) (s:XS) {o o':Out} (h:o=o'):DI K o s=DI K o' s:=by rw[h]
theorem vF:∀(T:List (Nat×V)),(T.all fun p=>p.2.dat)=true->∀i,bM T i= .undef∨(bM T i).dat=true
 |[],_,i=> .inl rfl
 | (k,v)::l,h,i=>by
   simp only[aap,Zq] at h;by_cases e:i=k
   . subst e;exact .inr (by rw[show bM ((i,v)::l) i=v from ai _ _ _];exact h.1)
   . rw[show bM ((k,v)::l) i=bM l i from ag _ _ e];exact vF l h.2 i
section
variable {E:Env} {n:Nat} {B:Xb} {F:Fx} {s:XS} {a:Act} {w w':World} {r:Option Nat}
theorem HoldX.toIp (hMB:∀s,E.MB s=false) (h:HoldX E n B s a w) {i v:Nat} {cs:List V} {st':St} (hi:s.st.t i= .ptr v 0) (hin:i<n) (hb:s.st.b v=some cs) (hl:Le st' s.st) (hbn:st'.b v=none):HoldX E n B ⟨⟨upd st'.t i (.ip cs),st'.b⟩,s.H⟩ a w:=by
 obtain⟨D,m,O,q1,q2,q4,q5,q6⟩:=h;obtain⟨g,hg,hK,hbox,hptr,_,hn⟩:=Now.shed hMB q1 hb hl hbn;have hs:=Step.freeze g m w;have hn':=hn.other hs (fun k hk e=>hk.2 e) q1.J;have hrd:Rd (upd m g none) w (a.tmps.getD i Go.undef) (.ip cs):=by rw[hptr i hi];exact HN hbox hs.ext (ai _ _ _)
 have hn2:=hn'.learn hin hrd;rw[j8] at hn2;refine⟨D,_,_,hn2,fun g' ob hg'=>?_,fun k hk=>q4 k hk.1,q5.next hs (fun i hi e=>by subst e;exact(q4 _ hg).resolve_left (abh.2 hi)),B.Kn.mono _ _ _ _ q6.1 hs.ext,q6.2.1,fun d hd=>?_⟩
 . obtain⟨r1,r2,r3,r4⟩:=q2 g' ob hg';exact⟨fun hk=>r1 hk.1,r2,by rw[ag _ _ (show g'≠g from fun e=>r1 (e.symm▸hg))];exact r3,r4⟩
 . obtain⟨b,rfl,p1,p2,p3,p4⟩:=q6.2.2 d hd;exact⟨b,rfl,p1,p2,fun hk=>p3 hk.1,p4⟩
theorem HoldX.kn {Kn':Kno} (h:HoldX E n {B with Kn:=Kn'} s a w) (hk:∀m w,Kn'.P m w->B.Kn.P m w):HoldX E n B s a w:=by obtain⟨D,m,O,q1,q2,q4,q5,q6⟩:=h;exact⟨D,m,O,q1,q2,q4,q5,hk _ _ q6.1,q6.2⟩
theorem HO (Kn':Kno) {ops:List Oper} {Q:Exit->Act->World->Prop} {i:Nat} {rest:List Nat} {o:Oper} {d:Tmp} {f:FuncId} {args:Array Operand} {ts:Array TypeId} {R:Ending->World->Prop} {u:V} (hi:ops[i]?=some o) (hop:o.op= .call {callee:= .value (.func f),args:=args,argTypes:=ts}) (hd:o.dst=some d) (hdn:d<n) (hg:o.guard=none)
 (hcall:∀args w,(callFunc f args).run E.P w= .ok (.enter f args) w) (h:HoldX E n B s a w)
 (hc:∀m D O,Now E n D O m s.st a w->B.Kn.P m w->Calls E.P f (args.map a.eval) w R)
 (hR:∀m D O,Now E n D O m s.st a w->B.Kn.P m w->∀e w',R e w'->∃v m',e= .returned v∧Step (fun _=>False) m w m' w'∧E.J w'∧Rd m' w' v u∧Kn'.P m' w'∧(HoldX E n {B with Kn:=Kn'} ⟨s.st.put (some d) u.bare,s.H⟩ (a.put (some d) v) w'->wpOpsIn (aX r) 0 E.P ⟨ops⟩ Q rest (a.put (some d) v) w')):wpOpsIn (aX r) 0 E.P ⟨ops⟩ Q (i::rest) a w:=by
 obtain⟨D,m,O,h1,h2,h4,h5,h6⟩:=h;rw[wpOpsIn_cons];unfold wpOpIn;have hi':(⟨ops⟩:Array Oper)[i]?=some o:=A0m
 rw[hi'];simp only;rw[Zp A0u];refine⟨fun _ _=>trivial,?_⟩;rw[Oper.semAt_eq _ _ _ A0G];have hrun:(execOp a.eval o).run E.P w= .ok (.enter f (args.map a.eval)) w:=by simp only[execOp,hop,resolve,Sem.run_bind,Act.eval,Deferred.ofValue,Sem.run_pure,Result.andThen_ok,invoke];simpa using hcall _ _
 rw[hrun];refine⟨(fun e=>by cases e),bH.2 ((hc m D O h1 h6.1).mono ?_)⟩;intro e w' hr;obtain⟨v,m',rfl,hs,hJ,hv,hk,hK⟩:=hR m D O h1 h6.1 e w' hr;show wpOpsIn (aX r) 0 E.P ⟨ops⟩ Q rest (a.put o.dst v) w';rw[hd];refine hK ⟨D,m',O,(h1.other hs (fun _ _ h=>h) hJ).put hdn hv,fun g ob hg=>?_,h4,h5.next hs (fun _ _ h=>h.elim),hk,h6.2.1,fun x hx=>?_⟩
 . obtain⟨r1,r2,r3,r4⟩:=h2 g ob hg;have:=hs.same g (ae r2) (fun h=>h);exact⟨r1,this.1.trans r2,this.2.trans r3,r4⟩
 . obtain⟨b,rfl,p1,p2,p3,p4⟩:=h6.2.2 x hx;exact⟨b,rfl,p1,(hs.same b (ae p2) (fun h=>h)).1.trans p2,p3,p4⟩
theorem oq {o:Oper} {K:Act->World->Prop} {Q:Exit->Act->World->Prop} (hE:EnvOK E) (hF:∀f C,F.F f=some C->cn E f C) (hI:∀t name C,F.I t name=some C->im E t name C) {ops:List Oper} {K':XS->Prop} {i:Nat} (hi:ops[i]?=some o) (hdo:∀k,o.dst=some k->k<n) (h:HoldX E n B s a w) (hx:d9 E F ⟨ops⟩ [o] s K') (hK:∀s' a' w',K' s'->HoldX E n B s' a' w'->K a' w'):wpOpIn (aX r) 0 E.P ⟨ops⟩ Q i K a w:=
 lF hE hF hI A0m hdo h hx hK
variable {D:List Deferred} {O:Nat->Prop} {a':Act}
theorem Now.data {D':List Deferred} {T:List (Nat×V)} (h:Now E n D O m (am T []) a w) (hT:(T.all fun p=>p.2.dat)=true) (ht:a'.tmps=a.tmps) (hd:a'.defers=D'):Now E n D' (fun _=>False) m (am T []) a' w:=by
 obtain⟨⟨b,β,hr⟩,_⟩:=h;have hdt:=vF T hT;have hnot:∀i sz es s,(am T []).t i= .sl false sz es (some s)->False:=by
  intro i sz es s hi;have hi:bM T i=_:=hi;rcases hdt i with e|e
  . rw[e] at hi;cases hi
  . rw[hi] at e;simp[V.dat] at e
 have hnomp:∀i s ks vs,(am T []).t i= .mp s ks vs->False:=by
  intro i s ks vs hi;have hi:bM T i=_:=hi;rcases hdt i with e|e
  . rw[e] at hi;cases hi
  . rw[hi] at e;simp[V.dat] at e
 have hnob:∀v sz es s,Bear E w id (am T []) (fun i=>a'.tmps.getD i Go.undef) v (.sl false sz es (some s))->False:=by
  intro v sz es s hi;rcases hi with⟨i,h1,_⟩|⟨k',c,j,_,h2,_⟩
  . exact hnot i sz es s h1
  . simp[am,tU] at h2
 refine Now.first (β:=id) (b:=id) ⟨fun i=>?_,by rw[ht];exact hr.size,fun s cs hs=>by simp[am,tU] at hs,fun s s' cs cs' hs=>by simp[am,tU] at hs,Bel.refl _ _,⟨hr.par.1,fun _ _=>rfl,fun x hx=>by cases hx⟩,⟨fun _ _ _=>rfl,Ext.refl _ _,fun x hx=>by cases hx⟩,⟨id,fun v sz es s hi=>(hnob v sz es s hi).elim,fun v sz es s v' sz' es' s' hi=>(hnob v sz es s hi).elim,fun v sz es s k cs hi=>(hnob v sz es s hi).elim⟩,fun i s sz len cs hi hs=>by simp[am,tU] at hs,hd,hr.glob,hr.j,⟨fun i s ks vs hi=>(hnomp i s ks vs hi).elim,fun i j s s' ks vs ks' vs' hi=>(hnomp i s ks vs hi).elim⟩⟩;have h1:=hr.tmps i;show Rs m w id _ (bM T i);rw[ht];have h1:Rs m w β _ (bM T i):=h1;rcases hdt i with e|e
 . rw[e];exact .of (.undef _)
 . exact .of (h1.dat e)
theorem HR (hE:EnvOK E) (hm:E.P.follows .mixedOrders=true) (hF:∀f C,F.F f=some C->cn E f C) (hI:∀t name C,F.I t name=some C->im E t name C) (hP:∀id,F.P id=none) {g:Operand} {ps:Array Tmp} {assign body:Code} {K:Out->XS->Prop} {gf:FuncId} {lb:Array Value} (h:HoldX E n B s a w)
 (hg:a.eval g= .func (.func gf) #[] lb) (hcall:∀args w,(callFunc gf args).run E.P w= .ok (.enter gf args) w) {Ok Done:List (List V)->Prop}
 (hit:∀m,B.Kn.P m w->∀m1 w1,Step (fun _=>False) m w m1 w1->E.J w1->iS E (fun _=>False) gf lb Ok Done m1 w1) (T:List (Nat×V)) (hT:fH s.st T) (hTd:(T.all fun p=>p.2.dat)=true)
 (hps:∀p∈ps.toList,p<n) (hlen:∀pre x,Ok (pre++[x])->x.length=ps.size) (hoka:aZ E.any n assign=true) (hokb:vw E.any F.any (fun id=>(F.P id).isSome) n body=true)
 (J:List (List V)->HH->Prop) (h0:J [] s.H)
 (hround:∀pre x H,Ok (pre++[x])->J pre H->run E assign (ri ps.toList x (am T [])) (Oo fun st1=>cv E F body ⟨st1,H⟩ (DI fun s2=>J (pre++[x]) s2.H)))
 (hdone:∀xs H,Done xs->J xs H->K .normal ⟨am T [],H⟩):(Code.rangeFunc g ps assign body).wpIn (aX none) 0 E.P (Hz E n B K) a w:=by
 obtain⟨D,m,O,h1,h2,h4,h5,h6⟩:=h;have h1:Now E n D O m (am T []) a w:=h1.le (aG hT trivial);have hd0:a.defers=D:=by obtain⟨_,_,hr⟩:=h1.rel;exact hr.defers
 have hKB:E.K<=w.heap.size:=hE.high _ h1.J;let hs0:(Nat->Prop)->HH->Lim->World->Prop:=fun O1 H m' w'=>Now E n D O m' (am T []) a w'∧(∀g ob,H g=some ob-> ¬O g∧ ¬O1 g∧w'.heap[g]?=some ob∧m' g=some 0∧(w.heap.size<=g∨s.H g≠none)∧E.K<=g)∧B.Kn.P m' w'∧w.heap.size<=w'.heap.size
 have stab:∀{O1 S:Nat->Prop} {H:HH} {m1 m2:Lim} {w1 w2:World},hs0 O1 H m1 w1->Step S m1 w1 m2 w2->(∀k,O k∨H k≠none-> ¬S k)->E.J w2->hs0 O1 H m2 w2:=by rintro O1 S H m1 m2 w1 w2 ⟨q1,q2,q3,q4⟩ hs hS hj;refine⟨q1.other hs (fun k hk=>hS k (.inl hk)) hj,fun g ob hg=>?_,B.Kn.mono _ _ _ _ q3 hs.ext,ZL q4 hs.ext.size⟩;obtain⟨r1,r0,r2,r3,r4⟩:=q2 g ob hg;have:=hs.same g (ae r2) (hS g (.inr A1b));exact⟨r1,r0,this.1.trans r2,this.2.trans r3,r4⟩
 let JJ:List (List V)->(Nat->Prop)->Lim->World->Prop:=fun pre Ow m' w'=>∃H,hs0 (fun _=>False) H m' w'∧J pre H∧∀k,Ow k↔(O k∨H k≠none)
 let J1:List (List V)->List V->Act->(Nat->Prop)->Lim->World->Prop:=fun pre x a1 Ow m' w'=>∃H st1 O2,hs0 O2 H m' w'∧Now E n [] O2 m' st1 a1 w'∧(∀k,O2 k->w.heap.size<=k∧ ¬O k)∧cv E F body ⟨st1,H⟩ (DI fun s2=>J (pre++[x]) s2.H)∧∀k,Ow k↔(O k∨H k≠none∨O2 k)
 refine pT (O:=fun k=>O k∨s.H k≠none) (m:=m) (G:=fun _=>False) hE h1.J hg hcall (fun k hk=>hk.elim) (fun m1 w1 hs hj=>hit m h6.1 m1 w1 hs hj) hlen JJ J1 (fun _ _ _ _ _=>False) (fun pre=>⟨?_,?_⟩) (fun pre x a1=>⟨?_,?_⟩) ?_ (fun c pre=>⟨fun _ _ _ _ _ _ h=>h.elim,fun _ _ _ h=>h.elim⟩) ⟨s.H,⟨h1,fun g ob hg=>?_,h6.1,Zt _⟩,h0,fun k=>acj⟩ ?_ ?_ ?_ (fun _ _ _ _ _ _ h=>h.elim)
 . rintro Ow m1 w1 S m2 w2 ⟨H,q1,q2,q3⟩ hs hS hj;exact⟨H,stab q1 hs (fun k hk=>hS k ((q3 k).2 hk)) hj,q2,q3⟩
 . rintro Ow m1 w1 ⟨H,q1,q2,q3⟩ k hk;rcases(q3 k).1 hk with hk|hk
   . exact⟨q1.1.lt k hk,q1.1.K k hk⟩
   . cases e:H k with
     |none=>exact absurd e hk
     |some ob=>exact⟨ae (q1.2.1 k ob e).2.2.1,(q1.2.1 k ob e).2.2.2.2.2⟩
 . rintro Ow m1 w1 S m2 w2 ⟨H,st1,O2,q1,q2,q3,q4,q5⟩ hs hS hj;exact⟨H,st1,O2,stab q1 hs (fun k hk=>hS k ((q5 k).2 (hk.imp id .inl))) hj,q2.other hs (fun k hk=>hS k ((q5 k).2 (.inr (.inr hk)))) hj,q3,q4,q5⟩
 . rintro Ow m1 w1 ⟨H,st1,O2,q1,q2,q3,q4,q5⟩ k hk;rcases(q5 k).1 hk with hk|hk|hk
   . exact⟨q1.1.lt k hk,q1.1.K k hk⟩
   . cases e:H k with
     |none=>exact absurd e hk
     |some ob=>exact⟨ae (q1.2.1 k ob e).2.2.1,(q1.2.1 k ob e).2.2.2.2.2⟩
   . exact⟨q2.lt k hk,q2.K k hk⟩
 . rintro pre x a1 Ow m1 w1 ⟨H,st1,O2,q1,q2,_⟩;exact q2.J
 . obtain⟨r1,r2,r3,r4,r5⟩:=h2 g ob hg;exact⟨r1,fun h=>h,r2,r3,.inr A1b,r5⟩
 . --the round's variables
   rintro pre x l Ow m1 w1 vs hok ⟨H,q1,q2,q3⟩ hvs;have hn0:=Now.data (D':=[]) (a':={a with defers:=[]}) q1.1 hTd rfl rfl;obtain⟨hn1,_⟩:=nD (W:=fun _=>true) (ps:=ps.toList) hn0 hvs (fun p hp=>⟨rfl,hps p hp⟩);refine wpIn_mono (jg (r:=some l) (W:=fun _=>true) hE hm hoka (fT _) hn1 (hround pre x H hok q2)) ?_;rintro e a2 w2 ⟨_,o,st',m',ho,hK,hn,hs⟩;cases o with
   |ret=>exact hK.elim
   |exit id=>exact hK.elim
   |normal=>
   have he:e= .normal:=by cases e<;>simp[d6] at ho<;>rfl
   refine⟨he,m',fun k=>O k∨H k≠none∨o8 (fun _=>False) w1 w2 k,hs.mono (fun _ _ h=>h.elim),fun k hk=>?_,H,st',o8 (fun _=>False) w1 w2,?_,hn,fun k hk=>?_,hK,fun k=>acj⟩
   . rcases hk with hk|hk|hk
     . exact .inl ((q3 k).2 (.inl hk))
     . exact .inl ((q3 k).2 (.inr hk))
     . exact .inr (hk.2.resolve_left (fun h=>h))
   . obtain⟨p1,p2,p3,p4⟩:=stab q1 hs (fun k _ h=>h) hn.J;refine⟨p1,fun g ob hg=>?_,p3,p4⟩;obtain⟨r1,_,r2,r3⟩:=p2 g ob hg;refine⟨r1,fun hgr=>?_,r2,r3⟩;have:=ae (q1.2.1 g ob hg).2.2.1;have:=hgr.2.resolve_left (fun h=>h);omega
   . have hk':=hk.2.resolve_left (fun h=>h);exact⟨ZL q1.2.2.2 hk',fun ho=>absurd (q1.1.lt k ho) (Z4.2 hk')⟩
 . -- the round
   rintro pre x l a1 Ow m1 w1 hok ⟨H,st1,O2,q1,q2,q3,q4,q5⟩;have hX:HoldX E n ⟨fun k=>H k≠none∨O2 k,B.Kn,m1,w1⟩ ⟨st1,H⟩ a1 w1:=⟨[],m1,O2,q2,fun g ob hg=>by obtain⟨r1,r0,r2,r3,r4,r5⟩:=q1.2.1 g ob hg;exact⟨r0,r2,r3,.inr (.inl (by rw[show H g=some ob from hg];simp)),r5⟩,fun k hk=> .inr (.inr hk),Step.refl _ _ _,q1.2.2.1,Z8,fun d hd=>by cases hd⟩
   refine wpIn_mono (j3 (r:=some l) hE hm hF hI (fun id p h=>by rw[hP] at h;cases h) body _ _ a1 w1 hokb hX q4) ?_;rintro e a2 w2 ⟨o,s2,ho,hK,D2,m2,O3,p1,p2,p4,p5,p6⟩;cases o with
   |ret=>exact hK.elim
   |exit id=>exact hK.elim
   |normal=>
   have he:e= .normal:=by cases e<;>simp[d6] at ho<;>rfl
   subst he;have hXO:∀k,O k-> ¬(H k≠none∨O2 k):=fun k hk h=>by
    rcases h with h|h
    . cases e:H k with
      |none=>exact h e
      |some ob=>exact(q1.2.1 k ob e).1 hk
    . exact(q3 k h).2 hk
   refine⟨m2,fun k=>O k∨s2.H k≠none,p5.mono (fun k _ h=>(q5 k).2 (.inr h)),fun k hk=>?_,p1.J,s2.H,⟨q1.1.other p5 hXO p1.J,fun g ob hg=>?_,p6.1,ZL q1.2.2.2 p5.ext.size⟩,hK,fun k=>acj⟩
   . rcases hk with hk|hk
     . exact .inl ((q5 k).2 (.inl hk))
     . cases e:s2.H k with
       |none=>exact absurd e hk
       | some ob=>
         rcases(p2 k ob e).2.2.2.1 with h|h
         . exact .inr h
         . exact .inl ((q5 k).2 (.inr h))
   . obtain⟨r1,r2,r3,r4,r5⟩:=p2 g ob hg;refine⟨fun ho=>?_,fun h=>h,r2,r3,?_,r5⟩
     . rcases r4 with r4|r4
       . exact absurd (q1.1.lt g ho) (Z4.2 r4)
       . exact hXO g ho r4
     . rcases r4 with r4|r4|r4
       . exact .inl (ZL q1.2.2.2 r4)
       . cases e:H g with
         |none=>exact absurd e r4
         |some ob'=>exact(q1.2.1 g ob' e).2.2.2.2.1
       . exact .inl (q3 g r4).1
 . rintro xs O' m' w' b hD ⟨H,q1,q2,q3⟩ hj hs hO hmk;refine⟨.normal,⟨am T [],H⟩,rfl,hdone xs H hD q2,markD b::D,m',O,q1.1.marks rfl (by show markD b::a.defers=_;rw[hd0]),fun g ob hg=>?_,h4,h5.next hs (fun i hi ho=>?_),q1.2.2.1,ZZ.2 ⟨fun hmem=>?_,h6.2.1⟩,fun d hd=>?_⟩
   . obtain⟨r1,_,r2,r3,r4,r5⟩:=q1.2.1 g ob hg;refine⟨r1,r2,r3,?_,r5⟩;rcases r4 with r4|r4
     . exact .inl (ZL h5.ext.size r4)
     . cases e:s.H g with
       |none=>exact absurd e r4
       |some ob'=>exact(h2 g ob' e).2.2.2.1
   . rcases ho with ho|ho
     . exact(h4 i ho).resolve_left (abh.2 hi)
     . cases e:s.H i with
       |none=>exact absurd e ho
       |some ob'=>exact(h2 i ob' e).2.2.2.1.resolve_left (abh.2 hi)
   . obtain⟨b',e,_,r2,_⟩:=h6.2.2 _ hmem;have:b=b':=by simpa[markD] using e
     have:=ae r2;have:=hmk.lo;omega
   . rcases ZE.1 hd with rfl|hd
     . refine⟨b,rfl,ZL h5.ext.size hmk.lo,hmk.is,fun ho=>hmk.no ((q3 b).2 (.inl ho)),?_⟩;cases e:H b with
       |none=>exact e
       |some ob=>exact absurd ((q3 b).2 (.inr (by rw[e];simp))) hmk.no
     . obtain⟨b',rfl,r1,r2,r3,r4⟩:=h6.2.2 d hd;refine⟨b',rfl,r1,(hs.same b' (ae r2) (fun h=>h.elim r3 (fun h=>h r4))).1.trans r2,r3,?_⟩;cases e:H b' with
       |none=>exact e
       | some ob=>
         rcases(q1.2.1 b' ob e).2.2.2.2.1 with h|h
         . exact absurd (ae r2) (Z4.2 h)
         . exact absurd r4 h
end
section
variable {E:Env} {n:Nat} {m:Lim} {w:World} {st:St} {a:Act} {Os:Nat->Prop} {ms:Lim} {ws:World} {A:(Nat->Prop)->Lim->World->Prop}
theorem zu {A1 Ax:(Nat->Prop)->Lim->World->Prop} {l:Nat} {ops:Array Oper} {i:Nat} {o:Oper} (hi:ops[i]?=some o) {d:Tmp} (hd:o.dst=some d) (hdn:d<n) {c:Operand} {args:Array Operand} {ts:Array TypeId} (hop:o.op= .call {callee:= .value c,args:=args,argTypes:=ts})
 (hg:bK ops st.t o.guard=some true) (hc:ev E st c= .x (.func (.yield l) #[] #[])) (h:Two E n Os ms ws A st a w) {us:List V} (hx:(args.toList.map fun x=>(ev E st x).bare)=us) (hxd:us.all V.dat=true)
 (hy:∀O m1 w1 (vs:Array Value),A O m1 w1->RdL m1 w1 vs.toList us->YieldAt (aX none) 0 E.P l vs w1 fun e w2=>∃m2 O2,Step O m1 w1 m2 w2∧(∀k,O2 k->O k∨w1.heap.size<=k)∧E.J w2∧
  ((e= .returned (.bool true)∧A1 O2 m2 w2)∨(e= .returned (.bool false)∧Ax O2 m2 w2)))
 {K:Act->World->Prop} {Q:Exit->Act->World->Prop} (hK1:∀a' w',Two E n Os ms ws A1 (st.put (some d) (.x (.bool true))) a' w'->K a' w') (hK2:∀a' w',Two E n Os ms ws Ax (st.put (some d) (.x (.bool false))) a' w'->K a' w'):wpOpIn (aX none) 0 E.P ops Q i K a w:=by
 obtain⟨m,Oi,O,h1,h2,h3,h4,h5,h6⟩:=h;have hlt:=h1.lt;obtain⟨b,β,hrel⟩:=h1.rel;unfold wpOpIn;rw[hi];simp only;rw[Zp (by rw[eV hrel hg])];refine⟨fun _ _=>trivial,?_⟩;rw[Oper.semAt_eq _ _ _ A0G];have hcv:a.eval c= .func (.yield l) #[] #[]:=(hc▸aE hrel c:Rs m w β (a.eval c) (.x (.func (.yield l) #[] #[]))).x;have hxv:RdL m w (args.map a.eval).toList us:=by have:=jd hrel args.toList (by rw[hx];exact hxd);rw[hx] at this;simpa using this
 obtain⟨fn,tmps,assign,body,hyr,hR⟩:=hy O m w (args.map a.eval) h2 hxv;have hrun:(execOp a.eval o).run E.P w= .ok (.round l fn tmps assign body) w:=by simp only[execOp,hop,resolve,Sem.run_bind,hcv,Deferred.ofValue,Sem.run_pure,Result.andThen_ok,invoke];simpa using hyr
 rw[hrun];refine⟨(fun e=>by cases e),RoundIn.mono hR ?_⟩;rintro e w2 ⟨m2,O2,hs,hO2,hJ,hend⟩;have hdis:∀k,Oi k-> ¬O k:=fun k hk ho=>h3 k ho hk
 have fin:∀(A':(Nat->Prop)->Lim->World->Prop) (t:Bool),A' O2 m2 w2->Two E n Os ms ws A' (st.put (some d) (.x (.bool t))) (a.put (some d) (.bool t)) w2:=fun A' t ha=>by
  have hn:=h1.other hs hdis hJ;have hp:=hn.put hdn (v:= .bool t) (u:= .x (.bool t)) (.x _);rw[cM] at hp;refine⟨m2,Oi,O2,hp,ha,fun k hk ho=>?_,h4,fun k hk=>?_,h6.next hs (fun i hi ho=>?_)⟩
  . rcases hO2 k hk with hk|hk
    . exact h3 k hk ho
    . exact absurd (hlt k ho) (Z4.2 hk)
  . rcases hO2 k hk with hk|hk
    . exact h5 k hk
    . exact .inr (ZL h6.ext.size hk)
  . rcases h5 i ho with h|h
    . exact h
    . exact absurd hi (Z4.2 h)
 rcases hend with⟨rfl,ha⟩|⟨rfl,ha⟩
 . show K (a.put o.dst (.bool true)) w2;rw[hd];exact hK1 _ _ (fin _ true ha)
 . show K (a.put o.dst (.bool false)) w2;rw[hd];exact hK2 _ _ (fin _ false ha)
end
attribute [go_sem] vD vE
attribute [congr] zt
end Go.Proofs.Ytmfojhkjbkombaa
