/- A run that tells blocks of its own by their very contents, and writes them: for code that writes rows and structs in place, and hands them on. What each operation does to them. No program is named here. -/
import Derived.Test.YtldnpcolhdnkdaaMH
namespace Go.Proofs.Ytldnpcolhdnkdaa
set_option linter.unusedSimpArgs false
open Go Go.RowKit
abbrev HH:=Nat->Option Obj
structure XS where
 st:St
 H:HH
abbrev Tr:=(V->HH->Prop)->Prop
structure Fx where
 F:FuncId->Option (List V->HH->Tr)
 D:Nat->Bool
 I:TypeId->String->Option (Value->List V->HH->Tr):=fun _ _=>none
 Z:Nat->Bool:=fun _=>false
 any:Nat->Bool:=fun _=>false
 P:Nat->Option (Code×(XS->(Out->XS->Prop)->Prop)):=fun _=>none
 Y:Oper->(Operand->V)->HH->Option Tr:=fun _ _ _=>none
def rowO (l:List Value) (ty:TypeId):Obj:= .cells l.toArray ty (0,0)
def au (H:HH) (g:Nat):Option (List Value×TypeId):=match H g with
 |some (.cells vals ty (0,0))=>some (vals.toList,ty)
 |_=>none
variable {H:HH} {g:Nat}
theorem ak {l:List Value} {ty:TypeId} (h:H g=some (rowO l ty)):au H g=some (l,ty):=by unfold au;rw[h];simp[rowO]
theorem iK {c:List Value×TypeId} (h:au H g=some c):H g=some (.cells c.1.toArray c.2 (0,0)):=by
 unfold au at h;split at h
 . rename_i vals ty e;cases h;rw[e]
 . cases h
def cF (l:List Value) (off:Nat) (xs:List Value):List Value:=l.take off++xs++l.drop (off+xs.length)
theorem jm (l:List Value) (i:Nat) (v:Value) (h:i<l.length):cF l i [v]=l.set i v:=by unfold cF;rw[List.set_eq_take_append_cons_drop,PO h];simp
variable {v:Value}
theorem yh (h:v.oneCell'=true):v.cells= #[v]:=by cases v<;>first|rfl|cases h
def yi:List V->Option (List Value)
 |[]=>some []
 | .x v::us=>if v.oneCell'=true then (yi us).map (v:: ·) else none
 | .sl true _ _ _::us=>(yi us).map (.slice none 0 0:: ·)
 |_::_=>none
def jV:V->Option (List Value)
 | .x v=>yi [.x v]
 | .sl true z es t=>yi [.sl true z es t]
 | .agg us=>yi us
 |_=>none
def fi {α:Type} (o:Option α) (K:α->Prop):Prop:=match o with
 |some a=>K a
 |none=>False
variable {α:Type}
theorem yj (a:α) (K:α->Prop):fi (some a) K=K a:=rfl
theorem uc {o o':Option α} (h:o=o') (K:α->Prop):fi o K=fi o' K:=by rw[h]
theorem bE {α:Type} {o:Option α} {K:α->Prop} (h:fi o K):∃a,o=some a∧K a:=by
 cases o with
 |none=>exact h.elim
 |some a=>exact⟨a,rfl,h⟩
def m7 (P:Program) (t:TypeId) (f:Nat):Option Nat:=match P.underlying t with
 | some (.struct fs)=>match fs[f]? with
   | some fd=>match bg P fd.type with
     |some (_+1)=>some fd.offset
     |_=>none
   |none=>none
 |_=>none
def Dp (P:Program) (t:TypeId):Option Nat:=match P.underlying t with
 |some (.slice el)=>bg P el
 |_=>none
def oY (P:Program) (t:TypeId) (H:HH):V->Option Tr
 | .x (.pointer (some ⟨g,off,none⟩))=>some fun T=>fi (au H g) fun c=>fi (cM P t (c.1.map V.x) off) fun u=>T u H
 |_=>none
def lY (P:Program) (t:TypeId) (H:HH) (y:V):V->Option Tr
 | .x (.pointer (some ⟨g,off,none⟩))=>some fun T=>fi (au H g) fun c=>fi (jV y) fun xs=>(bg P t=some xs.length∧off+xs.length<=c.1.length)∧T .undef (aw H g (some (rowO (cF c.1 off xs) c.2)))
 |_=>none
def lZ (P:Program) (t:TypeId) (f:Nat) (H:HH):V->Option Tr
 | .x (.pointer (some ⟨g,off,none⟩))=>some fun T=>fi (m7 P t f) fun k=>T (.x (.pointer (some ⟨g,off+k,none⟩))) H
 |_=>none
def ud (H:HH):V->Option Tr
 | .x (.pointer (some p))=>some fun T=>T (.x (.pointer (some p))) H
 |_=>none
def l4 (P:Program) (t:TypeId) (H:HH):V->V->Option Tr
 | .x (.slice (some ⟨g,off,none⟩) len _),.x (.int _ i)=>some fun T=>fi (Dp P t) fun z=>(0<=i∧i<len)∧T (.x (.pointer (some ⟨g,off+i.toNat*z,none⟩))) H
 |_,_=>none
def ue (P:Program) (t:TypeId) (H:HH):V->Option Tr
 | .x (.slice _ len _)=>some fun T=>fi (Dp P t) fun _=>T (.x (.int .i64 (len:Int))) H
 |_=>none
def BE (t:TypeId) (H:HH) (xs:Option (List Value)):Tr:=fun T=>fi xs fun l=>∀g,H g=none->T (.x (.pointer (some ⟨g,0,none⟩))) (aw H g (some (rowO l t)))
def Oy (P:Program) (t:TypeId):Option (TypeId×Nat×Nat×Value):=match P.underlying t with
 | some (.slice el)=>match P.info? el with
   |some i=>i.zero.map fun z=>(el,i.size,i.bytes,z)
   |none=>none
 |_=>none
def oZ (P:Program) (t:TypeId) (H:HH):V->V->Option Tr
 | .x (.int k n),.x (.int k' n')=>some fun T=>fi (Oy P t) fun c=>(k=k'∧n=n'∧0<=n∧(c.2.2.1:Int)*n<=281474976710656∧n<=9223372036854775807)∧∀g,H g=none->T (.x (.slice (some ⟨g,0,none⟩) n.toNat n.toNat)) (aw H g (some (rowO (madeCells c.2.2.2.cells (n.toNat*c.2.1)).toList c.1)))
 |_,_=>none
def o0 (F:FuncId->Option (List V->HH->Tr)) (H:HH) (us:List V):Option FuncId->Option Tr
 | some f=>match F f with
   |some C=>some fun T=>us.all V.dat=true∧C us H T
   |none=>none
 |none=>none
def yk (P:Program) (t:TypeId):Bool:=match P.underlying t with
 |some (.interface _)=>false
 |some _=>true
 |none=>false
def o3 (P:Program) (t:TypeId) (H:HH):V->V->Option Tr
 | .x (.slice (some ⟨g,off,none⟩) _ cap),.x (.int _ k)=>some fun T=>fi (Dp P t) fun _=>(0<=k∧k<=cap)∧T (.x (.slice (some ⟨g,off,none⟩) k.toNat cap)) H
 |_,_=>none
def l5 (P:Program) (t:TypeId) (H:HH):V->Option Tr
 | .x v=>some fun T=>yk P t=true∧T (.x (.iface t v)) H
 |_=>none
def jW (P:Program) (t:TypeId) (H:HH):V->Option Tr
 | .x (.iface t' v)=>some fun T=>(yk P t=true∧t'=t)∧T (.x v) H
 |_=>none
def uf (I:TypeId->String->Option (Value->List V->HH->Tr)) (name:String) (H:HH) (us:List V):V->Option Tr
 | .x (.iface t v)=>match I t name with
   |some C=>some fun T=>us.all V.dat=true∧C v us H T
   |none=>none
 |_=>none
def Kp (P:Program) (t:TypeId):Bool:=match P.underlying t with
 | some (.slice el)=>match P.info? el with
   | some i=>match i.zero with
     |some z=>decide (i.size=1∧z.cells.size=1∧i.bytes=8)
     |none=>false
   |none=>false
 |_=>false
def Oz (H:HH) (v:Value) (x:Int) (T:V->HH->Prop):Prop:=∃es,RowJ H v es∧es.length+1<=100000000∧∀v' g ob,blkOf v'=some g->(blkOf v=some g∨H g=none)->RowJ (aw H g (some ob)) v' (es++[x])->T (.x v') (aw H g (some ob))
def ug (P:Program) (t:TypeId) (H:HH):V->V->Option Tr
 | .x v,.sl false 1 [.x (.int .i64 x)] _=>some fun T=>Kp P t=true∧Oz H v x T
 |_,_=>none
def l6 (H:HH):V->Option Tr
 | .x (.slice (some ⟨g,0,none⟩) n cap)=>some fun T=>fi (au H g) fun c=>(n<=cap∧n<=c.1.length∧((c.1.take n).all fun v=>v.oneCell')=true)∧T (.sl false 1 ((c.1.take n).map V.x) none) (aw H g none)
 |_=>none
noncomputable def qV (P:Program) (F:Fx) (o:Oper) (ρ:Operand->V) (H:HH):Option Tr:=
 match o.op with
 | .load t x=>oY P t H (ρ x)
 | .store t x y=>match o.dst with
   |none=>lY P t H (ρ y) (ρ x)
   |some _=>none
 | .fieldAddr t x f=>lZ P t f H (ρ x)
 | .nilCheck x=>ud H (ρ x)
 | .indexAddr t x i=>l4 P t H (ρ x) (ρ i)
 | .call {callee:= .builtin .len,args,argTypes}=>match args.toList,argTypes.toList with
   |[x],[t]=>ue P t H (ρ x)
   |_,_=>none
 | .box t x=>match (o.dst.map F.D).getD false with
   |true=>some (BE t H (jV (ρ x)))
   |false=>none
 | .makeSlice t l c=>match (o.dst.map F.D).getD false with
   |true=>oZ P t H (ρ l) (ρ c)
   |false=>none
 | .call {callee:= .value c,args,argTypes:=_}=>o0 F.F H (args.toList.map fun x=>(ρ x).bare) (sJ (ρ c))
 | .call {callee:= .invoke x name,args,argTypes:=_}=>uf F.I name H (args.toList.map fun x=>(ρ x).bare) (ρ x)
 | .call {callee:= .builtin .append,args,argTypes}=>match args.toList,argTypes.toList with
   | [x,y],[t,t']=>match decide (t=t') with
     |true=>ug P t H (ρ x) (ρ y)
     |false=>none
   |_,_=>none
 | .slice t x none (some k) none=>o3 P t H (ρ x) (ρ k)
 | .makeInterface t x=>l5 P t H (ρ x)
 | .typeAssert x _ t ok=>match ok with
   |false=>jW P t H (ρ x)
   |true=>none
 | .move x=>match (o.dst.map F.Z).getD false with
   |true=>l6 H (ρ x)
   |false=>none
 | .assign x=>match (o.dst.map F.Z).getD false with
   |true=>l6 H (ρ x)
   |false=>none
 |_=>none
def Gh (a b:Option Tr):Option Tr:=match a with
 |some T=>some T
 |none=>b
theorem BF (T:Tr) (b:Option Tr):Gh (some T) b=some T:=rfl
theorem qW (b:Option Tr):Gh none b=b:=rfl
theorem yl {a a':Option Tr} (h:a=a') (b:Option Tr):Gh a b=Gh a' b:=by rw[h]
noncomputable def m8 (P:Program) (F:Fx) (o:Oper) (ρ:Operand->V) (H:HH):Option Tr:=Gh (F.Y o ρ H) (qV P F o ρ H)
def dI (E:Env) (F:Fx) (ops:Array Oper):List Oper->XS->(XS->Prop)->Prop
 |[],s,K=>K s
 | o::l,s,K=>match bM ops s.st.t o.guard with
   |some b=>(b=true->match m8 E.P F o (ev E s.st) s.H with
    |some T=>T fun v H'=>dI E F ops l ⟨s.st.put o.dst v.bare,H'⟩ K
    | none=>match dc E o s.st with
      |some st'=>dI E F ops l ⟨st',s.H⟩ K
      |none=>False)∧(b=false->dI E F ops l ⟨s.st.put o.dst (.x (.tuple #[])),s.H⟩ K)
   |none=>False
def nQ (E:Env) (F:Fx) (ops:Array Oper) (l:List Oper) (H:HH) (K:XS->Prop):Option St->Prop
 |some st'=>dI E F ops l ⟨st',H⟩ K
 |none=>False
def jn (E:Env) (F:Fx) (ops:Array Oper) (o:Oper) (l:List Oper) (s:XS) (K:XS->Prop):Option Tr->Prop
 |some T=>T fun v H'=>dI E F ops l ⟨s.st.put o.dst v.bare,H'⟩ K
 |none=>nQ E F ops l s.H K (dc E o s.st)
def gG (E:Env) (F:Fx) (ops:Array Oper) (o:Oper) (l:List Oper) (s:XS) (K:XS->Prop):Option Bool->Prop
 |some b=>(b=true->jn E F ops o l s K (m8 E.P F o (ev E s.st) s.H))∧(b=false->dI E F ops l ⟨s.st.put o.dst (.x (.tuple #[])),s.H⟩ K)
 |none=>False
section
variable (E:Env) (F:Fx) (ops:Array Oper) (l:List Oper) (s:XS) (K:XS->Prop) (o:Oper) (H:HH)
theorem BG:dI E F ops [] s K=K s:=rfl
theorem jo:dI E F ops (o::l) s K=gG E F ops o l s K (bM ops s.st.t o.guard):=by
 unfold dI gG;cases bM ops s.st.t o.guard with
 |none=>rfl
 |some b=>simp only[jn];congr 2
theorem ym (d:Option Tmp) (op:Op) (ty:TypeId) (pos:String) (af:Array Edge):dI E F ops (⟨d,op,ty,pos,af,none⟩::l) s K=jn E F ops ⟨d,op,ty,pos,af,none⟩ l s K (m8 E.P F ⟨d,op,ty,pos,af,none⟩ (ev E s.st) s.H):=by rw[jo];simp only[gG,bM,true_implies,Bool.true_eq_false,false_implies,RE]
theorem uh (d:Option Tmp) (op:Op) (ty:TypeId) (pos:String) (af:Array Edge) (g:Nat×Bool):dI E F ops (⟨d,op,ty,pos,af,some g⟩::l) s K=gG E F ops ⟨d,op,ty,pos,af,some g⟩ l s K (bM ops s.st.t (some g)):=jo ..
theorem BH:dI E F ops (o::l) s K=dI E F ops [o] s fun s'=>dI E F ops l s' K:=by
 rw[jo,jo];cases bM ops s.st.t o.guard with
 |none=>rfl
 | some b=>
   unfold gG jn;cases m8 E.P F o (ev E s.st) s.H with
   |some T=>rfl
   |none=>unfold nQ;cases dc E o s.st<;>rfl
theorem ui (st':St):nQ E F ops l H K (some st')=dI E F ops l ⟨st',H⟩ K:=rfl
theorem uj (T:Tr):jn E F ops o l s K (some T)=T fun v H'=>dI E F ops l ⟨s.st.put o.dst v.bare,H'⟩ K:=rfl
theorem l7:jn E F ops o l s K none=nQ E F ops l s.H K (dc E o s.st):=rfl
theorem l8:gG E F ops o l s K (some true)=jn E F ops o l s K (m8 E.P F o (ev E s.st) s.H):=by simp[gG]
theorem kM:gG E F ops o l s K (some false)=dI E F ops l ⟨s.st.put o.dst (.x (.tuple #[])),s.H⟩ K:=by simp[gG]
theorem qX {r r':Option St} (h:r=r'):nQ E F ops l H K r=nQ E F ops l H K r':=by rw[h]
theorem qY {r r':Option Tr} (h:r=r'):jn E F ops o l s K r=jn E F ops o l s K r':=by rw[h]
theorem qZ {r r':Option Bool} (h:r=r'):gG E F ops o l s K r=gG E F ops o l s K r':=by rw[h]
end
def BI {X:Type} (T:X->List (Nat×V)) (B:X->List (Nat×List V)) (J:X->HH->Prop) (μ:X->Nat) (n:Nat) (s:XS):Prop:=∃x',(jk s.st (T x')∧jl s.st (B x')∧J x' s.H)∧μ x'<n
def iL {X:Type} (T:X->List (Nat×V)) (B:X->List (Nat×List V)) (J:X->HH->Prop) (μ:X->Nat) (n:Nat) (K:Out->XS->Prop):Out->XS->Prop
 | .normal,s=>BI T B J μ n s
 | .ret,s=>K .ret s
 | .exit id,s=>K (.exit id) s
section
variable {X:Type} (T:X->List (Nat×V)) (B:X->List (Nat×List V)) (J:X->HH->Prop) (μ:X->Nat) (n:Nat) (K:Out->XS->Prop) (s:XS)
theorem m9:iL T B J μ n K .normal s=BI T B J μ n s:=rfl
theorem uk:iL T B J μ n K .ret s=K .ret s:=rfl
theorem ra (id:Nat):iL T B J μ n K (.exit id) s=K (.exit id) s:=rfl
variable {o o':Out}
theorem o4 (h:o=o'):iL T B J μ n K o s=iL T B J μ n K o' s:=by rw[h]
end
def rb (body:XS->(Out->XS->Prop)->Prop) (s:XS) (K:Out->XS->Prop):Prop:=
 ∃ (X:Type) (T:X->List (Nat×V)) (B:X->List (Nat×List V)) (J:X->HH->Prop) (μ:X->Nat) (x0:X),(Le (fC (T x0) (B x0)) s.st∧J x0 s.H)∧
   ∀x H,J x H->body ⟨fC (T x) (B x),H⟩ (iL T B J μ (μ x) K)
variable {body:XS->(Out->XS->Prop)->Prop} {s:XS} {X:Type}
theorem bP {K:Out->XS->Prop} (T:X->List (Nat×V)) (B:X->List (Nat×List V)) (J:X->HH->Prop) (μ:X->Nat) (x0:X) (h0:jk s.st (T x0)) (h1:jl s.st (B x0)) (hJ:J x0 s.H) (h:∀x H,J x H->body ⟨fC (T x) (B x),H⟩ (iL T B J μ (μ x) K)):rb body s K:=⟨X,T,B,J,μ,x0,⟨ez h0 h1,hJ⟩,h⟩
theorem jX {K:Out->XS->Prop} (i n tok:Nat) {n0:Nat} {k0:Option Nat} (h:s.st.t i= .sl true n0 [] k0) (hr:rb body ⟨⟨aw s.st.t i (.sl true n [] (some tok)),s.st.b⟩,s.H⟩ K):rb body s K:=by
 obtain⟨X,T,B,J,μ,x0,⟨h0,hJ⟩,hx⟩:=hr;refine⟨X,T,B,J,μ,x0,⟨⟨fun j=>?_,h0.b⟩,hJ⟩,hx⟩;have:=h0.t j;simp only[aD] at this;split at this
 . rename_i e;subst e;rw[h];rcases this with e|e|⟨n1,k1,n2,k2,e,_⟩
   . exact .inl e
   . exact .inr (.inr ⟨_,_,_,_,e,rfl⟩)
   . exact .inr (.inr ⟨_,_,_,_,e,rfl⟩)
 . exact this
def Iv (st:St) (val:Nat->V) (ops:List Oper) (L:Nat) (bx:Nat->Option (List V)):St:=⟨(mR st val ops L).t,bx⟩
def Fe (d:Option Tmp) (st:St) (v:Nat->V) (bx:Nat->Option (List V)):St:=⟨match d with|some d=>aw st.t d (v d)|none=>st.t,bx⟩
def yn (E:Env) (F:Fx) (ops:List Oper) (s:XS) (K:XS->Prop):Prop:=
 ∃ (need:Nat->List Nat) (I:Nat->HH->(Nat->V)->(Nat->Option (List V))->Prop) (val0:Nat->V),qU ops=true∧((List.range ops.length).all fun i=>(match ops[i]? with|some o=>(need i).all fun k=>(directV o).any (g3 ops k)|none=>true))=true∧I 0 s.H val0 s.st.b∧
   (∀(L i:Nat) (o:Oper) (H:HH) (val:Nat->V) (bx:Nat->Option (List V)),ops[i]?=some o->L.testBit i=false->(∀k∈directV o,L.testBit k=true)->ClosedM ops L->I L H val bx->(∀k∈need i,(mR s.st val ops L).t k=val k)->
    dI E F ⟨ops⟩ [o] ⟨Iv s.st val ops L bx,H⟩ fun s'=>∃val',(∀k,o.dst≠some k->val' k=val k)∧∃bx',I (L|||2^i) s'.H val' bx'∧Le (Fe o.dst (mR s.st val ops L) val' bx') s'.st)∧
   ∀H val bx,I (2^ops.length-1) H val bx->∃ts bs,jk (Iv s.st val ops (2^ops.length-1) bx) ts∧jl (Iv s.st val ops (2^ops.length-1) bx) bs∧K ⟨fC ts bs,H⟩
def nR (E:Env) (F:Fx) (id:Nat) (ops:Array Oper) (s:XS) (K:Out->XS->Prop):Bool->Prop
 |true=>yn E F ops.toList s (K .normal)
 |false=>run E (.region id ops true) s.st fun o st'=>K o ⟨st',s.H⟩
variable {ops:List Oper}
theorem be {st:St} {val:Nat->V} {L k:Nat} (h:dh ops L k=true):(mR st val ops L).t k=val k:=PO h
def dJ (F:Fx):Code->Option (Code×(XS->(Out->XS->Prop)->Prop))
 | .region id _ _=>F.P id
 |_=>none
def vU (c' c:Code) (p:Prop):Prop:=c'=c∧p
theorem re (c' c:Code) {p p':Prop} (h:p=p'):vU c' c p=vU c' c p':=by rw[h]
def l9 (c:Code) (s:XS) (K:Out->XS->Prop) (d:Prop):Option (Code×(XS->(Out->XS->Prop)->Prop))->Prop
 |some p=>vU p.1 c (p.2 s K)
 |none=>d
def co (E:Env) (F:Fx):Code->XS->(Out->XS->Prop)->Prop
 | .skip,s,K=>K .normal s
 | .region _ ops false,s,K=>dI E F ops ops.toList s (K .normal)
 | .region id ops true,s,K=>nR E F id ops s K (F.any id)
 | .seq a b,s,K=>l9 (.seq a b) s K (co E F a s fun o s'=>match o with
   | .normal=>co E F b s' K
   |o=>K o s') (dJ F a)
 | .cond c a b,s,K=>match ev E s.st c with
   | .x (.bool t)=>(t=true->co E F a s K)∧(t=false->co E F b s K)
   |_=>False
 | .block id a,s,K=>co E F a s fun o s'=>match o with
   | .exit id'=>if id'=id then K .normal s' else K (.exit id') s'
   |o=>K o s'
 | .loop a,s,K=>rb (co E F a) s K
 | .label _,s,K=>K .normal s
 | .exit id,s,K=>K (.exit id) s
 | .ret,s,K=>K .ret s
 |_,_,_=>False
def yp (E:Env) (F:Fx) (b:Code) (K:Out->XS->Prop):Out->XS->Prop
 | .normal,s=>co E F b s K
 | .ret,s=>K .ret s
 | .exit id,s=>K (.exit id) s
def jY (id:Nat) (K:Out->XS->Prop):Out->XS->Prop
 | .exit id',s=>if id'=id then K .normal s else K (.exit id') s
 | .normal,s=>K .normal s
 | .ret,s=>K .ret s
def kN (E:Env) (F:Fx) (a b:Code) (s:XS) (K:Out->XS->Prop):V->Prop
 | .x (.bool t)=>(t=true->co E F a s K)∧(t=false->co E F b s K)
 |_=>False
section
variable (E:Env) (F:Fx) (a b:Code) (s:XS) (K:Out->XS->Prop) (id:Nat)
theorem yq:co E F .skip s K=K .normal s:=rfl
theorem rf (ops:List Oper):co E F (.region id ⟨ops⟩ false) s K=dI E F ⟨ops⟩ ops s (K .normal):=rfl
theorem yr (ops:List Oper):co E F (.region id ⟨ops⟩ true) s K=nR E F id ⟨ops⟩ s K (F.any id):=rfl
theorem ul (ops:List Oper):nR E F id ⟨ops⟩ s K true=yn E F ops s (K .normal):=rfl
theorem rh (ops:List Oper):nR E F id ⟨ops⟩ s K false=run E (.region id ⟨ops⟩ true) s.st (fun o st'=>K o ⟨st',s.H⟩):=rfl
theorem ri (ops:Array Oper) {o o':Bool} (h:o=o'):nR E F id ops s K o=nR E F id ops s K o':=by rw[h]
theorem nc (ops:Array Oper) (d:Bool):dJ F (.region id ops d)=F.P id:=rfl
theorem um:dJ F (.seq a b)=none:=rfl
theorem rj (c:Operand):dJ F (.cond c a b)=none:=rfl
theorem o5:dJ F (.block id a)=none:=rfl
theorem rk:dJ F (.loop a)=none:=rfl
theorem rl:dJ F .skip=none:=rfl
theorem rm:dJ F (.exit id)=none:=rfl
theorem un:dJ F .ret=none:=rfl
theorem uo (c:Code) (d:Prop):l9 c s K d none=d:=rfl
theorem up (c c':Code) (W:XS->(Out->XS->Prop)->Prop) (d:Prop):l9 c s K d (some (c',W))=vU c' c (W s K):=rfl
theorem rn (c:Code) (d:Prop) {o o':Option (Code×(XS->(Out->XS->Prop)->Prop))} (h:o=o'):l9 c s K d o=l9 c s K d o':=by rw[h]
theorem BJ:co E F (.seq a b) s K=l9 (.seq a b) s K (co E F a s (yp E F b K)) (dJ F a):=by show l9 _ s K (co E F a s _) _=_;congr 2;funext o s';cases o<;>rfl
theorem yu (c:Operand):co E F (.cond c a b) s K=kN E F a b s K (ev E s.st c):=by show(match ev E s.st c with| .x (.bool t)=>(t=true->co E F a s K)∧(t=false->co E F b s K)|_=>False)=_;unfold kN;split<;>simp_all
theorem uq:co E F (.block id a) s K=co E F a s (jY id K):=by show co E F a s _=_;congr 1;funext o s';cases o<;>rfl
theorem yw:co E F (.loop a) s K=rb (co E F a) s K:=rfl
theorem yx:co E F (.exit id) s K=K (.exit id) s:=rfl
theorem BK:co E F .ret s K=K .ret s:=rfl
theorem ro:yp E F b K .normal s=co E F b s K:=rfl
theorem BL:yp E F b K .ret s=K .ret s:=rfl
theorem yy:yp E F b K (.exit id) s=K (.exit id) s:=rfl
theorem nf:jY id K .normal s=K .normal s:=rfl
theorem ur:jY id K .ret s=K .ret s:=rfl
theorem rp (id':Nat):jY id K (.exit id') s=if id'=id then K .normal s else K (.exit id') s:=rfl
theorem ut:kN E F a b s K (.x (.bool true))=co E F a s K:=by simp[kN]
theorem rq:kN E F a b s K (.x (.bool false))=co E F b s K:=by simp[kN]
theorem rr {v v':V} (h:v=v'):kN E F a b s K v=kN E F a b s K v':=by rw[h]
variable {o o':Out}
theorem uu (h:o=o'):yp E F b K o s=yp E F b K o' s:=by rw[h]
theorem o6 (h:o=o'):jY id K o s=jY id K o' s:=by rw[h]
theorem uv {s':XS} (h:s=s'):co E F a s K=co E F a s' K:=by rw[h]
end
structure Xb where
 X:Nat->Prop
 Kn:Kno
 ms:Lim
 ws:World
def jZ (D:List Deferred) (O:Nat->Prop) (lo:Nat) (w:World) (H:HH):Prop:=D.Nodup∧∀d∈D,∃b,d=markD b∧lo<=b∧w.heap[b]?=some (.deferred (some []))∧ ¬O b∧H b=none
def HoldX (E:Env) (n:Nat) (B:Xb) (s:XS) (a:Act) (w:World):Prop:=
 ∃D m O,Now E n D O m s.st a w∧(∀g ob,s.H g=some ob-> ¬O g∧w.heap[g]?=some ob∧m g=some 0∧(B.ws.heap.size<=g∨B.X g)∧E.K<=g)∧(∀k,O k->B.ws.heap.size<=k∨B.X k)∧Step B.X B.ms B.ws m w∧B.Kn.P m w∧jZ D O B.ws.heap.size w s.H
def Gi (P:Program) (f:FuncId) (vs:Array Value) (m:Lim) (w:World) (H:HH) (T:V->HH->Prop):Prop:=
 Calls P f vs w fun e w'=>∃v m' r H',e= .returned v∧Rd m' w' v r∧T r H'∧Step (fun k=>H k≠none) m w m' w'∧∀g ob,H' g=some ob->w'.heap[g]?=some ob∧m' g=some 0∧(H g≠none∨w.heap.size<=g)
def cV (E:Env) (f:FuncId) (C:List V->HH->Tr):Prop:=
 (∀args w,(callFunc f args).run E.P w= .ok (.enter f args) w)∧
 ∀ (m:Lim) (w:World) (vs:Array Value) (us:List V) (H:HH) (T:V->HH->Prop),C us H T->us.all V.dat=true->RdL m w vs.toList us->(∀g ob,H g=some ob->w.heap[g]?=some ob∧m g=some 0∧E.K<=g)->E.J w->(∀g,Rd m w (.pointer (some ⟨g,0,none⟩)) (E.G g))->
   Gi E.P f vs m w H T
def ng (E:Env) (t:TypeId) (name:String) (C:Value->List V->HH->Tr):Prop:=
 ∀ (m:Lim) (w:World) (v:Value) (vs:Array Value) (us:List V) (H:HH) (T:V->HH->Prop),C v us H T->us.all V.dat=true->RdL m w vs.toList us->(∀g ob,H g=some ob->w.heap[g]?=some ob∧m g=some 0∧E.K<=g)->E.J w->(∀g,Rd m w (.pointer (some ⟨g,0,none⟩)) (E.G g))->
   ∃f r,(callMethod (.iface t v) name vs).run E.P w= .ok (.enter f (#[r]++vs)) w∧Gi E.P f (#[r]++vs) m w H T
section
variable {E:Env} {n:Nat} {B:Xb} {F:Fx} {s:XS} {a:Act} {w w':World} {r:Option Nat}
variable {st':St}
theorem HoldX.le (h:HoldX E n B s a w) (hl:Le st' s.st):HoldX E n B ⟨st',s.H⟩ a w:=by obtain⟨D,m,O,h1,h2⟩:=h;exact⟨D,m,O,h1.le hl,h2⟩
theorem HoldX.ev (h:HoldX E n B s a w) (x:Operand) {v:Value} (hx:ev E s.st x= .x v):a.eval x=v:=by obtain⟨D,m,O,⟨⟨b,β,hr⟩,_⟩,_⟩:=h;exact(hx▸aA hr x).x
theorem HoldX.at (h:HoldX E n B s a w) {g:Nat} {ob:Obj} (hg:s.H g=some ob):w.heap[g]?=some ob:=by obtain⟨D,m,O,_,h2,_⟩:=h;exact(h2 g ob hg).2.1
theorem HoldX.new (h:HoldX E n B s a w):s.H w.heap.size=none:=by
 cases e:s.H w.heap.size with
 |none=>rfl
 |some ob=>exact absurd (al (h.at e)) (Nat.lt_irrefl _)
theorem HoldX.put (h:HoldX E n B s a w) {d:Option Tmp} (hd:∀k,d=some k->k<n) {v:Value} {u:V} (hv:∀m,Rd m w v u):HoldX E n B ⟨s.st.put d u.bare,s.H⟩ (a.put d v) w:=by
 obtain⟨D,m,O,h1,h2⟩:=h;cases d with
 |none=>exact⟨D,m,O,h1,h2⟩
 |some k=>exact⟨D,m,O,h1.put (hd k rfl) (hv m),h2⟩
variable {m:Lim}
theorem HoldX.grown {D:List Deferred} {O:Nat->Prop} {m':Lim} {a':Act} (h2:∀g ob,s.H g=some ob-> ¬O g∧w.heap[g]?=some ob∧m g=some 0∧(B.ws.heap.size<=g∨B.X g)∧E.K<=g) (h4:∀k,O k->B.ws.heap.size<=k∨B.X k) (h5:Step B.X B.ms B.ws m w) (h6:B.Kn.P m w∧jZ D O B.ws.heap.size w s.H)
 (hn:Now E n D (oT O w w') m' st' a' w') (hs:Step O m w m' w'):HoldX E n B ⟨st',s.H⟩ a' w':=by
 refine⟨D,m',_,hn,fun g ob hg=>?_,fun k hg=>?_,h5.next hs (fun i hi ho=>(h4 i ho).resolve_left (Q7.2 hi)),B.Kn.mono _ _ _ _ h6.1 hs.ext,h6.2.1,fun d hd=>?_⟩
 . obtain⟨q1,q2,q3,q4⟩:=h2 g ob hg;obtain⟨s1,s2⟩:=hs.same g (al q2) q1;refine⟨fun hgr=>?_,s1.trans q2,s2.trans q3,q4⟩;rcases hgr.2 with ho|ho
   . exact q1 ho
   . exact absurd (al q2) (Qw.2 ho)
 . rcases hg.2 with ho|ho
   . exact h4 k ho
   . exact .inl (tl h5.ext.size ho)
 . obtain⟨b,rfl,q1,q2,q3,q4⟩:=h6.2.2 d hd;refine⟨b,rfl,q1,(hs.same b (al q2) q3).1.trans q2,fun hg=>?_,q4⟩;rcases hg.2 with hg|hg
   . exact q3 hg
   . exact absurd (al q2) (Qw.2 hg)
theorem HL (hE:EnvOK E) (hm:E.P.follows .mixedOrders=true) {c:Code} {K:Out->St->Prop} (hok:cz E.any n c=true) (h:HoldX E n B s a w) (hr:run E c s.st K):
 c.wpIn (fK r) 0 E.P (fun e a' w'=>∃o st',oU e=some o∧K o st'∧HoldX E n B ⟨st',s.H⟩ a' w') a w:=by
 obtain⟨D,m,O,h1,h2,h4,h5,h6⟩:=h;refine wpIn_mono (E4 (r:=r) (W:=fun _=>true) hE hm hok (oM c) h1 hr) ?_;rintro e a' w' ⟨_,o,st',m',ho,hK,hn,hs⟩;exact⟨o,st',ho,hK,HoldX.grown h2 h4 h5 h6 hn hs⟩
theorem Kq (hE:EnvOK E) (h:HoldX E n B s a w) {o:Oper} {st':St} (hx:dc E o s.st=some st') (hd:∀k,o.dst=some k->k<n) {K:Act->World->Prop} {Q:Exit->Act->World->Prop} (hK:∀a' w',HoldX E n B ⟨st',s.H⟩ a' w'->K a' w'):o.wp E.P a w K Q:=by obtain⟨D,m,O,h1,h2,h4,h5,h6⟩:=h;have hlt:=h1.lt;obtain⟨b,β,hrel⟩:=h1.rel;refine kA (hE.x (.inr (fun _ h=>h))) hrel hx hd (fun a' w' m' β' hr'=>hK a' w' ?_);obtain⟨hn,hst⟩:=Now.of_rel hE hlt hr';exact HoldX.grown h2 h4 h5 h6 hn hst
theorem HoldX.stepped (hE:EnvOK E) {D:List Deferred} {m m':Lim} {O:Nat->Prop} {H':HH} (q1:Now E n D O m s.st a w) (q2:∀g ob,s.H g=some ob-> ¬O g∧w.heap[g]?=some ob∧m g=some 0∧(B.ws.heap.size<=g∨B.X g)∧E.K<=g) (q4:∀k,O k->B.ws.heap.size<=k∨B.X k) (q5:Step B.X B.ms B.ws m w) (q6:B.Kn.P m w∧jZ D O B.ws.heap.size w s.H)
 (hs:Step (fun k=>s.H k≠none) m w m' w') (hH:∀g ob,H' g=some ob->w'.heap[g]?=some ob∧m' g=some 0∧(s.H g≠none∨w.heap.size<=g)):HoldX E n B ⟨s.st,H'⟩ a w'∧∃O,Now E n D O m' s.st a w'∧(∀g ob,H' g=some ob-> ¬O g∧w'.heap[g]?=some ob∧m' g=some 0∧(B.ws.heap.size<=g∨B.X g)∧E.K<=g)∧(∀k,O k->B.ws.heap.size<=k∨B.X k)∧Step B.X B.ms B.ws m' w'∧B.Kn.P m' w'∧jZ D O B.ws.heap.size w' H':=by
 have hne:∀k,O k-> ¬s.H k≠none:=fun k hk=>by
  cases e:s.H k with
  |none=>simp
  |some ob=>exact absurd hk (q2 k ob e).1
 have hJ:E.J w':=hE.keep ((List.range w.heap.size).filter fun k=>(s.H k).isSome) _ _ (fun x hx=>by
  obtain⟨ob,e⟩:=Sd.1 (QB.1 hx).2
  exact(q2 x ob e).2.2.2.2) q1.J (hs.bel (fun k hk e=>QB.2 ⟨Qg.2 hk,by cases e':s.H k with
   |none=>exact absurd e' e
   |some _=>rfl⟩))
 have hK:E.K<=w.heap.size:=hE.high _ q1.J;have key:∃O,Now E n D O m' s.st a w'∧(∀g ob,H' g=some ob-> ¬O g∧w'.heap[g]?=some ob∧m' g=some 0∧(B.ws.heap.size<=g∨B.X g)∧E.K<=g)∧(∀k,O k->B.ws.heap.size<=k∨B.X k)∧Step B.X B.ms B.ws m' w'∧B.Kn.P m' w'∧jZ D O B.ws.heap.size w' H':=by
  refine⟨O,q1.other hs hne hJ,fun g ob hg=>?_,q4,q5.next hs (fun i hi e=>?_),B.Kn.mono _ _ _ _ q6.1 hs.ext,q6.2.1,fun d hd=>?_⟩
  . obtain⟨h1,h3,h2⟩:=hH g ob hg;rcases h2 with h2|h2
    . cases e:s.H g with
      |none=>exact absurd e h2
      |some ob'=>exact⟨(q2 g ob' e).1,h1,h3,(q2 g ob' e).2.2.2⟩
    . exact⟨fun ho=>absurd (q1.lt g ho) (Qw.2 h2),h1,h3,.inl (tl q5.ext.size h2),tl hK h2⟩
  . cases e':s.H i with
    |none=>exact absurd e' e
    |some ob=>exact(q2 i ob e').2.2.2.1.resolve_left (Q7.2 hi)
  . obtain⟨b,rfl,r1,r2,r3,r4⟩:=q6.2.2 d hd;refine⟨b,rfl,r1,(hs.same b (al r2) (by rw[r4];simp)).1.trans r2,r3,?_⟩;cases e:H' b with
    |none=>rfl
    | some ob=>
      rcases(hH b ob e).2.2 with h|h
      . exact absurd r4 h
      . exact absurd (al r2) (Qw.2 h)
 obtain⟨O',k1,k2,k3,k4,k5⟩:=key;exact⟨⟨D,m',O',k1,k2,k3,k4,k5⟩,O',k1,k2,k3,k4,k5⟩
theorem HoldX.wrote (hE:EnvOK E) {H':HH} (h:HoldX E n B s a w) (hos:w'.os=w.os) (htp:w'.tape=w.tape) (hou:w'.output=w.output) (hsz:w.heap.size<=w'.heap.size) (hb:∀k,k<w.heap.size->s.H k=none->w'.heap[k]?=w.heap[k]?) (hH:∀g ob,H' g=some ob->w'.heap[g]?=some ob∧(s.H g≠none∨w.heap.size<=g)):HoldX E n B ⟨s.st,H'⟩ a w':=by
 obtain⟨D,m,O,q1,q2,q4,q5,q6⟩:=h;have hs:Step (fun k=>s.H k≠none) m w (fun j=>if w.heap.size<=j then some 0 else m j) w':=by
  refine⟨hos,htp,hou,⟨hsz,fun b off v hlt hm hc=>?_,fun b hlt fr' hf=>?_,fun b es c hm hc=>?_⟩,fun k hk hn=>⟨hb k hk (by simpa using hn),PS (Q7.2 hk)⟩⟩
  . cases e:s.H b with
    |none=>rw[aT (hb b hlt e)];exact hc
    |some ob=>exact absurd (hm 0 (q2 b ob e).2.2.1) (Ro _)
  . rw[PS (Q7.2 hlt)] at hf;exact⟨fr',hf,PB _⟩
  . cases e:s.H b with
    |none=>rw[hb b (du hc) e];exact hc
    |some ob=>rw[(q2 b ob e).2.2.1] at hm;cases hm
 refine(HoldX.stepped hE q1 q2 q4 q5 q6 hs (fun g ob hg=>?_)).1;obtain⟨h1,h2⟩:=hH g ob hg;refine⟨h1,?_,h2⟩;rcases h2 with h2|h2
 . cases e:s.H g with
   |none=>exact absurd e h2
   |some ob'=>rw[PS (Q7.2 (al (q2 g ob' e).2.1))];exact(q2 g ob' e).2.2.1
 . exact PO h2
theorem HoldX.drew (hE:EnvOK E) (h:HoldX E n B s a w):HoldX E n B s a {w with drawn:=w.drawn+1}:=
 h.wrote hE rfl rfl rfl (PB _) (fun _ _ _=>rfl) (fun g ob e=>⟨h.at e,.inl (by rw[e];exact fun h=>by cases h)⟩)
theorem HoldX.fresh (hE:EnvOK E) (h:HoldX E n B s a w) (ob:Obj):HoldX E n B ⟨s.st,aw s.H w.heap.size (some ob)⟩ a (w.alloc ob):=by
 refine h.wrote hE rfl rfl rfl (by simp) (fun k hk _=>Below.heap_alloc w ob k hk) (fun g ob' hg=>?_);by_cases e:g=w.heap.size
 . subst e;rw[aa] at hg;cases hg;exact⟨World.heap_new w ob,.inr (PB _)⟩
 . rw[ae _ _ e] at hg;have:=h.at hg;exact⟨(Below.heap_alloc w ob g (al this)).trans this,.inl (by rw[hg];simp)⟩
theorem nS {m:Lim}:∀{us:List V} {xs vs:List Value},yi us=some xs->RdL m w vs us->vs=xs∧∀v∈xs,v.oneCell'=true∧v.cells= #[v]
 | [],xs,vs,h,hr=>by
   cases h;cases vs with
   |nil=>exact⟨rfl,fun v hv=>by cases hv⟩
   |cons v vs=>exact hr.elim
 | u ::us,xs,vs,h,hr=>by
   cases u with
   | x v =>
     unfold yi at h;split at h
     . rename_i hv;obtain⟨ys,hy,rfl⟩:=PK.1 h;cases vs with
       |nil=>exact hr.elim
       | cons v' vs=>
         obtain⟨q1,q2⟩:=nS hy hr.2;exact⟨by rw[Rd.x_iff.1 hr.1,q1],fun y hm=>by
          cases hm with
          |head=>exact⟨hv,yh hv⟩
          |tail _ hm=>exact q2 y hm⟩
     . cases h
   | sl nl z es tok=>
     cases nl with
     |false=>simp[yi] at h
     | true=>
       unfold yi at h;obtain⟨ys,hy,rfl⟩:=PK.1 h;cases vs with
       |nil=>exact hr.elim
       | cons v' vs=>
         obtain⟨q1,q2⟩:=nS hy hr.2;have hv:v'= .slice none 0 0:=by have:=hr.1;cases this;rfl
         exact⟨by rw[hv,q1],fun y hm=>by
          cases hm with
          |head=>exact⟨rfl,rfl⟩
          |tail _ hm=>exact q2 y hm⟩
   |_=>simp[yi] at h
variable {u:V} {xs:List Value}
theorem rt (h:jV u=some xs) (hr:Rd m w v u):v.cells=xs.toArray∧∀v∈xs,v.oneCell'=true:=by
 cases u with
 |x v'=>obtain⟨q1,q2⟩:=nS (us:=[.x v']) (vs:=[v]) h ⟨hr,trivial⟩;subst q1;exact⟨(q2 v (PQ.2 rfl)).2,fun y hy=>(q2 y hy).1⟩
 | sl nl z es tok=>
   cases nl with
   |false=>cases h
   |true=>obtain⟨q1,q2⟩:=nS (us:=[.sl true z es tok]) (vs:=[v]) h ⟨hr,trivial⟩;subst q1;exact⟨(q2 v (PQ.2 rfl)).2,fun y hy=>(q2 y hy).1⟩
 |agg us=>obtain⟨cs,rfl,hl⟩:=Rd.agg_iff.1 hr;obtain⟨q1,q2⟩:=nS h hl;exact⟨by rw[<-q1];rfl,fun y hy=>(q2 y hy).1⟩
 |_=>cases h
theorem BM (h:jV u=some xs):u.nm=none:=by cases u<;>first|rfl|cases h
theorem yz {P:Program} {t:TypeId} {cs:List V} {off:Nat} (h:cM P t cs off=some u):cM P t (cs.drop off) 0=some u:=by
 unfold cM at h⊢;generalize aW P t=A at h⊢;generalize bg P t=Z at h⊢;cases A with
 |none=>exact h
 | some b=>
   cases Z with
   |none=>cases b<;>exact h
   | some k=>
     cases b with
     |false=>simpa using h
     | true=>
       simp only at h⊢;split at h
       . rw[PO (by rw[Q1];omega)];simpa using h
       . cases h
theorem uw (m:Lim) (w:World):∀l:List Value,RdL m w l (l.map V.x)
 |[]=>trivial
 |v::l=>⟨.x v,uw m w l⟩
theorem HoldX.rdx (h:HoldX E n B s a w) (x:Operand) {u:V} (hx:Go.Proofs.Ytldnpcolhdnkdaa.ev E s.st x=u) (hu:u.nm=none):∃m,Rd m w (a.eval x) u:=by obtain⟨D,m,O,⟨⟨b,β,hr⟩,_⟩,_⟩:=h;exact⟨m,(hx▸aA hr x).rd hu⟩
end
section
variable {E:Env} {n:Nat} {B:Xb} {F:Fx} {s:XS} {a:Act} {w w':World} {r:Option Nat} {o:Oper} {R:V->HH->Prop} {K:Act->World->Prop} {Q:Exit->Act->World->Prop}
theorem Gj (h:v.oneCell'=true):(V.x v).cells=[.x v]:=by cases v<;>first|rfl|cases h
theorem ik (h:HoldX E n B s a w) (hd:∀k,o.dst=some k->k<n) (hK:∀a' w' v H',R v H'->HoldX E n B ⟨s.st.put o.dst v.bare,H'⟩ a' w'->K a' w') {v:Value} {u:V} (hrun:(execOp a.eval o).run E.P w= .ok (.value v) w) (hv:∀m,Rd m w v u) (hR:R u s.H):o.wp E.P a w K Q:=by unfold Oper.wp;rw[hrun];exact hK _ _ _ _ hR (h.put hd hv)
theorem yA (hE:EnvOK E) (h:HoldX E n B s a w) (hd:∀k,o.dst=some k->k<n) (hK:∀a' w' v H',R v H'->HoldX E n B ⟨s.st.put o.dst v.bare,H'⟩ a' w'->K a' w') {v:Value} {ob:Obj} (hrun:(execOp a.eval o).run E.P w= .ok (.value v) (w.alloc ob)) (hR:R (.x v) (aw s.H w.heap.size (some ob))):o.wp E.P a w K Q:=by unfold Oper.wp;rw[hrun];exact hK _ _ _ _ hR ((h.fresh hE ob).put hd (fun m=> .x v))
theorem Kr (hE:EnvOK E) (h:HoldX E n B s a w) (hd:∀k,o.dst=some k->k<n) (hK:∀a' w' v H',R v H'->HoldX E n B ⟨s.st.put o.dst v.bare,H'⟩ a' w'->K a' w') {x:Operand} {T:Tr} (hT:l6 s.H (ev E s.st x)=some T) (hr:T R) (hrun:(execOp a.eval o).run E.P w= .ok (.value (a.eval x)) w):o.wp E.P a w K Q:=by
 unfold l6 at hT;split at hT
 case h_2=>cases hT
 rename_i g k cap hx;cases hT;obtain⟨c,hc,⟨hk,hl,h1⟩,hr⟩:=bE hr;have hob:=iK hc;have hx':=h.ev x hx;obtain⟨D,m,O,q1,q2,q4,q5,q6⟩:=h;obtain⟨p1,p2,p3,p4,p5⟩:=q2 g _ hob;have hs:Step (fun k=>s.H k≠none) m w (aw m g none) w:=(Step.freeze g m w).mono (fun i _ e=>by subst e;rw[hob];simp);obtain⟨_,O',k1,k2,k3,k4,k5⟩:=HoldX.stepped (H':=aw s.H g none) hE q1 q2 q4 q5 q6 hs (fun g' ob hg=>by
  by_cases e:g'=g
  . subst e;rw[aa] at hg;cases hg
  . rw[ae _ _ e] at hg;obtain⟨r1,r2,r3,r4⟩:=q2 g' ob hg;exact⟨r2,by rw[ae _ _ e];exact r3,.inl (by rw[hg];simp)⟩)
 have hlen:((c.1.take k).map V.x).length=k:=by rw[eq,P8,RN hl]
 have hrd:Rd (aw m g none) w (a.eval x) (.sl false 1 ((c.1.take k).map V.x) none):=by
  rw[hx'];have:=Rd.sl (m:=aw m g none) (w:=w) g 0 cap 1 ((c.1.take k).map V.x) none (fun j=>(c.1[j]?).getD Go.undef) (al p2) (by rw[hlen];exact hk) (fun i e he=>?_) (fun j hj=>?_) (fun fr hf=>?_) (fun i e he j d hdj=>?_)
  . rwa [hlen] at this
  . rw[PF] at he;obtain⟨v,hv,rfl⟩:=PK.1 he;rw[Gj ((PJ.1 h1) v (PM hv))];rfl
  . rw[RX,hlen] at hj;rw[Box.cell p2,Qn,RG,Io (by omega)];rfl
  . rw[aa] at hf;cases hf
  . rw [PF] at he;obtain⟨v,hv,rfl⟩:=PK.1 he;rw[Gj ((PJ.1 h1) v (PM hv))] at hdj;cases j with
    | zero=>
      cases hdj;have:c.1[i]?=some v:=by
       rw[P9] at hv;split at hv
       . exact hv
       . cases hv
      rw[RX,iO,this];exact .x _
    |succ j=>cases hdj
 unfold Oper.wp;rw[hrun];refine hK _ _ _ _ hr ?_;cases hdst:o.dst with
 |none=>exact⟨D,_,O',k1,k2,k3,k4,k5⟩
 |some d=>exact⟨D,_,O',k1.put (hd d hdst) hrd,k2,k3,k4,k5⟩
theorem ru (hE:EnvOK E) (hF:∀f C,F.F f=some C->cV E f C) (hI:∀t name C,F.I t name=some C->ng E t name C) (h:HoldX E n B s a w) {T:Tr} (hT:qV E.P F o (ev E s.st) s.H=some T) (hd:∀k,o.dst=some k->k<n) (hr:T R) (hK:∀a' w' v H',R v H'->HoldX E n B ⟨s.st.put o.dst v.bare,H'⟩ a' w'->K a' w'):o.wp E.P a w K Q:=by
 unfold qV at hT;split at hT
 . --load
   rename_i t x ho;unfold oY at hT;split at hT
   case h_2=>cases hT
   rename_i g off hx;cases hT;obtain⟨c,hc,hr⟩:=bE hr;obtain⟨u,hu,hr⟩:=bE hr;have hh:=h.at (iK hc);have hx':=h.ev x hx;have hcell:∀(k:Nat) (v:Value),(c.1.drop off)[k]?=some v->w.cell? ⟨g,off+k,none⟩=some v:=fun k v hk=>by
    rw[Box.cell hh,RG]
    rwa [Qm] at hk
   have hp:=yz hu;rw[<-List.map_drop] at hp;obtain⟨m0,hm0⟩:∃m:Lim,True:=⟨fun _=>none,trivial⟩;obtain⟨v,hrun,_⟩:=fN (m:=m0) hcell (uw m0 w _) hp;refine ik h hd hK (v:=v) (u:=u) (by simp only[execOp,ho,hx',Sem.run_bind,hrun,Result.andThen_ok,Sem.run_pure]) (fun m=>?_) hr;obtain⟨v',hrun',hv'⟩:=fN (m:=m) hcell (uw m w _) hp;rw[hrun] at hrun';cases hrun';exact hv'
 . --store
   rename_i t x y ho;split at hT
   case h_2=>cases hT
   rename_i hdst;unfold lY at hT;split at hT
   case h_2=>cases hT
   rename_i g off hy;cases hT;obtain⟨c,hc,hr⟩:=bE hr;obtain⟨xs,hxs,⟨hsz,hlen⟩,hr⟩:=bE hr;have hob:=iK hc;have hh:=h.at hob;obtain⟨m1,hv⟩:=h.rdx y rfl (BM hxs);obtain⟨hcs,hone⟩:=rt hxs hv;have hx':=h.ev x hy;have hst:=cY E.P g off c.2 (0,0) xs 0 c.1.toArray w hh (.inl rfl) (by simpa using hlen) hone;simp only[iO,RS] at hst;have hrun:(execOp a.eval o).run E.P w= .ok .skip (w.setRow g (cF c.1 off xs).toArray):=by simp only[execOp,ho,hx',Instr.storeAt,Instr.sureAddr,storeVar,Sem.run_bind,Sem.run_pure,Result.andThen_ok,bl hsz,hcs];rw[PS (by simp),hst];rfl
   unfold Oper.wp;rw[hrun];show K (a.put o.dst undef) _;rw[hdst];have hw:HoldX E n B ⟨s.st,aw s.H g (some (rowO (cF c.1 off xs) c.2))⟩ a (w.setRow g (cF c.1 off xs).toArray):=by
    refine h.wrote hE rfl rfl rfl (by simp[World.setRow]) (fun k _ hk=>setRow_other w g k _ (by rintro rfl;rw[hob] at hk;cases hk)) (fun g' ob' hg=>?_);by_cases e:g'=g
    . subst e;rw[aa] at hg;cases hg;exact⟨setRow_heap w _ _ _ _ (0,0) hh,.inl (by rw[hob];simp)⟩
    . rw[ae _ _ e] at hg;exact⟨(setRow_other w g g' _ e).trans (h.at hg),.inl (by rw[hg];simp)⟩
   have:=hK a (w.setRow g (cF c.1 off xs).toArray) .undef _ hr;rw[hdst] at this;exact this hw
 . --fieldAddr
   rename_i t x f ho;unfold lZ at hT;split at hT
   case h_2=>cases hT
   rename_i g off hx;cases hT;obtain⟨k,hk,hr⟩:=bE hr;unfold m7 at hk;split at hk
   case h_2=>cases hk
   rename_i fs hfs;split at hk
   case h_2=>cases hk
   rename_i fd hfd;split at hk
   case h_2=>cases hk
   rename_i z hz;cases hk;exact ik h hd hK (ub ho hfs hfd hz (by omega) (h.ev x hx) rfl) (fun m=> .x _) hr
 . --nilCheck
   rename_i x ho;unfold ud at hT;split at hT
   case h_2=>cases hT
   rename_i p hx;cases hT;exact ik h hd hK (Bx ho (h.ev x hx)) (fun m=> .x _) hr
 . --indexAddr
   rename_i t x i ho;unfold l4 at hT;split at hT
   case h_2=>cases hT
   rename_i g off len cap k iv hx hi;cases hT;obtain⟨z,hz,⟨h0,hl⟩,hr⟩:=bE hr;unfold Dp at hz;split at hz
   case h_2=>cases hz
   rename_i el hel;refine ik h hd hK ?_ (fun m=> .x _) hr;simp only[execOp,ho,h.ev x hx,h.ev i hi,Instr.indexAt,asIntOf,Sem.run_bind,Sem.run_pure,Result.andThen_ok,av hel,Sem.run_ite];rw[PO ⟨h0,hl⟩];simp only[bl hz,Result.andThen_ok,aC]
 . --len
   rename_i args ts ho;split at hT
   case h_2=>cases hT
   rename_i x t hargs hts;unfold ue at hT;split at hT
   case h_2=>cases hT
   rename_i b len cap hx;cases hT;obtain⟨z,hz,hr⟩:=bE hr;unfold Dp at hz;split at hz
   case h_2=>cases hz
   rename_i el hel;have ha:args= #[x]:=Qe.1 hargs;have ht:ts= #[t]:=Qe.1 hts;subst ha ht;exact ik h hd hK (By ho hel (h.ev x hx)) (fun m=> .x _) hr
 . --box
   rename_i t x ho;split at hT
   case h_2=>cases hT
   cases hT;obtain⟨xs,hxs,hr⟩:=bE hr;obtain⟨m1,hv⟩:=h.rdx x rfl (BM hxs);obtain⟨hcs,_⟩:=rt hxs hv;refine yA hE h hd hK (Bz ho) ?_;rw[hcs];exact hr _ h.new
 . --makeSlice
   rename_i t l c ho;split at hT
   case h_2=>cases hT
   unfold oZ at hT;split at hT
   case h_2=>cases hT
   rename_i k i k' i' hl hc;cases hT;obtain⟨q,hq,⟨rfl,rfl,h0,hb,hm⟩,hr⟩:=bE hr;unfold Oy at hq;split at hq
   case h_2=>cases hq
   rename_i el hel;split at hq
   case h_2=>cases hq
   rename_i inf hinf;obtain⟨z,hz,rfl⟩:=PK.1 hq;have:=hr _ h.new;rw[show ∀A:Array Value,rowO A.toList el= .cells A el (0,0) from fun A=>by simp[rowO]] at this;exact yA hE h hd hK (yg ho hel hinf hz (h.ev l hl) (h.ev c hc) h0 hb hm) this
 . --a call
   rename_i c args ts ho;unfold o0 at hT;split at hT
   case h_2=>cases hT
   rename_i f hf;split at hT
   case h_2=>cases hT
   rename_i C hC;cases hT;obtain⟨hdat,hr⟩:=hr;obtain⟨hcall,hfun⟩:=hF f C hC;have hc:a.eval c= .func (.func f) #[] #[]:=h.ev c (vF hf);have hrun:(execOp a.eval o).run E.P w= .ok (.enter f (args.map a.eval)) w:=by simp only[execOp,ho,resolve,Sem.run_bind,hc,Deferred.ofValue,Sem.run_pure,Result.andThen_ok,invoke];rw[hcall];simp
   obtain⟨D,m,O,q1,q2,q4,q5,q6⟩:=h;obtain⟨⟨b,β,hrel⟩,hlt⟩:=q1;unfold Oper.wp;rw[hrun];have q1:Now E n D O m s.st a w:=⟨⟨b,β,hrel⟩,hlt⟩;refine(hfun m w (args.map a.eval) _ s.H R hr hdat (by simpa using gV hrel args.toList hdat) (fun g ob hg=>⟨(q2 g ob hg).2.1,(q2 g ob hg).2.2.1,(q2 g ob hg).2.2.2.2⟩) q1.J hrel.glob).mono ?_;rintro e w' ⟨v,m',u,H',rfl,hv,hR,hs,hH⟩;obtain⟨_,O',k1,k2,k3,k4,k5⟩:=HoldX.stepped hE q1 q2 q4 q5 q6 hs hH;refine hK (a.put o.dst v) w' u H' hR ?_;cases hdst:o.dst with
   |none=>exact⟨D,m',O',k1,k2,k3,k4,k5⟩
   |some d=>exact⟨D,m',O',k1.put (hd d hdst) hv,k2,k3,k4,k5⟩
 . --a method
   rename_i x name args ts ho;unfold uf at hT;split at hT
   case h_2=>cases hT
   rename_i t v hx;split at hT
   case h_2=>cases hT
   rename_i C hC;cases hT;obtain⟨hdat,hr⟩:=hr;have hx':=h.ev x hx;obtain⟨D,m,O,q1,q2,q4,q5,q6⟩:=h;obtain⟨⟨b,β,hrel⟩,hlt⟩:=q1;have q1:Now E n D O m s.st a w:=⟨⟨b,β,hrel⟩,hlt⟩;obtain⟨f,rc,hcall,hdo⟩:=hI t name C hC m w v (args.map a.eval) _ s.H R hr hdat (by simpa using gV hrel args.toList hdat) (fun g ob hg=>⟨(q2 g ob hg).2.1,(q2 g ob hg).2.2.1,(q2 g ob hg).2.2.2.2⟩) q1.J hrel.glob;have hrun:(execOp a.eval o).run E.P w= .ok (.enter f (#[rc]++args.map a.eval)) w:=by
    have e0:(#[Value.iface t v]++args.map a.eval)[0]?=some (.iface t v):=by rw[Qz (by simp)];rfl
    have e1:(#[Value.iface t v]++args.map a.eval).extract 1 (#[Value.iface t v]++args.map a.eval).size=args.map a.eval:=by apply Qe.1;simp;exact Qb (by simp)
    simp only[execOp,ho,resolve,Sem.run_bind,hx',Sem.run_pure,Result.andThen_ok,invoke,e0,e1];exact hcall
   unfold Oper.wp;rw[hrun];refine Calls.mono hdo ?_;rintro e w' ⟨v,m',u,H',rfl,hv,hR,hs,hH⟩;obtain⟨_,O',k1,k2,k3,k4,k5⟩:=HoldX.stepped hE q1 q2 q4 q5 q6 hs hH;refine hK (a.put o.dst v) w' u H' hR ?_;cases hdst:o.dst with
   |none=>exact⟨D,m',O',k1,k2,k3,k4,k5⟩
   |some d=>exact⟨D,m',O',k1.put (hd d hdst) hv,k2,k3,k4,k5⟩
 . -- append
   rename_i args ts ho;split at hT
   case h_2=>cases hT
   rename_i x y t t' hargs hts;split at hT
   case h_2=>cases hT
   rename_i ht;obtain rfl:=QA ht;unfold ug at hT;split at hT
   case h_2=>cases hT
   rename_i v z tok hx hy;cases hT;obtain⟨hap,es,hrow,hlen,hr⟩:=hr;unfold Kp at hap;split at hap
   case h_2=>cases hap
   rename_i el hel;split at hap
   case h_2=>cases hap
   rename_i inf hinf;split at hap
   case h_2=>cases hap
   rename_i zv hzv;obtain⟨s1,s2,s3⟩:=QA hap;have ha:args= #[x,y]:=Qe.1 hargs;have ht:ts= #[t,t]:=Qe.1 hts;subst ha ht;have hx':=h.ev x hx;obtain⟨m1,hv⟩:=h.rdx y hy rfl;have hv':Rd m1 w (a.eval y) (.sl false 1 [.x (.int .i64 z)] none):=by
    have:=hv.bare
    rwa [i7] at this
   obtain⟨v',w',g,ob,h1,h2,h3,h4,h5,h6,h7,h8,h9,h10⟩:=BB (ty:=o.type) hel hinf s1 hzv s2 s3 hrow (fun g ob hg=>h.at hg) hv' hlen;have hg:blkOf v=some g∨s.H g=none:=h9.imp id fun hle=>by
    cases e:s.H g with
    |none=>rfl
    |some ob'=>exact absurd (al (h.at e)) (Qw.2 hle)
   have hw:HoldX E n B ⟨s.st,aw s.H g (some ob)⟩ a w':=by
    refine h.wrote hE h2 h3 h4 h5 (fun k hk hn=>h8 k hk (fun e=>?_)) (fun g' ob' hg'=>?_)
    . subst e;rcases h9 with h9|h9
      . rcases hrow with⟨_,rfl⟩|⟨g0,cap,cur,ty,rfl,hH0,_⟩
        . cases h9
        . cases h9;rw[hH0] at hn;cases hn
      . exact absurd hk (Qw.2 h9)
    . by_cases e:g'=g
      . subst e;rw[aa] at hg';cases hg';refine⟨h7,h9.imp (fun h9=>?_) id⟩;rcases hrow with⟨_,rfl⟩|⟨g0,cap,cur,ty,rfl,hH0,_⟩
        . cases h9
        . cases h9;rw[hH0];simp
      . rw[ae _ _ e] at hg';have hat:=h.at hg';exact⟨(h8 g' (al hat) e).trans hat,.inl (by rw[hg'];simp)⟩
   unfold Oper.wp;have hrun:(execOp a.eval o).run E.P w= .ok (.value v') w':=by simp only[execOp,ho,resolve,Sem.run_bind,Sem.run_pure,Result.andThen_ok,invoke,builtin];rw[show Array.map a.eval #[x,y]= #[v,a.eval y] from by simp[hx'],h1];rfl
   rw[hrun];exact hK _ _ _ _ (hr v' g ob h6 hg (h10 _ (aa _ _ _))) (hw.put hd (fun m=> .x _))
 . --a row's beginning
   rename_i t x k ho;unfold o3 at hT;split at hT
   case h_2=>cases hT
   rename_i g off len cap kk i hx hk;cases hT;obtain⟨z,hz,⟨h0,hl⟩,hr⟩:=bE hr;unfold Dp at hz;split at hz
   case h_2=>cases hz
   rename_i el hel;obtain⟨j,rfl⟩:=Q0 h0;refine ik h hd hK ?_ (fun m=> .x _) hr;have hb:(Instr.sliceBounds true len cap none (some (Value.int kk (j:Int))) none).run E.P w= .ok (0,j,cap) w:=by simp[Instr.sliceBounds,a6 _ (show j<=cap by omega)]
   simp only[execOp,ho,h.ev x hx,h.ev k hk,Instr.sliceAt,Sem.run_bind,av hel,Result.andThen_ok,Instr.slice,QR,Qd,hb,bl hz,Sem.run_pure];congr 2;cases cap<;>simp[aC]
 . --makeInterface
   rename_i t x ho;unfold l5 at hT;split at hT
   case h_2=>cases hT
   rename_i v hx;cases hT;obtain⟨hni,hr⟩:=hr;refine ik h hd hK ?_ (fun m=> .x _) hr;unfold yk at hni;split at hni
   . cases hni
   . rename_i ty hty hne;simp only[execOp,ho,h.ev x hx,Instr.makeInterface,Sem.run_bind,av hne,Result.andThen_ok,Sem.run_pure]
   . cases hni
 . --typeAssert
   rename_i x t0 t ok ho;split at hT
   case h_2=>cases hT
   unfold jW at hT;split at hT
   case h_2=>cases hT
   rename_i t' v hx;cases hT;obtain⟨⟨hni,rfl⟩,hr⟩:=hr;refine ik h hd hK ?_ (fun m=> .x _) hr;unfold yk at hni;split at hni
   . cases hni
   . rename_i ty hty hne;simp only[execOp,ho,h.ev x hx,Instr.typeAssert,Sem.run_bind,av hne,Result.andThen_ok,Sem.run_pure,Qt,P7,Qr]
   . cases hni
 . --a row becomes data
   rename_i x ho;split at hT
   case h_2=>cases hT
   exact Kr hE h hd hK hT hr (by simp[execOp,ho])
 . rename_i x ho;split at hT
   case h_2=>cases hT
   exact Kr hE h hd hK hT hr (by simp[execOp,ho])
 . cases hT
def iM (E:Env) (Y:Oper->(Operand->V)->HH->Option Tr):Prop:=(∀o ρ H c,o.op= .defer c->Y o ρ H=none)∧∀(n:Nat) (B:Xb) (s:XS) (a:Act) (w:World) (o:Oper) (R:V->HH->Prop) (K:Act->World->Prop) (Q:Exit->Act->World->Prop) (T:Tr),HoldX E n B s a w->Y o (ev E s.st) s.H=some T->(∀k,o.dst=some k->k<n)->T R->(∀a' w' v H',R v H'->HoldX E n B ⟨s.st.put o.dst v.bare,H'⟩ a' w'->K a' w')->o.wp E.P a w K Q
theorem jp:iM E fun _ _ _=>none:=⟨fun _ _ _ _ _=>rfl,fun _ _ _ _ _ _ _ _ _ _ _ h=>by cases h⟩
theorem ux (hE:EnvOK E) (hF:∀f C,F.F f=some C->cV E f C) (hI:∀t name C,F.I t name=some C->ng E t name C) (hY:iM E F.Y) (h:HoldX E n B s a w) {T:Tr} (hT:m8 E.P F o (ev E s.st) s.H=some T) (hd:∀k,o.dst=some k->k<n) (hr:T R) (hK:∀a' w' v H',R v H'->HoldX E n B ⟨s.st.put o.dst v.bare,H'⟩ a' w'->K a' w'):o.wp E.P a w K Q:=by
 unfold m8 Gh at hT;split at hT
 . rename_i T' hT';cases hT;exact hY.2 n B s a w o R K Q _ h hT' hd hr hK
 . exact ru hE hF hI h hT hd hr hK
theorem nU (hE:EnvOK E) (hF:∀f C,F.F f=some C->cV E f C) (hI:∀t name C,F.I t name=some C->ng E t name C) (hY:iM E F.Y) {ops:Array Oper} {K':XS->Prop} {i:Nat} (hi:ops[i]?=some o) (hdo:∀k,o.dst=some k->k<n) (h:HoldX E n B s a w) (hx:dI E F ops [o] s K') (hK:∀s' a' w',K' s'->HoldX E n B s' a' w'->K a' w'):wpOpIn (fK r) 0 E.P ops Q i K a w:=by
 rw[jo] at hx;unfold wpOpIn;rw[hi];simp only;cases hb:bM ops s.st.t o.guard with
 |none=>rw[hb] at hx;exact hx.elim
 | some b=>
   rw[hb] at hx;have hw:=(match h with|⟨_,_,_,⟨⟨_,_,hrel⟩,_⟩,_⟩=>jg hrel hb);rw[hw];cases b with
   | true=>
     simp only[Qt];rw[l8] at hx;cases hT:m8 E.P F o (ev E s.st) s.H with
     |some T=>rw[hT] at hx;refine oF r (fun c e=>?_) (ux hE hF hI hY h hT hdo hx (fun a' w' v H' hR h'=>hK _ a' w' hR h'));unfold m8 at hT;rw[hY.1 o _ _ c e,qW] at hT;unfold qV at hT;rw[e] at hT;cases hT
     | none=>
       rw[hT,l7] at hx;cases he:dc E o s.st with
       |none=>rw[he] at hx;exact hx.elim
       |some st'=>rw[he] at hx;exact oF r (iu he) (Kq hE h he hdo (fun a' w' h'=>hK _ a' w' hx h'))
   |false=>simp only[P7,Qr];rw[kM] at hx;exact⟨fun _ _=>trivial,hK _ _ _ hx (by have:=h.put hdo (u:= .x (.tuple #[])) (v:= .tuple #[]) (fun m=> .x _);rwa [bo] at this)⟩
theorem ma (hE:EnvOK E) (hF:∀f C,F.F f=some C->cV E f C) (hI:∀t name C,F.I t name=some C->ng E t name C) (hY:iM E F.Y) {ops:Array Oper} {K:XS->Prop} {Q:Exit->Act->World->Prop} (hQ:∀s' a' w',K s'->HoldX E n B s' a' w'->Q .normal a' w'):
 ∀(l:List Oper) (is:List Nat) (s:XS) (a:Act) (w:World),(∀j:Nat,(is[j]?).bind (ops[·]?)=l[j]?)->is.length=l.length->de n l=true->HoldX E n B s a w->dI E F ops l s K->wpOpsIn (fK r) 0 E.P ops Q is a w
 | [],is,s,a,w,_,hl,_,h,hx=>by
   cases is with
   |nil=>exact hQ _ _ _ hx h
   |cons i is=>simp at hl
 | o ::l,is,s,a,w,hj,hl,hd,h,hx=>by
   cases is with
   |nil=>simp at hl
   | cons i is=>
     rw[wpOpsIn_cons];have hi:ops[i]?=some o:=by simpa using hj 0
     have hdl:de n l=true:=by simp only[de,Rf,PG] at hd;exact hd.2
     rw[BH] at hx;exact nU hE hF hI hY hi (eG hd (o:=o) (by simp)) h hx (fun s' a' w' hx' h'=>ma hE hF hI hY hQ l is s' a' w' (fun j=>by simpa using hj (j+1)) (by simpa using hl) hdl h' hx')
theorem uy (hE:EnvOK E) (hm:E.P.follows .mixedOrders=true) (hF:∀f C,F.F f=some C->cV E f C) (hI:∀t name C,F.I t name=some C->ng E t name C) (hY:iM E F.Y) {ops:List Oper} {K:XS->Prop} {Q:Exit->Act->World->Prop} (hQ:∀s' a' w',K s'->HoldX E n B s' a' w'->Q .normal a' w') {id:Nat} (hd:de n ops=true) (h:HoldX E n B s a w) (hx:yn E F ops s K):(Code.region id ⟨ops⟩ true).wpIn (fK r) 0 E.P Q a w:=by
 obtain⟨need,I,val0,hok,hps,hI0,hstep,hend⟩:=hx;refine BC hm hok (fun L a w=>∃H val bx,I L H val bx∧HoldX E n B ⟨Iv s.st val ops L bx,H⟩ a w) ?_ (fun a w ⟨H,val,bx,h1,h2⟩=>?_) ⟨s.H,val0,s.st.b,hI0,by unfold Iv;rw[Ko];exact h.drew hE⟩
 . rintro L i o a w K' ho hr hcl ⟨H,val,bx,h1,h2⟩ hK;obtain⟨hb,hdd⟩:=nP ho hr;refine nU hE hF hI hY (by simpa using ho) (fun k hk=>eG hd (PM ho) k hk) h2 (hstep L i o H val bx ho hb hdd hcl h1 (fun k hk=>?_)) (fun s' a' w' ⟨val',hv,bx',hI',hle⟩ h'=>hK a' w' ⟨s'.H,val',bx',hI',(h'.le hle).le (st':=Iv s.st val' ops (L|||2^i) bx') ⟨fun k=>?_,fun s cs h=>⟨cs,h,gD cs⟩⟩⟩)
   . refine be ?_;have h3:=PJ.1 hps i (Qg.2 (PE.1 ho).1);rw[ho] at h3;obtain⟨j,hj,hjk⟩:=Q2.1 (PJ.1 h3 k hk);unfold dh;refine Q2.2 ⟨j,Qg.2 ?_,by rw[hdd j hj,Ru];exact hjk⟩;unfold g3 at hjk;split at hjk
     . rename_i o' ho';exact(PE.1 ho').1
     . cases hjk
   . have h1:=(Fd (st:=s.st) (L:=L) ho hv).t k;unfold Fe;cases hdst:o.dst with
     |none=>rw[hdst] at h1;exact h1
     |some d=>rw[hdst] at h1;exact h1
 . obtain⟨ts,bs,q1,q2,hk⟩:=hend H val bx h1;exact hQ _ a w hk (h2.le (ez q1 q2))
def sm (any anyX PX:Nat->Bool) (n:Nat):Code->Bool
 | .region id ops d=>de n ops.toList&&(!d||(anyX id||(any id||oI ops)))
 | .seq a b=>(match a with| .region id _ _=>PX id|_=>false)||(sm any anyX PX n a&&sm any anyX PX n b)
 | .cond _ a b=>sm any anyX PX n a&&sm any anyX PX n b
 | .block _ a=>sm any anyX PX n a
 | .loop a=>sm any anyX PX n a
 |_=>true
def Gk (E:Env) (n:Nat) (B:Xb) (K:Out->XS->Prop) (e:Exit) (a:Act) (w:World):Prop:=∃o s,oU e=some o∧K o s∧HoldX E n B s a w
def uz (E:Env) (n:Nat) (r:Option Nat) (p:Code×(XS->(Out->XS->Prop)->Prop)):Prop:=∀(B:Xb) (s:XS) (K:Out->XS->Prop) (a:Act) (w:World),HoldX E n B s a w->p.2 s K->p.1.wpIn (fK r) 0 E.P (Gk E n B K) a w
theorem mb (hE:EnvOK E) (hm:E.P.follows .mixedOrders=true) (hF:∀f C,F.F f=some C->cV E f C) (hI:∀t name C,F.I t name=some C->ng E t name C) (hY:iM E F.Y) (hP:∀id p,F.P id=some p->uz E n r p):∀(c:Code) (K:Out->XS->Prop) (s:XS) (a:Act) (w:World),sm E.any F.any (fun id=>(F.P id).isSome) n c=true->HoldX E n B s a w->co E F c s K->c.wpIn (fK r) 0 E.P (Gk E n B K) a w:=by
 intro c
 induction c with
 |skip=>intro K s a w _ h hr;exact wpIn_skip ⟨.normal,s,rfl,hr,h⟩
 | region id ops d=>
   intro K s a w hok h hr;simp only[sm,PG] at hok;cases d with
   | true=>
     unfold co at hr;cases ha:F.any id with
     |true=>rw[ha] at hr;exact uy (ops:=ops.toList) hE hm hF hI hY (fun s' a' w' hk h'=>⟨.normal,s',rfl,hk,h'⟩) hok.1 h hr
     |false=>rw[ha] at hr hok;exact wpIn_mono (HL (r:=r) hE hm (by simp only[cz,PG];exact hok) h hr) (fun e a' w' ⟨o,st',h1,h2,h3⟩=>⟨o,_,h1,h2,h3⟩)
   | false=>
     refine wpIn_region (ma hE hF hI hY (fun s' a' w' hk h'=>⟨.normal,s',rfl,hk,h'⟩) ops.toList _ s a w (fun j=>?_) (by simp) hok.1 h hr);rcases Ql j ops.size with h'|h'
     . rw[QZ h'];simp
     . rw[Qc (by simpa using h')];simp[h']
 | seq x y ihx ihy=>
   intro K s a w hok h hr;cases hp:dJ F x with
   | some p=>
     have hid:∃id,F.P id=some p:=by
      unfold dJ at hp;split at hp
      . exact⟨_,hp⟩
      . cases hp
     obtain⟨id,hid⟩:=hid;unfold co at hr;rw[hp] at hr;obtain⟨he,hW⟩:p.1= .seq x y∧p.2 s K:=hr;exact he▸hP id p hid B s K a w h hW
   |none=>
   have hok:sm E.any F.any (fun id=>(F.P id).isSome) n x=true∧sm E.any F.any (fun id=>(F.P id).isSome) n y=true:=by
    simp only[sm,QO,PG] at hok;rcases hok with hok|hok
    . unfold dJ at hp;split at hok
      . simp only at hp;rw[hp] at hok;cases hok
      . cases hok
    . exact hok
   unfold co at hr;rw[hp] at hr;replace hr:co E F x s (fun o s'=>match o with| .normal=>co E F y s' K|o=>K o s'):=hr;refine wpIn_seq (wpIn_mono (ihx _ s a w hok.1 h hr) ?_);rintro e a' w' ⟨o,s',ho,hk,h'⟩;cases e<;>simp only[oU,QW,reduceCtorEq] at ho<;>subst ho
   all_goals first|exact ihy K s' a' w' hok.2 h' hk|exact⟨_,s',rfl,hk,h'⟩
 | cond c x y ihx ihy=>
   intro K s a w hok h hr;simp only[sm,PG] at hok;unfold co at hr;split at hr
   . rename_i t ht;exact wpIn_cond_split (h.ev c ht) (fun e=>ihx K s a w hok.1 h (hr.1 e)) (fun e=>ihy K s a w hok.2 h (hr.2 e))
   . exact hr.elim
 | block id x ih=>
   intro K s a w hok h hr;refine wpIn_block (wpIn_mono (ih _ s a w hok h hr) ?_);rintro e a' w' ⟨o,s',ho,hk,h'⟩;cases e<;>simp only[oU,QW,reduceCtorEq] at ho<;>subst ho<;>first|exact⟨_,s',rfl,hk,h'⟩|skip
   rename_i id';simp only[Exit.inBlock] at hk⊢;by_cases hid:id'=id
   . simp only[hid,Qt] at hk⊢;exact⟨_,s',rfl,hk,h'⟩
   . simp only[hid,Qr] at hk⊢;exact⟨_,s',rfl,hk,h'⟩
 | loop x ih=>
   intro K s a w hok h hr;obtain⟨X,T,B',J,μ,x0,⟨h0,hJ0⟩,hround⟩:=hr;let S:Act->World->Nat->Prop:=fun a' w k=>∃x H,μ x=k∧J x H∧HoldX E n B ⟨fC (T x) (B' x),H⟩ a' w
   let ν:Act->World->Nat:=fun a w=>Classical.epsilon fun k=>S a w k∧∀j,S a w j->k<=j
   have hspec:∀a w,(∃k,S a w k)->S a w (ν a w)∧∀j,S a w j->ν a w<=j:=fun a w ⟨k,hk⟩=>Sl (vO _ k hk)
   refine wpIn_loop (fun a w=>∃k,S a w k) ν ⟨_,x0,s.H,rfl,hJ0,h.le h0⟩ ?_;intro a1 w1 hS;obtain⟨x,H,hx,hJ,hrel⟩:=(hspec a1 w1 hS).1;refine wpIn_mono (ih _ ⟨fC (T x) (B' x),H⟩ a1 w1 hok hrel (hround x H hJ)) ?_;rintro e a' w' ⟨o,s',ho,hk,h'⟩;cases e<;>simp only[oU,QW,reduceCtorEq] at ho<;>subst ho<;>first|exact⟨_,s',rfl,hk,h'⟩|skip
   obtain⟨x',⟨q1,q2,hJ'⟩,hlt⟩:=hk;have hS':S a' w' (μ x'):=⟨x',s'.H,rfl,hJ',h'.le (ez q1 q2)⟩;refine⟨⟨_,hS'⟩,?_⟩;have:ν a' w'<=μ x':=(hspec a' w' ⟨_,hS'⟩).2 _ hS';omega
 |label l=>intro K s a w _ h hr;exact wpIn_label ⟨.normal,s,rfl,hr,h⟩
 |exit id=>intro K s a w _ h hr;exact wpIn_exit ⟨_,s,rfl,hr,h⟩
 |ret=>intro K s a w _ h hr;exact wpIn_ret ⟨_,s,rfl,hr,h⟩
 |_=>intro K s a w _ h hr;simp[co] at hr
def HM (E:Env) (rs:List ResultVar) (T:V->HH->Prop):Out->XS->Prop
 | .exit _,_=>False
 |_,s=>fi (fv E s.st rs) fun r=>T r s.H
def uA (r:V) (H:HH) (T:V->HH->Prop):Prop:=∃(Z:Nat->Bool) (u:V),(∀m w v,(∀g ob,H g=some ob->w.heap[g]?=some ob)->(∀g,Z g=true->H g≠none->m g=none)->Rd m w v r->Rd m w v u)∧T u (fun g=>if Z g=true then none else H g)
def HN (E:Env) (rs:List ResultVar) (T:V->HH->Prop):Out->XS->Prop
 | .exit _,_=>False
 |_,s=>fi (fv E s.st rs) fun r=>uA r s.H T
theorem rv {D:List Deferred} (hE:EnvOK E) {fn:Func} {R:Ending->World->Prop} (hK:E.K<=B.ws.heap.size)
 (hR:∀(w:World) (m:Lim) (O:Nat->Prop),Now E n D O m s.st a w->(∀g ob,s.H g=some ob-> ¬O g∧w.heap[g]?=some ob∧m g=some 0∧(B.ws.heap.size<=g∨B.X g)∧E.K<=g)->Step B.X B.ms B.ws m w->∃v,(results fn a.tmps).run E.P w= .ok v w∧R (.returned v) w):∀(D':List Deferred) (w:World) (m:Lim) (O:Nat->Prop),Now E n D O m s.st a w->(∀g ob,s.H g=some ob-> ¬O g∧w.heap[g]?=some ob∧m g=some 0∧(B.ws.heap.size<=g∨B.X g)∧E.K<=g)->Step B.X B.ms B.ws m w->jZ D' O B.ws.heap.size w s.H->LeavesInM (fK none) 0 E.P fn a.tmps R D' .returning w
 |[],w,m,O,h1,h2,h3,h4=>hR w m O h1 h2 h3
 | d::D',w,m,O,h1,h2,h3,h4=>by
   obtain⟨b,rfl,q1,q2,q3,q4⟩:=h4.2 d (PZ ..);have hs:Step (fun k=>k=b) m w m (w.putObj b (.deferred none)):=Step.mark q2;have hJ:E.J (w.putObj b (.deferred none)):=hE.keep [b] _ _ (fun x hx=>by rw[PQ.1 hx];exact tl hK q1) h1.J (hs.bel (fun k _ e=>PQ.2 e));have hnb:=(QF.1 h4.1).1;refine⟨(by intro e;cases e),.inl ⟨b,_,rfl,run_takeDeferred q2,rv hE hK hR D' _ m O (h1.other hs (fun k hk e=>q3 (e▸hk)) hJ) (fun g ob hg=>?_) (h3.next hs (fun i hi e=>absurd hi (Qw.2 (e▸q1)))) ⟨(QF.1 h4.1).2,fun x hx=>?_⟩⟩⟩
   . obtain⟨r1,r2,r3⟩:=h2 g ob hg;exact⟨r1,(World.putObj_heap_other (fun e=>by rw[e,q4] at hg;cases hg)).trans r2,r3⟩
   . obtain⟨b',rfl,r1,r2,r3,r4⟩:=h4.2 x (P4 _ hx);exact⟨b',rfl,r1,(World.putObj_heap_other (fun e=>hnb (by rw[e] at hx;exact hx))).trans r2,r3,r4⟩
theorem HoldX.leaves (hE:EnvOK E) (h:HoldX E n B s a w) {fn:Func} {R:Ending->World->Prop} (hK:E.K<=B.ws.heap.size)
 (hR:∀(D:List Deferred) (w:World) (m:Lim) (O:Nat->Prop),Now E n D O m s.st a w->(∀g ob,s.H g=some ob-> ¬O g∧w.heap[g]?=some ob∧m g=some 0∧(B.ws.heap.size<=g∨B.X g)∧E.K<=g)->Step B.X B.ms B.ws m w->∃v,(results fn a.tmps).run E.P w= .ok v w∧R (.returned v) w):LeavesInM (fK none) 0 E.P fn a.tmps R a.defers .returning w:=by
 obtain⟨D,m,O,q1,q2,q4,q5,q6⟩:=h;have hd:a.defers=D:=by obtain⟨_,_,hr⟩:=q1.rel;exact hr.defers
 rw[hd];exact rv hE hK (hR D) D w m O q1 q2 q5 q6.2
theorem BN (hE:EnvOK E) (hm:E.P.follows .mixedOrders=true) (hF:∀f C,F.F f=some C->cV E f C) (hI:∀t name C,F.I t name=some C->ng E t name C) (hP:∀id p,F.P id=some p->uz E n none p) {f:FuncId} {fn:Func} {c:Code} {C:List V->HH->Tr} {k:Nat} (hf:E.P.funcs[f]?=some fn) (hb:fn.body=some c) (hcall:∀args w,(callFunc f args).run E.P w= .ok (.enter f args) w) (hn:fn.ntmps=n) (hk:k<=n) (hn1:n<=1000) (hok:sm E.any F.any (fun id=>(F.P id).isSome) n c=true)
 (hbody:∀us H T,C us H T->us.all V.dat=true->us.length=k∧co E F c ⟨start us,H⟩ (HM E fn.results.toList T)) (hY:iM E F.Y:=by exact jp):cV E f C:=by
 refine⟨hcall,fun m w vs us H T hC hdat hr hH hj hg=>?_⟩;obtain⟨hl,hrun⟩:=hbody us H T hC hdat;refine gy.1 (callsIn_of_wp_marks (F:=fK none) (n:=0) hf hb trivial ?_);rw[hn];let B:Xb:=⟨fun k=>H k≠none,Kno.top,m,w⟩
 have h0:HoldX E n B ⟨start us,H⟩ {tmps:=vs++Array.replicate (n-vs.size) Go.undef,defers:=[]} w:=
  ⟨[],m,_,Now.first (jT hr hdat hl hk hn1 hj hg),fun g ob e=>⟨fun h=>h.elim,(hH g ob e).1,(hH g ob e).2.1,.inr (by show H g≠none;rw[show H g=some ob from e];simp),(hH g ob e).2.2⟩,fun _ h=>h.elim,Step.refl _ _ _,trivial,Q3,fun d hd=>by cases hd⟩
 refine wpIn_mono (mb (r:=none) hE hm hF hI hY hP c _ _ _ _ hok h0 hrun) ?_;rintro e a' w' ⟨o,s',ho,hk,hX⟩;have fin:(∃r,fv E s'.st fn.results.toList=some r∧T r s'.H)->LeavesInM (fK none) 0 E.P fn a'.tmps (fun e w'=>∃v m' r H',e= .returned v∧Rd m' w' v r∧T r H'∧Step (fun k=>H k≠none) m w m' w'∧∀g ob,H' g=some ob->w'.heap[g]?=some ob∧m' g=some 0∧(H g≠none∨w.heap.size<=g)) a'.defers .returning w':=by
  rintro⟨r,hres,hT⟩;refine hX.leaves hE (hE.high _ hj) fun D w' m1 O q1 q2 q5=>?_
  obtain⟨b,β,hrel⟩:=q1.rel;obtain⟨v,hv,hd⟩:=fT hrel hres;exact⟨v,hv,v,m1,r,s'.H,rfl,hd,hT,q5,fun g ob hg=>⟨(q2 g ob hg).2.1,(q2 g ob hg).2.2.1,(q2 g ob hg).2.2.2.1.elim .inr .inl⟩⟩
 cases e<;>simp only[oU,QW,reduceCtorEq] at ho<;>subst ho
 all_goals first|exact fin (bE hk)|exact hk.elim
theorem dS (hE:EnvOK E) (hm:E.P.follows .mixedOrders=true) (hF:∀f C,F.F f=some C->cV E f C) (hI:∀t name C,F.I t name=some C->ng E t name C) {f:FuncId} {fn:Func} {c:Code} {C:List V->HH->Tr} {k:Nat} (hf:E.P.funcs[f]?=some fn) (hb:fn.body=some c) (hcall:∀args w,(callFunc f args).run E.P w= .ok (.enter f args) w) (hn:fn.ntmps=n) (hk:k<=n) (hn1:n<=1000) (hok:sm E.any F.any (fun id=>(F.P id).isSome) n c=true)
 (hbody:∀us H T,C us H T->us.all V.dat=true->us.length=k∧co E F c ⟨start us,H⟩ (HM E fn.results.toList T)) (hP:∀id,F.P id=none:=by intro _;rfl) (hY:iM E F.Y:=by exact jp):cV E f C:=
 BN hE hm hF hI (fun id p h=>by rw[hP] at h;cases h) hf hb hcall hn hk hn1 hok hbody hY
theorem BO (hE:EnvOK E) (hm:E.P.follows .mixedOrders=true) (hF:∀f C,F.F f=some C->cV E f C) (hI:∀t name C,F.I t name=some C->ng E t name C) (hP:∀id p,F.P id=some p->uz E n none p) {f:FuncId} {fn:Func} {c:Code} {C:List V->HH->Tr} {k:Nat} (hf:E.P.funcs[f]?=some fn) (hb:fn.body=some c) (hcall:∀args w,(callFunc f args).run E.P w= .ok (.enter f args) w) (hn:fn.ntmps=n) (hk:k<=n) (hn1:n<=1000) (hok:sm E.any F.any (fun id=>(F.P id).isSome) n c=true)
 (hbody:∀us H T,C us H T->us.all V.dat=true->us.length=k∧co E F c ⟨start us,H⟩ (HN E fn.results.toList T)) (hY:iM E F.Y:=by exact jp):cV E f C:=by
 refine⟨hcall,fun m w vs us H T hC hdat hr hH hj hg=>?_⟩;obtain⟨hl,hrun⟩:=hbody us H T hC hdat;refine gy.1 (callsIn_of_wp_marks (F:=fK none) (n:=0) hf hb trivial ?_);rw[hn];let B:Xb:=⟨fun k=>H k≠none,Kno.top,m,w⟩
 have h0:HoldX E n B ⟨start us,H⟩ {tmps:=vs++Array.replicate (n-vs.size) Go.undef,defers:=[]} w:=
  ⟨[],m,_,Now.first (jT hr hdat hl hk hn1 hj hg),fun g ob e=>⟨fun h=>h.elim,(hH g ob e).1,(hH g ob e).2.1,.inr (by show H g≠none;rw[show H g=some ob from e];simp),(hH g ob e).2.2⟩,fun _ h=>h.elim,Step.refl _ _ _,trivial,Q3,fun d hd=>by cases hd⟩
 refine wpIn_mono (mb (r:=none) hE hm hF hI hY hP c _ _ _ _ hok h0 hrun) ?_;rintro e a' w' ⟨o,s',ho,hk,hX⟩;have fin:(∃r,fv E s'.st fn.results.toList=some r∧uA r s'.H T)->LeavesInM (fK none) 0 E.P fn a'.tmps (fun e w'=>∃v m' r H',e= .returned v∧Rd m' w' v r∧T r H'∧Step (fun k=>H k≠none) m w m' w'∧∀g ob,H' g=some ob->w'.heap[g]?=some ob∧m' g=some 0∧(H g≠none∨w.heap.size<=g)) a'.defers .returning w':=by
  rintro⟨r,hres,Z,u,hZ,hT⟩;refine hX.leaves hE (hE.high _ hj) fun D w' m1 O q1 q2 q5=>?_
  obtain⟨b,β,hrel⟩:=q1.rel;obtain⟨v,hv,hd⟩:=fT hrel hres;have hs:Step (fun k=>s'.H k≠none) m1 w' (fun k=>if Z k=true∧s'.H k≠none then none else m1 k) w':=by
   refine⟨rfl,rfl,rfl,⟨PB _,fun b off v hlt hm hc=>hc,fun b hlt fr' hf=>?_,fun b es c hm hc=>hc⟩,fun k hk hn=>⟨rfl,PS (fun h=>hn h.2)⟩⟩;split at hf
   . cases hf
   . exact⟨fr',hf,PB _⟩
  refine⟨v,hv,v,_,u,_,rfl,hZ _ w' v (fun g ob hg=>(q2 g ob hg).2.1) (fun g h1 h2=>PO ⟨h1,h2⟩) (hd.mono hs.ext),hT,q5.next hs (fun i hi e=>?_),fun g ob hg=>?_⟩
  . cases e':s'.H i with
    |none=>exact absurd e' e
    |some ob=>exact(q2 i ob e').2.2.2.1.resolve_left (Q7.2 hi)
  . split at hg
    . cases hg
    . rename_i hz;exact⟨(q2 g ob hg).2.1,by rw[PS (fun h=>hz h.1)];exact(q2 g ob hg).2.2.1,(q2 g ob hg).2.2.2.1.elim .inr .inl⟩
 cases e<;>simp only[oU,QW,reduceCtorEq] at ho<;>subst ho
 all_goals first|exact fin (bE hk)|exact hk.elim
theorem jq (hE:EnvOK E) (hm:E.P.follows .mixedOrders=true) (hF:∀f C,F.F f=some C->cV E f C) (hI:∀t name C,F.I t name=some C->ng E t name C) {f:FuncId} {fn:Func} {c:Code} {C:List V->HH->Tr} {k:Nat} (hf:E.P.funcs[f]?=some fn) (hb:fn.body=some c) (hcall:∀args w,(callFunc f args).run E.P w= .ok (.enter f args) w) (hn:fn.ntmps=n) (hk:k<=n) (hn1:n<=1000) (hok:sm E.any F.any (fun id=>(F.P id).isSome) n c=true)
 (hbody:∀us H T,C us H T->us.all V.dat=true->us.length=k∧co E F c ⟨start us,H⟩ (HN E fn.results.toList T)) (hP:∀id,F.P id=none:=by intro _;rfl) (hY:iM E F.Y:=by exact jp):cV E f C:=
 BO hE hm hF hI (fun id p h=>by rw[hP] at h;cases h) hf hb hcall hn hk hn1 hok hbody hY
end
variable {E:Env}
theorem vV {F:Fx} {K:XS->Prop} (need:Nat->List Nat) (I:Nat->HH->(Nat->V)->Prop) (val0:Nat->V) (h1:qU ops=true) (h2:((List.range ops.length).all fun i=>(match ops[i]? with|some o=>(need i).all fun k=>(directV o).any (g3 ops k)|none=>true))=true) (h3:I 0 s.H val0)
 (h4:∀(L i:Nat) (o:Oper) (H:HH) (val:Nat->V) (st:St),ops[i]?=some o->L.testBit i=false->(∀k∈directV o,L.testBit k=true)->ClosedM ops L->I L H val->(∀k∈need i,st.t k=val k)->(∀k,(ops.all fun o=>o.dst !=some k)=true->st.t k=s.st.t k)->st.b=s.st.b->
  dI E F ⟨ops⟩ [o] ⟨st,H⟩ fun s'=>∃val',(∀k,o.dst≠some k->val' k=val k)∧I (L|||2^i) s'.H val'∧Le (match o.dst with|some d=>st.put (some d) (val' d)|none=>st) s'.st)
 (h5:∀H val,I (2^ops.length-1) H val->∃ts bs,jk (mR s.st val ops (2^ops.length-1)) ts∧jl (mR s.st val ops (2^ops.length-1)) bs∧K ⟨fC ts bs,H⟩):yn E F ops s K:=by
 refine⟨need,fun L H val bx=>bx=s.st.b∧I L H val,val0,h1,h2,⟨rfl,h3⟩,fun L i o H val bx a b c d ⟨hb,e⟩ f=>?_,fun H val bx ⟨hb,e⟩=>by subst hb;exact h5 H val e⟩;subst hb;have h:=h4 L i o H val (mR s.st val ops L) a b c d e f (fun _ hk=>bd hk) rfl;refine Eq.mp (RB (dI E F ⟨ops⟩ [o] ⟨mR s.st val ops L,H⟩) (funext fun s'=>propext ⟨?_,?_⟩)) h
 . rintro⟨val',q1,q2,q3⟩;refine⟨val',q1,s.st.b,⟨rfl,q2⟩,?_⟩;unfold Fe;cases hd:o.dst<;>(rw[hd] at q3;exact q3)
 . rintro⟨val',q1,bx',⟨rfl,q2⟩,q3⟩;refine⟨val',q1,q2,?_⟩;unfold Fe at q3;cases hd:o.dst<;>(rw[hd] at q3;exact q3)
def so:List (FuncId×(List V->HH->Tr))->FuncId->Option (List V->HH->Tr)
 |[],_=>none
 |p::l,f=>if p.1=f then some p.2 else so l f
def Ks (E:Env):List (FuncId×(List V->HH->Tr))->Prop
 |[]=>True
 |p::l=>cV E p.1 p.2∧Ks E l
theorem eO {E:Env}:∀{l:List (FuncId×(List V->HH->Tr))},Ks E l->∀f C,so l f=some C->cV E f C
 |[],_,f,C,e=>by cases e
 | p::l,h,f,C,e=>by
   unfold so at e;split at e
   . rename_i hp;subst hp;cases e;exact h.1
   . exact eO h.2 f C e
theorem BP (k:FuncId) (C:List V->HH->Tr) (l:List (FuncId×(List V->HH->Tr))) (f:FuncId):so ((k,C)::l) f=if k=f then some C else so l f:=rfl
theorem Ff (f:FuncId):so [] f=none:=rfl
attribute [go_sem] BP Ff
theorem BQ (K:α->Prop):fi none K=False:=rfl
theorem BS (k:IntKind) (i:Int):jV (.x (.int k i))=some [.int k i]:=rfl
theorem yB (b:Bool):jV (.x (.bool b))=some [.bool b]:=rfl
theorem uB (p:Option Addr) (l c:Nat):jV (.x (.slice p l c))=some [.slice p l c]:=rfl
theorem BT (s:ByteArray):jV (.x (.string s))=some [.string s]:=rfl
theorem BU (p:Option Addr):jV (.x (.pointer p))=some [.pointer p]:=rfl
theorem BV (z:Nat) (es:List V) (t:Option Nat):jV (.sl true z es t)=some [.slice none 0 0]:=rfl
theorem BW (v:Value) (n:Nat):(madeCells #[v] n).toList=List.replicate n v:=by rw[List.eq_replicate_iff];refine⟨by simp[madeCells],fun b hb=>?_⟩;simp only[madeCells,Sr,Sh,Qi] at hb;obtain⟨x,_,rfl⟩:=hb;simp[Nat.mod_one]
theorem yC (k:IntKind) (i:Int):(Value.int k i).cells= #[.int k i]:=rfl
theorem uC (b:Bool):(Value.bool b).cells= #[.bool b]:=rfl
theorem BY (a:Option Addr) (l c:Nat):(Value.slice a l c).cells= #[.slice a l c]:=rfl
attribute [go_sem] BW yC uC BY
theorem getD_some {α:Type} (a b:α):(some a).getD b=a:=rfl
theorem map_some {α β:Type} (f:α->β) (a:α):(some a).map f=some (f a):=rfl
attribute [go_sem] nc um rj o5 rk rl rm un uo up BG ym uh ui uj l7 l8 kM yq rf yr ul rh BJ yu uq yw yx BK ro BL yy nf ur rp ut rq
attribute [go_sem] m9 uk ra yj BQ BS yB uB BT BU BV m8 qV BF qW oY lY lZ ud l4 ue oZ o0 o3 l5 jW uf ug l6 HM HN getD_some map_some
attribute [congr] yl re rn ri qX qY qZ rr uu o6 uv o4 uc
variable {m:Lim}
theorem Step.of_new {S:Nat->Prop} {w w':World} (ho:w'.os=w.os) (ht:w'.tape=w.tape) (hu:w'.output=w.output) (hz:w.heap.size<=w'.heap.size) (hS:∀b,S b->m b=some 0) (hb:∀k,k<w.heap.size-> ¬S k->w'.heap[k]?=w.heap[k]?):Step S m w (fun j=>if w.heap.size<=j then some 0 else m j) w':=by
 refine⟨ho,ht,hu,⟨hz,fun b off v hlt hm hc=>?_,fun b hlt fr' hf=>?_,fun b es c hm hc=>?_⟩,fun k hk hn=>⟨hb k hk hn,PS (Q7.2 hk)⟩⟩
 . by_cases e:S b
   . exact absurd (hm 0 (hS b e)) (Ro _)
   . rw[aT (hb b hlt e)];exact hc
 . rw[PS (Q7.2 hlt)] at hf;exact⟨fr',hf,PB _⟩
 . by_cases e:S b
   . rw[hS b e] at hm;cases hm
   . rw[hb b (du hc) e];exact hc
end Go.Proofs.Ytldnpcolhdnkdaa
