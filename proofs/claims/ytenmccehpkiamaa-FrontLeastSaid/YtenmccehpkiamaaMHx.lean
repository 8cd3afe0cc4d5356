/- A run that tells blocks of its own by their very contents, and writes them: for code that writes rows and structs in place, and hands them on. What each operation does to them. No program is named here. -/
import Derived.Test.YtenmccehpkiamaaMH
namespace Go.Proofs.Ytenmccehpkiamaa
set_option linter.unusedSimpArgs false
open Go Go.RowKit
abbrev HH:=Nat->Option Obj
structure XS where
 st:St
 H:HH
abbrev Tr:=(V->HH->Prop)->Prop
structure Fx where
 F:FuncId->Option (List V->HH->Tr)
 D:Nat->Bool
 I:TypeId->String->Option (Value->List V->HH->Tr):=fun _ _=>none
 Z:Nat->Bool:=fun _=>false
 any:Nat->Bool:=fun _=>false
 P:Nat->Option (Code×(XS->(Out->XS->Prop)->Prop)):=fun _=>none
 Y:Oper->(Operand->V)->HH->Option Tr:=fun _ _ _=>none
def rowO (l:List Value) (ty:TypeId):Obj:= .cells l.toArray ty (0,0)
def an (H:HH) (g:Nat):Option (List Value×TypeId):=match H g with
 |some (.cells vals ty (0,0))=>some (vals.toList,ty)
 |_=>none
variable {H:HH} {g:Nat}
theorem ah {l:List Value} {ty:TypeId} (h:H g=some (rowO l ty)):an H g=some (l,ty):=by unfold an;rw[h];simp[rowO]
theorem gF {c:List Value×TypeId} (h:an H g=some c):H g=some (.cells c.1.toArray c.2 (0,0)):=by
 unfold an at h;split at h
 . rename_i vals ty e;cases h;rw[e]
 . cases h
def cd (l:List Value) (off:Nat) (xs:List Value):List Value:=l.take off++xs++l.drop (off+xs.length)
theorem ke (l:List Value) (i:Nat) (v:Value) (h:i<l.length):cd l i [v]=l.set i v:=by unfold cd;rw[List.set_eq_take_append_cons_drop,L0 h];simp
variable {v:Value}
theorem vm (h:v.oneCell'=true):v.cells= #[v]:=by cases v<;>first|rfl|cases h
def vo:List V->Option (List Value)
 |[]=>some []
 | .x v::us=>if v.oneCell'=true then (vo us).map (v:: ·) else none
 | .sl true _ _ _::us=>(vo us).map (.slice none 0 0:: ·)
 |_::_=>none
def iF:V->Option (List Value)
 | .x v=>vo [.x v]
 | .sl true z es t=>vo [.sl true z es t]
 | .agg us=>vo us
 |_=>none
def en {α:Type} (o:Option α) (K:α->Prop):Prop:=match o with
 |some a=>K a
 |none=>False
variable {α:Type}
theorem vp (a:α) (K:α->Prop):en (some a) K=K a:=rfl
theorem rv {o o':Option α} (h:o=o') (K:α->Prop):en o K=en o' K:=by rw[h]
theorem bt {α:Type} {o:Option α} {K:α->Prop} (h:en o K):∃a,o=some a∧K a:=by
 cases o with
 |none=>exact h.elim
 |some a=>exact⟨a,rfl,h⟩
def fg (P:Program) (t:TypeId) (f:Nat):Option Nat:=match P.underlying t with
 | some (.struct fs)=>match fs[f]? with
   | some fd=>match bi P fd.type with
     |some (_+1)=>some fd.offset
     |_=>none
   |none=>none
 |_=>none
def wf (P:Program) (t:TypeId):Option Nat:=match P.underlying t with
 |some (.slice el)=>bi P el
 |_=>none
def mQ (P:Program) (t:TypeId) (H:HH):V->Option Tr
 | .x (.pointer (some ⟨g,off,none⟩))=>some fun T=>en (an H g) fun c=>en (ca P t (c.1.map V.x) off) fun u=>T u H
 |_=>none
def kf (P:Program) (t:TypeId) (H:HH) (y:V):V->Option Tr
 | .x (.pointer (some ⟨g,off,none⟩))=>some fun T=>en (an H g) fun c=>en (iF y) fun xs=>(bi P t=some xs.length∧off+xs.length<=c.1.length)∧T .undef (au H g (some (rowO (cd c.1 off xs) c.2)))
 |_=>none
def kg (P:Program) (t:TypeId) (f:Nat) (H:HH):V->Option Tr
 | .x (.pointer (some ⟨g,off,none⟩))=>some fun T=>en (fg P t f) fun k=>T (.x (.pointer (some ⟨g,off+k,none⟩))) H
 |_=>none
def rx (H:HH):V->Option Tr
 | .x (.pointer (some p))=>some fun T=>T (.x (.pointer (some p))) H
 |_=>none
def kh (P:Program) (t:TypeId) (H:HH):V->V->Option Tr
 | .x (.slice (some ⟨g,off,none⟩) len _),.x (.int _ i)=>some fun T=>en (wf P t) fun z=>(0<=i∧i<len)∧T (.x (.pointer (some ⟨g,off+i.toNat*z,none⟩))) H
 |_,_=>none
def ry (P:Program) (t:TypeId) (H:HH):V->Option Tr
 | .x (.slice _ len _)=>some fun T=>en (wf P t) fun _=>T (.x (.int .i64 (len:Int))) H
 |_=>none
def yQ (t:TypeId) (H:HH) (xs:Option (List Value)):Tr:=fun T=>en xs fun l=>∀g,H g=none->T (.x (.pointer (some ⟨g,0,none⟩))) (au H g (some (rowO l t)))
def KW (P:Program) (t:TypeId):Option (TypeId×Nat×Nat×Value):=match P.underlying t with
 | some (.slice el)=>match P.info? el with
   |some i=>i.zero.map fun z=>(el,i.size,i.bytes,z)
   |none=>none
 |_=>none
def mR (P:Program) (t:TypeId) (H:HH):V->V->Option Tr
 | .x (.int k n),.x (.int k' n')=>some fun T=>en (KW P t) fun c=>(k=k'∧n=n'∧0<=n∧(c.2.2.1:Int)*n<=281474976710656∧n<=9223372036854775807)∧∀g,H g=none->T (.x (.slice (some ⟨g,0,none⟩) n.toNat n.toNat)) (au H g (some (rowO (madeCells c.2.2.2.cells (n.toNat*c.2.1)).toList c.1)))
 |_,_=>none
def mS (F:FuncId->Option (List V->HH->Tr)) (H:HH) (us:List V):Option FuncId->Option Tr
 | some f=>match F f with
   |some C=>some fun T=>us.all V.dat=true∧C us H T
   |none=>none
 |none=>none
def yR (P:Program) (t:TypeId):Bool:=match P.underlying t with
 |some (.interface _)=>false
 |some _=>true
 |none=>false
def mT (P:Program) (t:TypeId) (H:HH):V->V->Option Tr
 | .x (.slice (some ⟨g,off,none⟩) _ cap),.x (.int _ k)=>some fun T=>en (wf P t) fun _=>(0<=k∧k<=cap)∧T (.x (.slice (some ⟨g,off,none⟩) k.toNat cap)) H
 |_,_=>none
def ki (P:Program) (t:TypeId) (H:HH):V->Option Tr
 | .x v=>some fun T=>yR P t=true∧T (.x (.iface t v)) H
 |_=>none
def iG (P:Program) (t:TypeId) (H:HH):V->Option Tr
 | .x (.iface t' v)=>some fun T=>(yR P t=true∧t'=t)∧T (.x v) H
 |_=>none
def rz (I:TypeId->String->Option (Value->List V->HH->Tr)) (name:String) (H:HH) (us:List V):V->Option Tr
 | .x (.iface t v)=>match I t name with
   |some C=>some fun T=>us.all V.dat=true∧C v us H T
   |none=>none
 |_=>none
def F8 (P:Program) (t:TypeId):Bool:=match P.underlying t with
 | some (.slice el)=>match P.info? el with
   | some i=>match i.zero with
     |some z=>decide (i.size=1∧z.cells.size=1∧i.bytes=8)
     |none=>false
   |none=>false
 |_=>false
def KI (H:HH) (v:Value) (x:Int) (T:V->HH->Prop):Prop:=∃es,RowJ H v es∧es.length+1<=100000000∧∀v' g ob,blkOf v'=some g->(blkOf v=some g∨H g=none)->RowJ (au H g (some ob)) v' (es++[x])->T (.x v') (au H g (some ob))
def rA (P:Program) (t:TypeId) (H:HH):V->V->Option Tr
 | .x v,.sl false 1 [.x (.int .i64 x)] _=>some fun T=>F8 P t=true∧KI H v x T
 |_,_=>none
def kj (H:HH):V->Option Tr
 | .x (.slice (some ⟨g,0,none⟩) n cap)=>some fun T=>en (an H g) fun c=>(n<=cap∧n<=c.1.length∧((c.1.take n).all fun v=>v.oneCell')=true)∧T (.sl false 1 ((c.1.take n).map V.x) none) (au H g none)
 |_=>none
noncomputable def oO (P:Program) (F:Fx) (o:Oper) (ρ:Operand->V) (H:HH):Option Tr:=
 match o.op with
 | .load t x=>mQ P t H (ρ x)
 | .store t x y=>match o.dst with
   |none=>kf P t H (ρ y) (ρ x)
   |some _=>none
 | .fieldAddr t x f=>kg P t f H (ρ x)
 | .nilCheck x=>rx H (ρ x)
 | .indexAddr t x i=>kh P t H (ρ x) (ρ i)
 | .call {callee:= .builtin .len,args,argTypes}=>match args.toList,argTypes.toList with
   |[x],[t]=>ry P t H (ρ x)
   |_,_=>none
 | .box t x=>match (o.dst.map F.D).getD false with
   |true=>some (yQ t H (iF (ρ x)))
   |false=>none
 | .makeSlice t l c=>match (o.dst.map F.D).getD false with
   |true=>mR P t H (ρ l) (ρ c)
   |false=>none
 | .call {callee:= .value c,args,argTypes:=_}=>mS F.F H (args.toList.map fun x=>(ρ x).bare) (qb (ρ c))
 | .call {callee:= .invoke x name,args,argTypes:=_}=>rz F.I name H (args.toList.map fun x=>(ρ x).bare) (ρ x)
 | .call {callee:= .builtin .append,args,argTypes}=>match args.toList,argTypes.toList with
   | [x,y],[t,t']=>match decide (t=t') with
     |true=>rA P t H (ρ x) (ρ y)
     |false=>none
   |_,_=>none
 | .slice t x none (some k) none=>mT P t H (ρ x) (ρ k)
 | .makeInterface t x=>ki P t H (ρ x)
 | .typeAssert x _ t ok=>match ok with
   |false=>iG P t H (ρ x)
   |true=>none
 | .move x=>match (o.dst.map F.Z).getD false with
   |true=>kj H (ρ x)
   |false=>none
 | .assign x=>match (o.dst.map F.Z).getD false with
   |true=>kj H (ρ x)
   |false=>none
 |_=>none
def CQ (a b:Option Tr):Option Tr:=match a with
 |some T=>some T
 |none=>b
theorem yS (T:Tr) (b:Option Tr):CQ (some T) b=some T:=rfl
theorem oP (b:Option Tr):CQ none b=b:=rfl
theorem vq {a a':Option Tr} (h:a=a') (b:Option Tr):CQ a b=CQ a' b:=by rw[h]
noncomputable def k8 (P:Program) (F:Fx) (o:Oper) (ρ:Operand->V) (H:HH):Option Tr:=CQ (F.Y o ρ H) (oO P F o ρ H)
def df (E:Env) (F:Fx) (ops:Array Oper):List Oper->XS->(XS->Prop)->Prop
 |[],s,K=>K s
 | o::l,s,K=>match bv ops s.st.t o.guard with
   |some b=>(b=true->match k8 E.P F o (ev E s.st) s.H with
    |some T=>T fun v H'=>df E F ops l ⟨s.st.put o.dst v.bare,H'⟩ K
    | none=>match cH E o s.st with
      |some st'=>df E F ops l ⟨st',s.H⟩ K
      |none=>False)∧(b=false->df E F ops l ⟨s.st.put o.dst (.x (.tuple #[])),s.H⟩ K)
   |none=>False
def lQ (E:Env) (F:Fx) (ops:Array Oper) (l:List Oper) (H:HH) (K:XS->Prop):Option St->Prop
 |some st'=>df E F ops l ⟨st',H⟩ K
 |none=>False
def g6 (E:Env) (F:Fx) (ops:Array Oper) (o:Oper) (l:List Oper) (s:XS) (K:XS->Prop):Option Tr->Prop
 |some T=>T fun v H'=>df E F ops l ⟨s.st.put o.dst v.bare,H'⟩ K
 |none=>lQ E F ops l s.H K (cH E o s.st)
def fJ (E:Env) (F:Fx) (ops:Array Oper) (o:Oper) (l:List Oper) (s:XS) (K:XS->Prop):Option Bool->Prop
 |some b=>(b=true->g6 E F ops o l s K (k8 E.P F o (ev E s.st) s.H))∧(b=false->df E F ops l ⟨s.st.put o.dst (.x (.tuple #[])),s.H⟩ K)
 |none=>False
section
variable (E:Env) (F:Fx) (ops:Array Oper) (l:List Oper) (s:XS) (K:XS->Prop) (o:Oper) (H:HH)
theorem yT:df E F ops [] s K=K s:=rfl
theorem g7:df E F ops (o::l) s K=fJ E F ops o l s K (bv ops s.st.t o.guard):=by
 unfold df fJ;cases bv ops s.st.t o.guard with
 |none=>rfl
 |some b=>simp only[g6];congr 2
theorem vr (d:Option Tmp) (op:Op) (ty:TypeId) (pos:String) (af:Array Edge):df E F ops (⟨d,op,ty,pos,af,none⟩::l) s K=g6 E F ops ⟨d,op,ty,pos,af,none⟩ l s K (k8 E.P F ⟨d,op,ty,pos,af,none⟩ (ev E s.st) s.H):=by rw[g7];simp only[fJ,bv,true_implies,Bool.true_eq_false,false_implies,Oc]
theorem rB (d:Option Tmp) (op:Op) (ty:TypeId) (pos:String) (af:Array Edge) (g:Nat×Bool):df E F ops (⟨d,op,ty,pos,af,some g⟩::l) s K=fJ E F ops ⟨d,op,ty,pos,af,some g⟩ l s K (bv ops s.st.t (some g)):=g7 ..
theorem yU:df E F ops (o::l) s K=df E F ops [o] s fun s'=>df E F ops l s' K:=by
 rw[g7,g7];cases bv ops s.st.t o.guard with
 |none=>rfl
 | some b=>
   unfold fJ g6;cases k8 E.P F o (ev E s.st) s.H with
   |some T=>rfl
   |none=>unfold lQ;cases cH E o s.st<;>rfl
theorem rC (st':St):lQ E F ops l H K (some st')=df E F ops l ⟨st',H⟩ K:=rfl
theorem rD (T:Tr):g6 E F ops o l s K (some T)=T fun v H'=>df E F ops l ⟨s.st.put o.dst v.bare,H'⟩ K:=rfl
theorem km:g6 E F ops o l s K none=lQ E F ops l s.H K (cH E o s.st):=rfl
theorem kn:fJ E F ops o l s K (some true)=g6 E F ops o l s K (k8 E.P F o (ev E s.st) s.H):=by simp[fJ]
theorem jk:fJ E F ops o l s K (some false)=df E F ops l ⟨s.st.put o.dst (.x (.tuple #[])),s.H⟩ K:=by simp[fJ]
theorem oQ {r r':Option St} (h:r=r'):lQ E F ops l H K r=lQ E F ops l H K r':=by rw[h]
theorem oR {r r':Option Tr} (h:r=r'):g6 E F ops o l s K r=g6 E F ops o l s K r':=by rw[h]
theorem oS {r r':Option Bool} (h:r=r'):fJ E F ops o l s K r=fJ E F ops o l s K r':=by rw[h]
end
def yV {X:Type} (T:X->List (Nat×V)) (B:X->List (Nat×List V)) (J:X->HH->Prop) (μ:X->Nat) (n:Nat) (s:XS):Prop:=∃x',(g4 s.st (T x')∧g5 s.st (B x')∧J x' s.H)∧μ x'<n
def gG {X:Type} (T:X->List (Nat×V)) (B:X->List (Nat×List V)) (J:X->HH->Prop) (μ:X->Nat) (n:Nat) (K:Out->XS->Prop):Out->XS->Prop
 | .normal,s=>yV T B J μ n s
 | .ret,s=>K .ret s
 | .exit id,s=>K (.exit id) s
section
variable {X:Type} (T:X->List (Nat×V)) (B:X->List (Nat×List V)) (J:X->HH->Prop) (μ:X->Nat) (n:Nat) (K:Out->XS->Prop) (s:XS)
theorem k9:gG T B J μ n K .normal s=yV T B J μ n s:=rfl
theorem rE:gG T B J μ n K .ret s=K .ret s:=rfl
theorem oT (id:Nat):gG T B J μ n K (.exit id) s=K (.exit id) s:=rfl
variable {o o':Out}
theorem mU (h:o=o'):gG T B J μ n K o s=gG T B J μ n K o' s:=by rw[h]
end
def oU (body:XS->(Out->XS->Prop)->Prop) (s:XS) (K:Out->XS->Prop):Prop:=
 ∃ (X:Type) (T:X->List (Nat×V)) (B:X->List (Nat×List V)) (J:X->HH->Prop) (μ:X->Nat) (x0:X),(Le (eH (T x0) (B x0)) s.st∧J x0 s.H)∧
   ∀x H,J x H->body ⟨eH (T x) (B x),H⟩ (gG T B J μ (μ x) K)
variable {body:XS->(Out->XS->Prop)->Prop} {s:XS} {X:Type}
theorem bz {K:Out->XS->Prop} (T:X->List (Nat×V)) (B:X->List (Nat×List V)) (J:X->HH->Prop) (μ:X->Nat) (x0:X) (h0:g4 s.st (T x0)) (h1:g5 s.st (B x0)) (hJ:J x0 s.H) (h:∀x H,J x H->body ⟨eH (T x) (B x),H⟩ (gG T B J μ (μ x) K)):oU body s K:=⟨X,T,B,J,μ,x0,⟨dJ h0 h1,hJ⟩,h⟩
theorem lR {K:Out->XS->Prop} (i n tok:Nat) {n0:Nat} {k0:Option Nat} (h:s.st.t i= .sl true n0 [] k0) (hr:oU body ⟨⟨au s.st.t i (.sl true n [] (some tok)),s.st.b⟩,s.H⟩ K):oU body s K:=by
 obtain⟨X,T,B,J,μ,x0,⟨h0,hJ⟩,hx⟩:=hr;refine⟨X,T,B,J,μ,x0,⟨⟨fun j=>?_,h0.b⟩,hJ⟩,hx⟩;have:=h0.t j;simp only[aE] at this;split at this
 . rename_i e;subst e;rw[h];rcases this with e|e|⟨n1,k1,n2,k2,e,_⟩
   . exact .inl e
   . exact .inr (.inr ⟨_,_,_,_,e,rfl⟩)
   . exact .inr (.inr ⟨_,_,_,_,e,rfl⟩)
 . exact this
def EO (st:St) (val:Nat->V) (ops:List Oper) (L:Nat) (bx:Nat->Option (List V)):St:=⟨(kR st val ops L).t,bx⟩
def B4 (d:Option Tmp) (st:St) (v:Nat->V) (bx:Nat->Option (List V)):St:=⟨match d with|some d=>au st.t d (v d)|none=>st.t,bx⟩
def vt (E:Env) (F:Fx) (ops:List Oper) (s:XS) (K:XS->Prop):Prop:=
 ∃ (need:Nat->List Nat) (I:Nat->HH->(Nat->V)->(Nat->Option (List V))->Prop) (val0:Nat->V),oN ops=true∧((List.range ops.length).all fun i=>(match ops[i]? with|some o=>(need i).all fun k=>(directV o).any (f7 ops k)|none=>true))=true∧I 0 s.H val0 s.st.b∧
   (∀(L i:Nat) (o:Oper) (H:HH) (val:Nat->V) (bx:Nat->Option (List V)),ops[i]?=some o->L.testBit i=false->(∀k∈directV o,L.testBit k=true)->ClosedM ops L->I L H val bx->(∀k∈need i,(kR s.st val ops L).t k=val k)->
    df E F ⟨ops⟩ [o] ⟨EO s.st val ops L bx,H⟩ fun s'=>∃val',(∀k,o.dst≠some k->val' k=val k)∧∃bx',I (L|||2^i) s'.H val' bx'∧Le (B4 o.dst (kR s.st val ops L) val' bx') s'.st)∧
   ∀H val bx,I (2^ops.length-1) H val bx->∃ts bs,g4 (EO s.st val ops (2^ops.length-1) bx) ts∧g5 (EO s.st val ops (2^ops.length-1) bx) bs∧K ⟨eH ts bs,H⟩
def lS (E:Env) (F:Fx) (id:Nat) (ops:Array Oper) (s:XS) (K:Out->XS->Prop):Bool->Prop
 |true=>vt E F ops.toList s (K .normal)
 |false=>run E (.region id ops true) s.st fun o st'=>K o ⟨st',s.H⟩
variable {ops:List Oper}
theorem aL {st:St} {val:Nat->V} {L k:Nat} (h:cK ops L k=true):(kR st val ops L).t k=val k:=L0 h
def dh (F:Fx):Code->Option (Code×(XS->(Out->XS->Prop)->Prop))
 | .region id _ _=>F.P id
 |_=>none
def tf (c' c:Code) (p:Prop):Prop:=c'=c∧p
theorem oV (c' c:Code) {p p':Prop} (h:p=p'):tf c' c p=tf c' c p':=by rw[h]
def ko (c:Code) (s:XS) (K:Out->XS->Prop) (d:Prop):Option (Code×(XS->(Out->XS->Prop)->Prop))->Prop
 |some p=>tf p.1 c (p.2 s K)
 |none=>d
def bR (E:Env) (F:Fx):Code->XS->(Out->XS->Prop)->Prop
 | .skip,s,K=>K .normal s
 | .region _ ops false,s,K=>df E F ops ops.toList s (K .normal)
 | .region id ops true,s,K=>lS E F id ops s K (F.any id)
 | .seq a b,s,K=>ko (.seq a b) s K (bR E F a s fun o s'=>match o with
   | .normal=>bR E F b s' K
   |o=>K o s') (dh F a)
 | .cond c a b,s,K=>match ev E s.st c with
   | .x (.bool t)=>(t=true->bR E F a s K)∧(t=false->bR E F b s K)
   |_=>False
 | .block id a,s,K=>bR E F a s fun o s'=>match o with
   | .exit id'=>if id'=id then K .normal s' else K (.exit id') s'
   |o=>K o s'
 | .loop a,s,K=>oU (bR E F a) s K
 | .label _,s,K=>K .normal s
 | .exit id,s,K=>K (.exit id) s
 | .ret,s,K=>K .ret s
 |_,_,_=>False
def vu (E:Env) (F:Fx) (b:Code) (K:Out->XS->Prop):Out->XS->Prop
 | .normal,s=>bR E F b s K
 | .ret,s=>K .ret s
 | .exit id,s=>K (.exit id) s
def iH (id:Nat) (K:Out->XS->Prop):Out->XS->Prop
 | .exit id',s=>if id'=id then K .normal s else K (.exit id') s
 | .normal,s=>K .normal s
 | .ret,s=>K .ret s
def jl (E:Env) (F:Fx) (a b:Code) (s:XS) (K:Out->XS->Prop):V->Prop
 | .x (.bool t)=>(t=true->bR E F a s K)∧(t=false->bR E F b s K)
 |_=>False
section
variable (E:Env) (F:Fx) (a b:Code) (s:XS) (K:Out->XS->Prop) (id:Nat)
theorem vv:bR E F .skip s K=K .normal s:=rfl
theorem oW (ops:List Oper):bR E F (.region id ⟨ops⟩ false) s K=df E F ⟨ops⟩ ops s (K .normal):=rfl
theorem vw (ops:List Oper):bR E F (.region id ⟨ops⟩ true) s K=lS E F id ⟨ops⟩ s K (F.any id):=rfl
theorem rF (ops:List Oper):lS E F id ⟨ops⟩ s K true=vt E F ops s (K .normal):=rfl
theorem oX (ops:List Oper):lS E F id ⟨ops⟩ s K false=run E (.region id ⟨ops⟩ true) s.st (fun o st'=>K o ⟨st',s.H⟩):=rfl
theorem oY (ops:Array Oper) {o o':Bool} (h:o=o'):lS E F id ops s K o=lS E F id ops s K o':=by rw[h]
theorem la (ops:Array Oper) (d:Bool):dh F (.region id ops d)=F.P id:=rfl
theorem rG:dh F (.seq a b)=none:=rfl
theorem oZ (c:Operand):dh F (.cond c a b)=none:=rfl
theorem mV:dh F (.block id a)=none:=rfl
theorem o0:dh F (.loop a)=none:=rfl
theorem o3:dh F .skip=none:=rfl
theorem o4:dh F (.exit id)=none:=rfl
theorem rH:dh F .ret=none:=rfl
theorem rI (c:Code) (d:Prop):ko c s K d none=d:=rfl
theorem rJ (c c':Code) (W:XS->(Out->XS->Prop)->Prop) (d:Prop):ko c s K d (some (c',W))=tf c' c (W s K):=rfl
theorem o5 (c:Code) (d:Prop) {o o':Option (Code×(XS->(Out->XS->Prop)->Prop))} (h:o=o'):ko c s K d o=ko c s K d o':=by rw[h]
theorem yW:bR E F (.seq a b) s K=ko (.seq a b) s K (bR E F a s (vu E F b K)) (dh F a):=by show ko _ s K (bR E F a s _) _=_;congr 2;funext o s';cases o<;>rfl
theorem vx (c:Operand):bR E F (.cond c a b) s K=jl E F a b s K (ev E s.st c):=by show(match ev E s.st c with| .x (.bool t)=>(t=true->bR E F a s K)∧(t=false->bR E F b s K)|_=>False)=_;unfold jl;split<;>simp_all
theorem rK:bR E F (.block id a) s K=bR E F a s (iH id K):=by show bR E F a s _=_;congr 1;funext o s';cases o<;>rfl
theorem vy:bR E F (.loop a) s K=oU (bR E F a) s K:=rfl
theorem vz:bR E F (.exit id) s K=K (.exit id) s:=rfl
theorem yX:bR E F .ret s K=K .ret s:=rfl
theorem o6:vu E F b K .normal s=bR E F b s K:=rfl
theorem yY:vu E F b K .ret s=K .ret s:=rfl
theorem vA:vu E F b K (.exit id) s=K (.exit id) s:=rfl
theorem lc:iH id K .normal s=K .normal s:=rfl
theorem rL:iH id K .ret s=K .ret s:=rfl
theorem o7 (id':Nat):iH id K (.exit id') s=if id'=id then K .normal s else K (.exit id') s:=rfl
theorem rM:jl E F a b s K (.x (.bool true))=bR E F a s K:=by simp[jl]
theorem o8:jl E F a b s K (.x (.bool false))=bR E F b s K:=by simp[jl]
theorem o9 {v v':V} (h:v=v'):jl E F a b s K v=jl E F a b s K v':=by rw[h]
variable {o o':Out}
theorem rN (h:o=o'):vu E F b K o s=vu E F b K o' s:=by rw[h]
theorem mW (h:o=o'):iH id K o s=iH id K o' s:=by rw[h]
theorem rO {s':XS} (h:s=s'):bR E F a s K=bR E F a s' K:=by rw[h]
end
structure Xb where
 X:Nat->Prop
 Kn:Kno
 ms:Lim
 ws:World
def iI (D:List Deferred) (O:Nat->Prop) (lo:Nat) (w:World) (H:HH):Prop:=D.Nodup∧∀d∈D,∃b,d=markD b∧lo<=b∧w.heap[b]?=some (.deferred (some []))∧ ¬O b∧H b=none
def HoldX (E:Env) (n:Nat) (B:Xb) (s:XS) (a:Act) (w:World):Prop:=
 ∃D m O,Now E n D O m s.st a w∧(∀g ob,s.H g=some ob-> ¬O g∧w.heap[g]?=some ob∧m g=some 0∧(B.ws.heap.size<=g∨B.X g)∧E.K<=g)∧(∀k,O k->B.ws.heap.size<=k∨B.X k)∧Step B.X B.ms B.ws m w∧B.Kn.P m w∧iI D O B.ws.heap.size w s.H
def CR (P:Program) (f:FuncId) (vs:Array Value) (m:Lim) (w:World) (H:HH) (T:V->HH->Prop):Prop:=
 Calls P f vs w fun e w'=>∃v m' r H',e= .returned v∧Rd m' w' v r∧T r H'∧Step (fun k=>H k≠none) m w m' w'∧∀g ob,H' g=some ob->w'.heap[g]?=some ob∧m' g=some 0∧(H g≠none∨w.heap.size<=g)
def cE (E:Env) (f:FuncId) (C:List V->HH->Tr):Prop:=
 (∀args w,(callFunc f args).run E.P w= .ok (.enter f args) w)∧
 ∀ (m:Lim) (w:World) (vs:Array Value) (us:List V) (H:HH) (T:V->HH->Prop),C us H T->us.all V.dat=true->RdL m w vs.toList us->(∀g ob,H g=some ob->w.heap[g]?=some ob∧m g=some 0∧E.K<=g)->E.J w->(∀g,Rd m w (.pointer (some ⟨g,0,none⟩)) (E.G g))->
   CR E.P f vs m w H T
def ld (E:Env) (t:TypeId) (name:String) (C:Value->List V->HH->Tr):Prop:=
 ∀ (m:Lim) (w:World) (v:Value) (vs:Array Value) (us:List V) (H:HH) (T:V->HH->Prop),C v us H T->us.all V.dat=true->RdL m w vs.toList us->(∀g ob,H g=some ob->w.heap[g]?=some ob∧m g=some 0∧E.K<=g)->E.J w->(∀g,Rd m w (.pointer (some ⟨g,0,none⟩)) (E.G g))->
   ∃f r,(callMethod (.iface t v) name vs).run E.P w= .ok (.enter f (#[r]++vs)) w∧CR E.P f (#[r]++vs) m w H T
section
variable {E:Env} {n:Nat} {B:Xb} {F:Fx} {s:XS} {a:Act} {w w':World} {r:Option Nat}
variable {st':St}
theorem HoldX.le (h:HoldX E n B s a w) (hl:Le st' s.st):HoldX E n B ⟨st',s.H⟩ a w:=by obtain⟨D,m,O,h1,h2⟩:=h;exact⟨D,m,O,h1.le hl,h2⟩
theorem HoldX.ev (h:HoldX E n B s a w) (x:Operand) {v:Value} (hx:ev E s.st x= .x v):a.eval x=v:=by obtain⟨D,m,O,⟨⟨b,β,hr⟩,_⟩,_⟩:=h;exact(hx▸aB hr x).x
theorem HoldX.at (h:HoldX E n B s a w) {g:Nat} {ob:Obj} (hg:s.H g=some ob):w.heap[g]?=some ob:=by obtain⟨D,m,O,_,h2,_⟩:=h;exact(h2 g ob hg).2.1
theorem HoldX.new (h:HoldX E n B s a w):s.H w.heap.size=none:=by
 cases e:s.H w.heap.size with
 |none=>rfl
 |some ob=>exact absurd (aj (h.at e)) (Nat.lt_irrefl _)
theorem HoldX.put (h:HoldX E n B s a w) {d:Option Tmp} (hd:∀k,d=some k->k<n) {v:Value} {u:V} (hv:∀m,Rd m w v u):HoldX E n B ⟨s.st.put d u.bare,s.H⟩ (a.put d v) w:=by
 obtain⟨D,m,O,h1,h2⟩:=h;cases d with
 |none=>exact⟨D,m,O,h1,h2⟩
 |some k=>exact⟨D,m,O,h1.put (hd k rfl) (hv m),h2⟩
variable {m:Lim}
theorem HoldX.grown {D:List Deferred} {O:Nat->Prop} {m':Lim} {a':Act} (h2:∀g ob,s.H g=some ob-> ¬O g∧w.heap[g]?=some ob∧m g=some 0∧(B.ws.heap.size<=g∨B.X g)∧E.K<=g) (h4:∀k,O k->B.ws.heap.size<=k∨B.X k) (h5:Step B.X B.ms B.ws m w) (h6:B.Kn.P m w∧iI D O B.ws.heap.size w s.H)
 (hn:Now E n D (mL O w w') m' st' a' w') (hs:Step O m w m' w'):HoldX E n B ⟨st',s.H⟩ a' w':=by
 refine⟨D,m',_,hn,fun g ob hg=>?_,fun k hg=>?_,h5.next hs (fun i hi ho=>(h4 i ho).resolve_left (Nj.2 hi)),B.Kn.mono _ _ _ _ h6.1 hs.ext,h6.2.1,fun d hd=>?_⟩
 . obtain⟨q1,q2,q3,q4⟩:=h2 g ob hg;obtain⟨s1,s2⟩:=hs.same g (aj q2) q1;refine⟨fun hgr=>?_,s1.trans q2,s2.trans q3,q4⟩;rcases hgr.2 with ho|ho
   . exact q1 ho
   . exact absurd (aj q2) (My.2 ho)
 . rcases hg.2 with ho|ho
   . exact h4 k ho
   . exact .inl (tl h5.ext.size ho)
 . obtain⟨b,rfl,q1,q2,q3,q4⟩:=h6.2.2 d hd;refine⟨b,rfl,q1,(hs.same b (aj q2) q3).1.trans q2,fun hg=>?_,q4⟩;rcases hg.2 with hg|hg
   . exact q3 hg
   . exact absurd (aj q2) (My.2 hg)
theorem Ee (hE:EnvOK E) (hm:E.P.follows .mixedOrders=true) {c:Code} {K:Out->St->Prop} (hok:bV E.any n c=true) (h:HoldX E n B s a w) (hr:run E c s.st K):
 c.wpIn (eL r) 0 E.P (fun e a' w'=>∃o st',mM e=some o∧K o st'∧HoldX E n B ⟨st',s.H⟩ a' w') a w:=by
 obtain⟨D,m,O,h1,h2,h4,h5,h6⟩:=h;refine wpIn_mono (BT (r:=r) (W:=fun _=>true) hE hm hok (mE c) h1 hr) ?_;rintro e a' w' ⟨_,o,st',m',ho,hK,hn,hs⟩;exact⟨o,st',ho,hK,HoldX.grown h2 h4 h5 h6 hn hs⟩
theorem F9 (hE:EnvOK E) (h:HoldX E n B s a w) {o:Oper} {st':St} (hx:cH E o s.st=some st') (hd:∀k,o.dst=some k->k<n) {K:Act->World->Prop} {Q:Exit->Act->World->Prop} (hK:∀a' w',HoldX E n B ⟨st',s.H⟩ a' w'->K a' w'):o.wp E.P a w K Q:=by obtain⟨D,m,O,h1,h2,h4,h5,h6⟩:=h;have hlt:=h1.lt;obtain⟨b,β,hrel⟩:=h1.rel;refine i6 (hE.x (.inr (fun _ h=>h))) hrel hx hd (fun a' w' m' β' hr'=>hK a' w' ?_);obtain⟨hn,hst⟩:=Now.of_rel hE hlt hr';exact HoldX.grown h2 h4 h5 h6 hn hst
theorem HoldX.stepped (hE:EnvOK E) {D:List Deferred} {m m':Lim} {O:Nat->Prop} {H':HH} (q1:Now E n D O m s.st a w) (q2:∀g ob,s.H g=some ob-> ¬O g∧w.heap[g]?=some ob∧m g=some 0∧(B.ws.heap.size<=g∨B.X g)∧E.K<=g) (q4:∀k,O k->B.ws.heap.size<=k∨B.X k) (q5:Step B.X B.ms B.ws m w) (q6:B.Kn.P m w∧iI D O B.ws.heap.size w s.H)
 (hs:Step (fun k=>s.H k≠none) m w m' w') (hH:∀g ob,H' g=some ob->w'.heap[g]?=some ob∧m' g=some 0∧(s.H g≠none∨w.heap.size<=g)):HoldX E n B ⟨s.st,H'⟩ a w'∧∃O,Now E n D O m' s.st a w'∧(∀g ob,H' g=some ob-> ¬O g∧w'.heap[g]?=some ob∧m' g=some 0∧(B.ws.heap.size<=g∨B.X g)∧E.K<=g)∧(∀k,O k->B.ws.heap.size<=k∨B.X k)∧Step B.X B.ms B.ws m' w'∧B.Kn.P m' w'∧iI D O B.ws.heap.size w' H':=by
 have hne:∀k,O k-> ¬s.H k≠none:=fun k hk=>by
  cases e:s.H k with
  |none=>simp
  |some ob=>exact absurd hk (q2 k ob e).1
 have hJ:E.J w':=hE.keep ((List.range w.heap.size).filter fun k=>(s.H k).isSome) _ _ (fun x hx=>by
  obtain⟨ob,e⟩:=NZ.1 (ME.1 hx).2
  exact(q2 x ob e).2.2.2.2) q1.J (hs.bel (fun k hk e=>ME.2 ⟨Mp.2 hk,by cases e':s.H k with
   |none=>exact absurd e' e
   |some _=>rfl⟩))
 have hK:E.K<=w.heap.size:=hE.high _ q1.J;have key:∃O,Now E n D O m' s.st a w'∧(∀g ob,H' g=some ob-> ¬O g∧w'.heap[g]?=some ob∧m' g=some 0∧(B.ws.heap.size<=g∨B.X g)∧E.K<=g)∧(∀k,O k->B.ws.heap.size<=k∨B.X k)∧Step B.X B.ms B.ws m' w'∧B.Kn.P m' w'∧iI D O B.ws.heap.size w' H':=by
  refine⟨O,q1.other hs hne hJ,fun g ob hg=>?_,q4,q5.next hs (fun i hi e=>?_),B.Kn.mono _ _ _ _ q6.1 hs.ext,q6.2.1,fun d hd=>?_⟩
  . obtain⟨h1,h3,h2⟩:=hH g ob hg;rcases h2 with h2|h2
    . cases e:s.H g with
      |none=>exact absurd e h2
      |some ob'=>exact⟨(q2 g ob' e).1,h1,h3,(q2 g ob' e).2.2.2⟩
    . exact⟨fun ho=>absurd (q1.lt g ho) (My.2 h2),h1,h3,.inl (tl q5.ext.size h2),tl hK h2⟩
  . cases e':s.H i with
    |none=>exact absurd e' e
    |some ob=>exact(q2 i ob e').2.2.2.1.resolve_left (Nj.2 hi)
  . obtain⟨b,rfl,r1,r2,r3,r4⟩:=q6.2.2 d hd;refine⟨b,rfl,r1,(hs.same b (aj r2) (by rw[r4];simp)).1.trans r2,r3,?_⟩;cases e:H' b with
    |none=>rfl
    | some ob=>
      rcases(hH b ob e).2.2 with h|h
      . exact absurd r4 h
      . exact absurd (aj r2) (My.2 h)
 obtain⟨O',k1,k2,k3,k4,k5⟩:=key;exact⟨⟨D,m',O',k1,k2,k3,k4,k5⟩,O',k1,k2,k3,k4,k5⟩
theorem HoldX.wrote (hE:EnvOK E) {H':HH} (h:HoldX E n B s a w) (hos:w'.os=w.os) (htp:w'.tape=w.tape) (hou:w'.output=w.output) (hsz:w.heap.size<=w'.heap.size) (hb:∀k,k<w.heap.size->s.H k=none->w'.heap[k]?=w.heap[k]?) (hH:∀g ob,H' g=some ob->w'.heap[g]?=some ob∧(s.H g≠none∨w.heap.size<=g)):HoldX E n B ⟨s.st,H'⟩ a w':=by
 obtain⟨D,m,O,q1,q2,q4,q5,q6⟩:=h;have hs:Step (fun k=>s.H k≠none) m w (fun j=>if w.heap.size<=j then some 0 else m j) w':=by
  refine⟨hos,htp,hou,⟨hsz,fun b off v hlt hm hc=>?_,fun b hlt fr' hf=>?_,fun b es c hm hc=>?_⟩,fun k hk hn=>⟨hb k hk (by simpa using hn),L1 (Nj.2 hk)⟩⟩
  . cases e:s.H b with
    |none=>rw[aU (hb b hlt e)];exact hc
    |some ob=>exact absurd (hm 0 (q2 b ob e).2.2.1) (Np _)
  . rw[L1 (Nj.2 hlt)] at hf;exact⟨fr',hf,LM _⟩
  . cases e:s.H b with
    |none=>rw[hb b (cX hc) e];exact hc
    |some ob=>rw[(q2 b ob e).2.2.1] at hm;cases hm
 refine(HoldX.stepped hE q1 q2 q4 q5 q6 hs (fun g ob hg=>?_)).1;obtain⟨h1,h2⟩:=hH g ob hg;refine⟨h1,?_,h2⟩;rcases h2 with h2|h2
 . cases e:s.H g with
   |none=>exact absurd e h2
   |some ob'=>rw[L1 (Nj.2 (aj (q2 g ob' e).2.1))];exact(q2 g ob' e).2.2.1
 . exact L0 h2
theorem HoldX.drew (hE:EnvOK E) (h:HoldX E n B s a w):HoldX E n B s a {w with drawn:=w.drawn+1}:=
 h.wrote hE rfl rfl rfl (LM _) (fun _ _ _=>rfl) (fun g ob e=>⟨h.at e,.inl (by rw[e];exact fun h=>by cases h)⟩)
theorem HoldX.fresh (hE:EnvOK E) (h:HoldX E n B s a w) (ob:Obj):HoldX E n B ⟨s.st,au s.H w.heap.size (some ob)⟩ a (w.alloc ob):=by
 refine h.wrote hE rfl rfl rfl (by simp) (fun k hk _=>Below.heap_alloc w ob k hk) (fun g ob' hg=>?_);by_cases e:g=w.heap.size
 . subst e;rw[aa] at hg;cases hg;exact⟨World.heap_new w ob,.inr (LM _)⟩
 . rw[ag _ _ e] at hg;have:=h.at hg;exact⟨(Below.heap_alloc w ob g (aj this)).trans this,.inl (by rw[hg];simp)⟩
theorem lT {m:Lim}:∀{us:List V} {xs vs:List Value},vo us=some xs->RdL m w vs us->vs=xs∧∀v∈xs,v.oneCell'=true∧v.cells= #[v]
 | [],xs,vs,h,hr=>by
   cases h;cases vs with
   |nil=>exact⟨rfl,fun v hv=>by cases hv⟩
   |cons v vs=>exact hr.elim
 | u ::us,xs,vs,h,hr=>by
   cases u with
   | x v =>
     unfold vo at h;split at h
     . rename_i hv;obtain⟨ys,hy,rfl⟩:=LT.1 h;cases vs with
       |nil=>exact hr.elim
       | cons v' vs=>
         obtain⟨q1,q2⟩:=lT hy hr.2;exact⟨by rw[Rd.x_iff.1 hr.1,q1],fun y hm=>by
          cases hm with
          |head=>exact⟨hv,vm hv⟩
          |tail _ hm=>exact q2 y hm⟩
     . cases h
   | sl nl z es tok=>
     cases nl with
     |false=>simp[vo] at h
     | true=>
       unfold vo at h;obtain⟨ys,hy,rfl⟩:=LT.1 h;cases vs with
       |nil=>exact hr.elim
       | cons v' vs=>
         obtain⟨q1,q2⟩:=lT hy hr.2;have hv:v'= .slice none 0 0:=by have:=hr.1;cases this;rfl
         exact⟨by rw[hv,q1],fun y hm=>by
          cases hm with
          |head=>exact⟨rfl,rfl⟩
          |tail _ hm=>exact q2 y hm⟩
   |_=>simp[vo] at h
variable {u:V} {xs:List Value}
theorem pa (h:iF u=some xs) (hr:Rd m w v u):v.cells=xs.toArray∧∀v∈xs,v.oneCell'=true:=by
 cases u with
 |x v'=>obtain⟨q1,q2⟩:=lT (us:=[.x v']) (vs:=[v]) h ⟨hr,trivial⟩;subst q1;exact⟨(q2 v (LX.2 rfl)).2,fun y hy=>(q2 y hy).1⟩
 | sl nl z es tok=>
   cases nl with
   |false=>cases h
   |true=>obtain⟨q1,q2⟩:=lT (us:=[.sl true z es tok]) (vs:=[v]) h ⟨hr,trivial⟩;subst q1;exact⟨(q2 v (LX.2 rfl)).2,fun y hy=>(q2 y hy).1⟩
 |agg us=>obtain⟨cs,rfl,hl⟩:=Rd.agg_iff.1 hr;obtain⟨q1,q2⟩:=lT h hl;exact⟨by rw[<-q1];rfl,fun y hy=>(q2 y hy).1⟩
 |_=>cases h
theorem yZ (h:iF u=some xs):u.nm=none:=by cases u<;>first|rfl|cases h
theorem vB {P:Program} {t:TypeId} {cs:List V} {off:Nat} (h:ca P t cs off=some u):ca P t (cs.drop off) 0=some u:=by
 unfold ca at h⊢;generalize aX P t=A at h⊢;generalize bi P t=Z at h⊢;cases A with
 |none=>exact h
 | some b=>
   cases Z with
   |none=>cases b<;>exact h
   | some k=>
     cases b with
     |false=>simpa using h
     | true=>
       simp only at h⊢;split at h
       . rw[L0 (by rw[MZ];omega)];simpa using h
       . cases h
theorem rP (m:Lim) (w:World):∀l:List Value,RdL m w l (l.map V.x)
 |[]=>trivial
 |v::l=>⟨.x v,rP m w l⟩
theorem HoldX.rdx (h:HoldX E n B s a w) (x:Operand) {u:V} (hx:Go.Proofs.Ytenmccehpkiamaa.ev E s.st x=u) (hu:u.nm=none):∃m,Rd m w (a.eval x) u:=by obtain⟨D,m,O,⟨⟨b,β,hr⟩,_⟩,_⟩:=h;exact⟨m,(hx▸aB hr x).rd hu⟩
end
section
variable {E:Env} {n:Nat} {B:Xb} {F:Fx} {s:XS} {a:Act} {w w':World} {r:Option Nat} {o:Oper} {R:V->HH->Prop} {K:Act->World->Prop} {Q:Exit->Act->World->Prop}
theorem CS (h:v.oneCell'=true):(V.x v).cells=[.x v]:=by cases v<;>first|rfl|cases h
theorem gh (h:HoldX E n B s a w) (hd:∀k,o.dst=some k->k<n) (hK:∀a' w' v H',R v H'->HoldX E n B ⟨s.st.put o.dst v.bare,H'⟩ a' w'->K a' w') {v:Value} {u:V} (hrun:(execOp a.eval o).run E.P w= .ok (.value v) w) (hv:∀m,Rd m w v u) (hR:R u s.H):o.wp E.P a w K Q:=by unfold Oper.wp;rw[hrun];exact hK _ _ _ _ hR (h.put hd hv)
theorem vC (hE:EnvOK E) (h:HoldX E n B s a w) (hd:∀k,o.dst=some k->k<n) (hK:∀a' w' v H',R v H'->HoldX E n B ⟨s.st.put o.dst v.bare,H'⟩ a' w'->K a' w') {v:Value} {ob:Obj} (hrun:(execOp a.eval o).run E.P w= .ok (.value v) (w.alloc ob)) (hR:R (.x v) (au s.H w.heap.size (some ob))):o.wp E.P a w K Q:=by unfold Oper.wp;rw[hrun];exact hK _ _ _ _ hR ((h.fresh hE ob).put hd (fun m=> .x v))
theorem Ga (hE:EnvOK E) (h:HoldX E n B s a w) (hd:∀k,o.dst=some k->k<n) (hK:∀a' w' v H',R v H'->HoldX E n B ⟨s.st.put o.dst v.bare,H'⟩ a' w'->K a' w') {x:Operand} {T:Tr} (hT:kj s.H (ev E s.st x)=some T) (hr:T R) (hrun:(execOp a.eval o).run E.P w= .ok (.value (a.eval x)) w):o.wp E.P a w K Q:=by
 unfold kj at hT;split at hT
 case h_2=>cases hT
 rename_i g k cap hx;cases hT;obtain⟨c,hc,⟨hk,hl,h1⟩,hr⟩:=bt hr;have hob:=gF hc;have hx':=h.ev x hx;obtain⟨D,m,O,q1,q2,q4,q5,q6⟩:=h;obtain⟨p1,p2,p3,p4,p5⟩:=q2 g _ hob;have hs:Step (fun k=>s.H k≠none) m w (au m g none) w:=(Step.freeze g m w).mono (fun i _ e=>by subst e;rw[hob];simp);obtain⟨_,O',k1,k2,k3,k4,k5⟩:=HoldX.stepped (H':=au s.H g none) hE q1 q2 q4 q5 q6 hs (fun g' ob hg=>by
  by_cases e:g'=g
  . subst e;rw[aa] at hg;cases hg
  . rw[ag _ _ e] at hg;obtain⟨r1,r2,r3,r4⟩:=q2 g' ob hg;exact⟨r2,by rw[ag _ _ e];exact r3,.inl (by rw[hg];simp)⟩)
 have hlen:((c.1.take k).map V.x).length=k:=by rw[eq,Mg,NO hl]
 have hrd:Rd (au m g none) w (a.eval x) (.sl false 1 ((c.1.take k).map V.x) none):=by
  rw[hx'];have:=Rd.sl (m:=au m g none) (w:=w) g 0 cap 1 ((c.1.take k).map V.x) none (fun j=>(c.1[j]?).getD Go.undef) (aj p2) (by rw[hlen];exact hk) (fun i e he=>?_) (fun j hj=>?_) (fun fr hf=>?_) (fun i e he j d hdj=>?_)
  . rwa [hlen] at this
  . rw[LS] at he;obtain⟨v,hv,rfl⟩:=LT.1 he;rw[CS ((LU.1 h1) v (LW hv))];rfl
  . rw[Oj,hlen] at hj;rw[Box.cell p2,Mu,NF,Io (by omega)];rfl
  . rw[aa] at hf;cases hf
  . rw [LS] at he;obtain⟨v,hv,rfl⟩:=LT.1 he;rw[CS ((LU.1 h1) v (LW hv))] at hdj;cases j with
    | zero=>
      cases hdj;have:c.1[i]?=some v:=by
       rw[Mf] at hv;split at hv
       . exact hv
       . cases hv
      rw[Oj,iO,this];exact .x _
    |succ j=>cases hdj
 unfold Oper.wp;rw[hrun];refine hK _ _ _ _ hr ?_;cases hdst:o.dst with
 |none=>exact⟨D,_,O',k1,k2,k3,k4,k5⟩
 |some d=>exact⟨D,_,O',k1.put (hd d hdst) hrd,k2,k3,k4,k5⟩
theorem pb (hE:EnvOK E) (hF:∀f C,F.F f=some C->cE E f C) (hI:∀t name C,F.I t name=some C->ld E t name C) (h:HoldX E n B s a w) {T:Tr} (hT:oO E.P F o (ev E s.st) s.H=some T) (hd:∀k,o.dst=some k->k<n) (hr:T R) (hK:∀a' w' v H',R v H'->HoldX E n B ⟨s.st.put o.dst v.bare,H'⟩ a' w'->K a' w'):o.wp E.P a w K Q:=by
 unfold oO at hT;split at hT
 . --load
   rename_i t x ho;unfold mQ at hT;split at hT
   case h_2=>cases hT
   rename_i g off hx;cases hT;obtain⟨c,hc,hr⟩:=bt hr;obtain⟨u,hu,hr⟩:=bt hr;have hh:=h.at (gF hc);have hx':=h.ev x hx;have hcell:∀(k:Nat) (v:Value),(c.1.drop off)[k]?=some v->w.cell? ⟨g,off+k,none⟩=some v:=fun k v hk=>by
    rw[Box.cell hh,NF]
    rwa [Mx] at hk
   have hp:=vB hu;rw[<-List.map_drop] at hp;obtain⟨m0,hm0⟩:∃m:Lim,True:=⟨fun _=>none,trivial⟩;obtain⟨v,hrun,_⟩:=eQ (m:=m0) hcell (rP m0 w _) hp;refine gh h hd hK (v:=v) (u:=u) (by simp only[execOp,ho,hx',Sem.run_bind,hrun,Result.andThen_ok,Sem.run_pure]) (fun m=>?_) hr;obtain⟨v',hrun',hv'⟩:=eQ (m:=m) hcell (rP m w _) hp;rw[hrun] at hrun';cases hrun';exact hv'
 . --store
   rename_i t x y ho;split at hT
   case h_2=>cases hT
   rename_i hdst;unfold kf at hT;split at hT
   case h_2=>cases hT
   rename_i g off hy;cases hT;obtain⟨c,hc,hr⟩:=bt hr;obtain⟨xs,hxs,⟨hsz,hlen⟩,hr⟩:=bt hr;have hob:=gF hc;have hh:=h.at hob;obtain⟨m1,hv⟩:=h.rdx y rfl (yZ hxs);obtain⟨hcs,hone⟩:=pa hxs hv;have hx':=h.ev x hy;have hst:=cC E.P g off c.2 (0,0) xs 0 c.1.toArray w hh (.inl rfl) (by simpa using hlen) hone;simp only[iO,NK] at hst;have hrun:(execOp a.eval o).run E.P w= .ok .skip (w.setRow g (cd c.1 off xs).toArray):=by simp only[execOp,ho,hx',Instr.storeAt,Instr.sureAddr,storeVar,Sem.run_bind,Sem.run_pure,Result.andThen_ok,bd hsz,hcs];rw[L1 (by simp),hst];rfl
   unfold Oper.wp;rw[hrun];show K (a.put o.dst undef) _;rw[hdst];have hw:HoldX E n B ⟨s.st,au s.H g (some (rowO (cd c.1 off xs) c.2))⟩ a (w.setRow g (cd c.1 off xs).toArray):=by
    refine h.wrote hE rfl rfl rfl (by simp[World.setRow]) (fun k _ hk=>setRow_other w g k _ (by rintro rfl;rw[hob] at hk;cases hk)) (fun g' ob' hg=>?_);by_cases e:g'=g
    . subst e;rw[aa] at hg;cases hg;exact⟨setRow_heap w _ _ _ _ (0,0) hh,.inl (by rw[hob];simp)⟩
    . rw[ag _ _ e] at hg;exact⟨(setRow_other w g g' _ e).trans (h.at hg),.inl (by rw[hg];simp)⟩
   have:=hK a (w.setRow g (cd c.1 off xs).toArray) .undef _ hr;rw[hdst] at this;exact this hw
 . --fieldAddr
   rename_i t x f ho;unfold kg at hT;split at hT
   case h_2=>cases hT
   rename_i g off hx;cases hT;obtain⟨k,hk,hr⟩:=bt hr;unfold fg at hk;split at hk
   case h_2=>cases hk
   rename_i fs hfs;split at hk
   case h_2=>cases hk
   rename_i fd hfd;split at hk
   case h_2=>cases hk
   rename_i z hz;cases hk;exact gh h hd hK (ru ho hfs hfd hz (by omega) (h.ev x hx) rfl) (fun m=> .x _) hr
 . --nilCheck
   rename_i x ho;unfold rx at hT;split at hT
   case h_2=>cases hT
   rename_i p hx;cases hT;exact gh h hd hK (yJ ho (h.ev x hx)) (fun m=> .x _) hr
 . --indexAddr
   rename_i t x i ho;unfold kh at hT;split at hT
   case h_2=>cases hT
   rename_i g off len cap k iv hx hi;cases hT;obtain⟨z,hz,⟨h0,hl⟩,hr⟩:=bt hr;unfold wf at hz;split at hz
   case h_2=>cases hz
   rename_i el hel;refine gh h hd hK ?_ (fun m=> .x _) hr;simp only[execOp,ho,h.ev x hx,h.ev i hi,Instr.indexAt,asIntOf,Sem.run_bind,Sem.run_pure,Result.andThen_ok,ar hel,Sem.run_ite];rw[L0 ⟨h0,hl⟩];simp only[bd hz,Result.andThen_ok,aA]
 . --len
   rename_i args ts ho;split at hT
   case h_2=>cases hT
   rename_i x t hargs hts;unfold ry at hT;split at hT
   case h_2=>cases hT
   rename_i b len cap hx;cases hT;obtain⟨z,hz,hr⟩:=bt hr;unfold wf at hz;split at hz
   case h_2=>cases hz
   rename_i el hel;have ha:args= #[x]:=Mm.1 hargs;have ht:ts= #[t]:=Mm.1 hts;subst ha ht;exact gh h hd hK (yK ho hel (h.ev x hx)) (fun m=> .x _) hr
 . --box
   rename_i t x ho;split at hT
   case h_2=>cases hT
   cases hT;obtain⟨xs,hxs,hr⟩:=bt hr;obtain⟨m1,hv⟩:=h.rdx x rfl (yZ hxs);obtain⟨hcs,_⟩:=pa hxs hv;refine vC hE h hd hK (yL ho) ?_;rw[hcs];exact hr _ h.new
 . --makeSlice
   rename_i t l c ho;split at hT
   case h_2=>cases hT
   unfold mR at hT;split at hT
   case h_2=>cases hT
   rename_i k i k' i' hl hc;cases hT;obtain⟨q,hq,⟨rfl,rfl,h0,hb,hm⟩,hr⟩:=bt hr;unfold KW at hq;split at hq
   case h_2=>cases hq
   rename_i el hel;split at hq
   case h_2=>cases hq
   rename_i inf hinf;obtain⟨z,hz,rfl⟩:=LT.1 hq;have:=hr _ h.new;rw[show ∀A:Array Value,rowO A.toList el= .cells A el (0,0) from fun A=>by simp[rowO]] at this;exact vC hE h hd hK (vj ho hel hinf hz (h.ev l hl) (h.ev c hc) h0 hb hm) this
 . --a call
   rename_i c args ts ho;unfold mS at hT;split at hT
   case h_2=>cases hT
   rename_i f hf;split at hT
   case h_2=>cases hT
   rename_i C hC;cases hT;obtain⟨hdat,hr⟩:=hr;obtain⟨hcall,hfun⟩:=hF f C hC;have hc:a.eval c= .func (.func f) #[] #[]:=h.ev c (sQ hf);have hrun:(execOp a.eval o).run E.P w= .ok (.enter f (args.map a.eval)) w:=by simp only[execOp,ho,resolve,Sem.run_bind,hc,Deferred.ofValue,Sem.run_pure,Result.andThen_ok,invoke];rw[hcall];simp
   obtain⟨D,m,O,q1,q2,q4,q5,q6⟩:=h;obtain⟨⟨b,β,hrel⟩,hlt⟩:=q1;unfold Oper.wp;rw[hrun];have q1:Now E n D O m s.st a w:=⟨⟨b,β,hrel⟩,hlt⟩;refine(hfun m w (args.map a.eval) _ s.H R hr hdat (by simpa using fW hrel args.toList hdat) (fun g ob hg=>⟨(q2 g ob hg).2.1,(q2 g ob hg).2.2.1,(q2 g ob hg).2.2.2.2⟩) q1.J hrel.glob).mono ?_;rintro e w' ⟨v,m',u,H',rfl,hv,hR,hs,hH⟩;obtain⟨_,O',k1,k2,k3,k4,k5⟩:=HoldX.stepped hE q1 q2 q4 q5 q6 hs hH;refine hK (a.put o.dst v) w' u H' hR ?_;cases hdst:o.dst with
   |none=>exact⟨D,m',O',k1,k2,k3,k4,k5⟩
   |some d=>exact⟨D,m',O',k1.put (hd d hdst) hv,k2,k3,k4,k5⟩
 . --a method
   rename_i x name args ts ho;unfold rz at hT;split at hT
   case h_2=>cases hT
   rename_i t v hx;split at hT
   case h_2=>cases hT
   rename_i C hC;cases hT;obtain⟨hdat,hr⟩:=hr;have hx':=h.ev x hx;obtain⟨D,m,O,q1,q2,q4,q5,q6⟩:=h;obtain⟨⟨b,β,hrel⟩,hlt⟩:=q1;have q1:Now E n D O m s.st a w:=⟨⟨b,β,hrel⟩,hlt⟩;obtain⟨f,rc,hcall,hdo⟩:=hI t name C hC m w v (args.map a.eval) _ s.H R hr hdat (by simpa using fW hrel args.toList hdat) (fun g ob hg=>⟨(q2 g ob hg).2.1,(q2 g ob hg).2.2.1,(q2 g ob hg).2.2.2.2⟩) q1.J hrel.glob;have hrun:(execOp a.eval o).run E.P w= .ok (.enter f (#[rc]++args.map a.eval)) w:=by
    have e0:(#[Value.iface t v]++args.map a.eval)[0]?=some (.iface t v):=by rw[MA (by simp)];rfl
    have e1:(#[Value.iface t v]++args.map a.eval).extract 1 (#[Value.iface t v]++args.map a.eval).size=args.map a.eval:=by apply Mm.1;simp;exact Mk (by simp)
    simp only[execOp,ho,resolve,Sem.run_bind,hx',Sem.run_pure,Result.andThen_ok,invoke,e0,e1];exact hcall
   unfold Oper.wp;rw[hrun];refine Calls.mono hdo ?_;rintro e w' ⟨v,m',u,H',rfl,hv,hR,hs,hH⟩;obtain⟨_,O',k1,k2,k3,k4,k5⟩:=HoldX.stepped hE q1 q2 q4 q5 q6 hs hH;refine hK (a.put o.dst v) w' u H' hR ?_;cases hdst:o.dst with
   |none=>exact⟨D,m',O',k1,k2,k3,k4,k5⟩
   |some d=>exact⟨D,m',O',k1.put (hd d hdst) hv,k2,k3,k4,k5⟩
 . -- append
   rename_i args ts ho;split at hT
   case h_2=>cases hT
   rename_i x y t t' hargs hts;split at hT
   case h_2=>cases hT
   rename_i ht;obtain rfl:=MW ht;unfold rA at hT;split at hT
   case h_2=>cases hT
   rename_i v z tok hx hy;cases hT;obtain⟨hap,es,hrow,hlen,hr⟩:=hr;unfold F8 at hap;split at hap
   case h_2=>cases hap
   rename_i el hel;split at hap
   case h_2=>cases hap
   rename_i inf hinf;split at hap
   case h_2=>cases hap
   rename_i zv hzv;obtain⟨s1,s2,s3⟩:=MW hap;have ha:args= #[x,y]:=Mm.1 hargs;have ht:ts= #[t,t]:=Mm.1 hts;subst ha ht;have hx':=h.ev x hx;obtain⟨m1,hv⟩:=h.rdx y hy rfl;have hv':Rd m1 w (a.eval y) (.sl false 1 [.x (.int .i64 z)] none):=by
    have:=hv.bare
    rwa [eM] at this
   obtain⟨v',w',g,ob,h1,h2,h3,h4,h5,h6,h7,h8,h9,h10⟩:=yN (ty:=o.type) hel hinf s1 hzv s2 s3 hrow (fun g ob hg=>h.at hg) hv' hlen;have hg:blkOf v=some g∨s.H g=none:=h9.imp id fun hle=>by
    cases e:s.H g with
    |none=>rfl
    |some ob'=>exact absurd (aj (h.at e)) (My.2 hle)
   have hw:HoldX E n B ⟨s.st,au s.H g (some ob)⟩ a w':=by
    refine h.wrote hE h2 h3 h4 h5 (fun k hk hn=>h8 k hk (fun e=>?_)) (fun g' ob' hg'=>?_)
    . subst e;rcases h9 with h9|h9
      . rcases hrow with⟨_,rfl⟩|⟨g0,cap,cur,ty,rfl,hH0,_⟩
        . cases h9
        . cases h9;rw[hH0] at hn;cases hn
      . exact absurd hk (My.2 h9)
    . by_cases e:g'=g
      . subst e;rw[aa] at hg';cases hg';refine⟨h7,h9.imp (fun h9=>?_) id⟩;rcases hrow with⟨_,rfl⟩|⟨g0,cap,cur,ty,rfl,hH0,_⟩
        . cases h9
        . cases h9;rw[hH0];simp
      . rw[ag _ _ e] at hg';have hat:=h.at hg';exact⟨(h8 g' (aj hat) e).trans hat,.inl (by rw[hg'];simp)⟩
   unfold Oper.wp;have hrun:(execOp a.eval o).run E.P w= .ok (.value v') w':=by simp only[execOp,ho,resolve,Sem.run_bind,Sem.run_pure,Result.andThen_ok,invoke,builtin];rw[show Array.map a.eval #[x,y]= #[v,a.eval y] from by simp[hx'],h1];rfl
   rw[hrun];exact hK _ _ _ _ (hr v' g ob h6 hg (h10 _ (aa _ _ _))) (hw.put hd (fun m=> .x _))
 . --a row's beginning
   rename_i t x k ho;unfold mT at hT;split at hT
   case h_2=>cases hT
   rename_i g off len cap kk i hx hk;cases hT;obtain⟨z,hz,⟨h0,hl⟩,hr⟩:=bt hr;unfold wf at hz;split at hz
   case h_2=>cases hz
   rename_i el hel;obtain⟨j,rfl⟩:=M6 h0;refine gh h hd hK ?_ (fun m=> .x _) hr;have hb:(Instr.sliceBounds true len cap none (some (Value.int kk (j:Int))) none).run E.P w= .ok (0,j,cap) w:=by simp[Instr.sliceBounds,aY _ (show j<=cap by omega)]
   simp only[execOp,ho,h.ev x hx,h.ev k hk,Instr.sliceAt,Sem.run_bind,ar hel,Result.andThen_ok,Instr.slice,MY,Mo,hb,bd hz,Sem.run_pure];congr 2;cases cap<;>simp[aA]
 . --makeInterface
   rename_i t x ho;unfold ki at hT;split at hT
   case h_2=>cases hT
   rename_i v hx;cases hT;obtain⟨hni,hr⟩:=hr;refine gh h hd hK ?_ (fun m=> .x _) hr;unfold yR at hni;split at hni
   . cases hni
   . rename_i ty hty hne;simp only[execOp,ho,h.ev x hx,Instr.makeInterface,Sem.run_bind,ar hne,Result.andThen_ok,Sem.run_pure]
   . cases hni
 . --typeAssert
   rename_i x t0 t ok ho;split at hT
   case h_2=>cases hT
   unfold iG at hT;split at hT
   case h_2=>cases hT
   rename_i t' v hx;cases hT;obtain⟨⟨hni,rfl⟩,hr⟩:=hr;refine gh h hd hK ?_ (fun m=> .x _) hr;unfold yR at hni;split at hni
   . cases hni
   . rename_i ty hty hne;simp only[execOp,ho,h.ev x hx,Instr.typeAssert,Sem.run_bind,ar hne,Result.andThen_ok,Sem.run_pure,MH,Mq,ML]
   . cases hni
 . --a row becomes data
   rename_i x ho;split at hT
   case h_2=>cases hT
   exact Ga hE h hd hK hT hr (by simp[execOp,ho])
 . rename_i x ho;split at hT
   case h_2=>cases hT
   exact Ga hE h hd hK hT hr (by simp[execOp,ho])
 . cases hT
def g8 (E:Env) (Y:Oper->(Operand->V)->HH->Option Tr):Prop:=(∀o ρ H c,o.op= .defer c->Y o ρ H=none)∧∀(n:Nat) (B:Xb) (s:XS) (a:Act) (w:World) (o:Oper) (R:V->HH->Prop) (K:Act->World->Prop) (Q:Exit->Act->World->Prop) (T:Tr),HoldX E n B s a w->Y o (ev E s.st) s.H=some T->(∀k,o.dst=some k->k<n)->T R->(∀a' w' v H',R v H'->HoldX E n B ⟨s.st.put o.dst v.bare,H'⟩ a' w'->K a' w')->o.wp E.P a w K Q
theorem g9:g8 E fun _ _ _=>none:=⟨fun _ _ _ _ _=>rfl,fun _ _ _ _ _ _ _ _ _ _ _ h=>by cases h⟩
theorem rQ (hE:EnvOK E) (hF:∀f C,F.F f=some C->cE E f C) (hI:∀t name C,F.I t name=some C->ld E t name C) (hY:g8 E F.Y) (h:HoldX E n B s a w) {T:Tr} (hT:k8 E.P F o (ev E s.st) s.H=some T) (hd:∀k,o.dst=some k->k<n) (hr:T R) (hK:∀a' w' v H',R v H'->HoldX E n B ⟨s.st.put o.dst v.bare,H'⟩ a' w'->K a' w'):o.wp E.P a w K Q:=by
 unfold k8 CQ at hT;split at hT
 . rename_i T' hT';cases hT;exact hY.2 n B s a w o R K Q _ h hT' hd hr hK
 . exact pb hE hF hI h hT hd hr hK
theorem lU (hE:EnvOK E) (hF:∀f C,F.F f=some C->cE E f C) (hI:∀t name C,F.I t name=some C->ld E t name C) (hY:g8 E F.Y) {ops:Array Oper} {K':XS->Prop} {i:Nat} (hi:ops[i]?=some o) (hdo:∀k,o.dst=some k->k<n) (h:HoldX E n B s a w) (hx:df E F ops [o] s K') (hK:∀s' a' w',K' s'->HoldX E n B s' a' w'->K a' w'):wpOpIn (eL r) 0 E.P ops Q i K a w:=by
 rw[g7] at hx;unfold wpOpIn;rw[hi];simp only;cases hb:bv ops s.st.t o.guard with
 |none=>rw[hb] at hx;exact hx.elim
 | some b=>
   rw[hb] at hx;have hw:=(match h with|⟨_,_,_,⟨⟨_,_,hrel⟩,_⟩,_⟩=>gX hrel hb);rw[hw];cases b with
   | true=>
     simp only[MH];rw[kn] at hx;cases hT:k8 E.P F o (ev E s.st) s.H with
     |some T=>rw[hT] at hx;refine mw r (fun c e=>?_) (rQ hE hF hI hY h hT hdo hx (fun a' w' v H' hR h'=>hK _ a' w' hR h'));unfold k8 at hT;rw[hY.1 o _ _ c e,oP] at hT;unfold oO at hT;rw[e] at hT;cases hT
     | none=>
       rw[hT,km] at hx;cases he:cH E o s.st with
       |none=>rw[he] at hx;exact hx.elim
       |some st'=>rw[he] at hx;exact mw r (gp he) (F9 hE h he hdo (fun a' w' h'=>hK _ a' w' hx h'))
   |false=>simp only[Mq,ML];rw[jk] at hx;exact⟨fun _ _=>trivial,hK _ _ _ hx (by have:=h.put hdo (u:= .x (.tuple #[])) (v:= .tuple #[]) (fun m=> .x _);rwa [bj] at this)⟩
theorem kp (hE:EnvOK E) (hF:∀f C,F.F f=some C->cE E f C) (hI:∀t name C,F.I t name=some C->ld E t name C) (hY:g8 E F.Y) {ops:Array Oper} {K:XS->Prop} {Q:Exit->Act->World->Prop} (hQ:∀s' a' w',K s'->HoldX E n B s' a' w'->Q .normal a' w'):
 ∀(l:List Oper) (is:List Nat) (s:XS) (a:Act) (w:World),(∀j:Nat,(is[j]?).bind (ops[·]?)=l[j]?)->is.length=l.length->cI n l=true->HoldX E n B s a w->df E F ops l s K->wpOpsIn (eL r) 0 E.P ops Q is a w
 | [],is,s,a,w,_,hl,_,h,hx=>by
   cases is with
   |nil=>exact hQ _ _ _ hx h
   |cons i is=>simp at hl
 | o ::l,is,s,a,w,hj,hl,hd,h,hx=>by
   cases is with
   |nil=>simp at hl
   | cons i is=>
     rw[wpOpsIn_cons];have hi:ops[i]?=some o:=by simpa using hj 0
     have hdl:cI n l=true:=by simp only[cI,Nl,LR] at hd;exact hd.2
     rw[yU] at hx;exact lU hE hF hI hY hi (dN hd (o:=o) (by simp)) h hx (fun s' a' w' hx' h'=>kp hE hF hI hY hQ l is s' a' w' (fun j=>by simpa using hj (j+1)) (by simpa using hl) hdl h' hx')
theorem rR (hE:EnvOK E) (hm:E.P.follows .mixedOrders=true) (hF:∀f C,F.F f=some C->cE E f C) (hI:∀t name C,F.I t name=some C->ld E t name C) (hY:g8 E F.Y) {ops:List Oper} {K:XS->Prop} {Q:Exit->Act->World->Prop} (hQ:∀s' a' w',K s'->HoldX E n B s' a' w'->Q .normal a' w') {id:Nat} (hd:cI n ops=true) (h:HoldX E n B s a w) (hx:vt E F ops s K):(Code.region id ⟨ops⟩ true).wpIn (eL r) 0 E.P Q a w:=by
 obtain⟨need,I,val0,hok,hps,hI0,hstep,hend⟩:=hx;refine yO hm hok (fun L a w=>∃H val bx,I L H val bx∧HoldX E n B ⟨EO s.st val ops L bx,H⟩ a w) ?_ (fun a w ⟨H,val,bx,h1,h2⟩=>?_) ⟨s.H,val0,s.st.b,hI0,by unfold EO;rw[F7];exact h.drew hE⟩
 . rintro L i o a w K' ho hr hcl ⟨H,val,bx,h1,h2⟩ hK;obtain⟨hb,hdd⟩:=lP ho hr;refine lU hE hF hI hY (by simpa using ho) (fun k hk=>dN hd (LW ho) k hk) h2 (hstep L i o H val bx ho hb hdd hcl h1 (fun k hk=>?_)) (fun s' a' w' ⟨val',hv,bx',hI',hle⟩ h'=>hK a' w' ⟨s'.H,val',bx',hI',(h'.le hle).le (st':=EO s.st val' ops (L|||2^i) bx') ⟨fun k=>?_,fun s cs h=>⟨cs,h,fG cs⟩⟩⟩)
   . refine aL ?_;have h3:=LU.1 hps i (Mp.2 (LN.1 ho).1);rw[ho] at h3;obtain⟨j,hj,hjk⟩:=MS.1 (LU.1 h3 k hk);unfold cK;refine MS.2 ⟨j,Mp.2 ?_,by rw[hdd j hj,Nm];exact hjk⟩;unfold f7 at hjk;split at hjk
     . rename_i o' ho';exact(LN.1 ho').1
     . cases hjk
   . have h1:=(B0 (st:=s.st) (L:=L) ho hv).t k;unfold B4;cases hdst:o.dst with
     |none=>rw[hdst] at h1;exact h1
     |some d=>rw[hdst] at h1;exact h1
 . obtain⟨ts,bs,q1,q2,hk⟩:=hend H val bx h1;exact hQ _ a w hk (h2.le (dJ q1 q2))
def pN (any anyX PX:Nat->Bool) (n:Nat):Code->Bool
 | .region id ops d=>cI n ops.toList&&(!d||(anyX id||(any id||mA ops)))
 | .seq a b=>(match a with| .region id _ _=>PX id|_=>false)||(pN any anyX PX n a&&pN any anyX PX n b)
 | .cond _ a b=>pN any anyX PX n a&&pN any anyX PX n b
 | .block _ a=>pN any anyX PX n a
 | .loop a=>pN any anyX PX n a
 |_=>true
def CT (E:Env) (n:Nat) (B:Xb) (K:Out->XS->Prop) (e:Exit) (a:Act) (w:World):Prop:=∃o s,mM e=some o∧K o s∧HoldX E n B s a w
def rS (E:Env) (n:Nat) (r:Option Nat) (p:Code×(XS->(Out->XS->Prop)->Prop)):Prop:=∀(B:Xb) (s:XS) (K:Out->XS->Prop) (a:Act) (w:World),HoldX E n B s a w->p.2 s K->p.1.wpIn (eL r) 0 E.P (CT E n B K) a w
theorem kq (hE:EnvOK E) (hm:E.P.follows .mixedOrders=true) (hF:∀f C,F.F f=some C->cE E f C) (hI:∀t name C,F.I t name=some C->ld E t name C) (hY:g8 E F.Y) (hP:∀id p,F.P id=some p->rS E n r p):∀(c:Code) (K:Out->XS->Prop) (s:XS) (a:Act) (w:World),pN E.any F.any (fun id=>(F.P id).isSome) n c=true->HoldX E n B s a w->bR E F c s K->c.wpIn (eL r) 0 E.P (CT E n B K) a w:=by
 intro c
 induction c with
 |skip=>intro K s a w _ h hr;exact wpIn_skip ⟨.normal,s,rfl,hr,h⟩
 | region id ops d=>
   intro K s a w hok h hr;simp only[pN,LR] at hok;cases d with
   | true=>
     unfold bR at hr;cases ha:F.any id with
     |true=>rw[ha] at hr;exact rR (ops:=ops.toList) hE hm hF hI hY (fun s' a' w' hk h'=>⟨.normal,s',rfl,hk,h'⟩) hok.1 h hr
     |false=>rw[ha] at hr hok;exact wpIn_mono (Ee (r:=r) hE hm (by simp only[bV,LR];exact hok) h hr) (fun e a' w' ⟨o,st',h1,h2,h3⟩=>⟨o,_,h1,h2,h3⟩)
   | false=>
     refine wpIn_region (kp hE hF hI hY (fun s' a' w' hk h'=>⟨.normal,s',rfl,hk,h'⟩) ops.toList _ s a w (fun j=>?_) (by simp) hok.1 h hr);rcases Mt j ops.size with h'|h'
     . rw[M2 h'];simp
     . rw[Mh (by simpa using h')];simp[h']
 | seq x y ihx ihy=>
   intro K s a w hok h hr;cases hp:dh F x with
   | some p=>
     have hid:∃id,F.P id=some p:=by
      unfold dh at hp;split at hp
      . exact⟨_,hp⟩
      . cases hp
     obtain⟨id,hid⟩:=hid;unfold bR at hr;rw[hp] at hr;obtain⟨he,hW⟩:p.1= .seq x y∧p.2 s K:=hr;exact he▸hP id p hid B s K a w h hW
   |none=>
   have hok:pN E.any F.any (fun id=>(F.P id).isSome) n x=true∧pN E.any F.any (fun id=>(F.P id).isSome) n y=true:=by
    simp only[pN,MJ,LR] at hok;rcases hok with hok|hok
    . unfold dh at hp;split at hok
      . simp only at hp;rw[hp] at hok;cases hok
      . cases hok
    . exact hok
   unfold bR at hr;rw[hp] at hr;replace hr:bR E F x s (fun o s'=>match o with| .normal=>bR E F y s' K|o=>K o s'):=hr;refine wpIn_seq (wpIn_mono (ihx _ s a w hok.1 h hr) ?_);rintro e a' w' ⟨o,s',ho,hk,h'⟩;cases e<;>simp only[mM,MT,reduceCtorEq] at ho<;>subst ho
   all_goals first|exact ihy K s' a' w' hok.2 h' hk|exact⟨_,s',rfl,hk,h'⟩
 | cond c x y ihx ihy=>
   intro K s a w hok h hr;simp only[pN,LR] at hok;unfold bR at hr;split at hr
   . rename_i t ht;exact wpIn_cond_split (h.ev c ht) (fun e=>ihx K s a w hok.1 h (hr.1 e)) (fun e=>ihy K s a w hok.2 h (hr.2 e))
   . exact hr.elim
 | block id x ih=>
   intro K s a w hok h hr;refine wpIn_block (wpIn_mono (ih _ s a w hok h hr) ?_);rintro e a' w' ⟨o,s',ho,hk,h'⟩;cases e<;>simp only[mM,MT,reduceCtorEq] at ho<;>subst ho<;>first|exact⟨_,s',rfl,hk,h'⟩|skip
   rename_i id';simp only[Exit.inBlock] at hk⊢;by_cases hid:id'=id
   . simp only[hid,MH] at hk⊢;exact⟨_,s',rfl,hk,h'⟩
   . simp only[hid,ML] at hk⊢;exact⟨_,s',rfl,hk,h'⟩
 | loop x ih=>
   intro K s a w hok h hr;obtain⟨X,T,B',J,μ,x0,⟨h0,hJ0⟩,hround⟩:=hr;let S:Act->World->Nat->Prop:=fun a' w k=>∃x H,μ x=k∧J x H∧HoldX E n B ⟨eH (T x) (B' x),H⟩ a' w
   let ν:Act->World->Nat:=fun a w=>Classical.epsilon fun k=>S a w k∧∀j,S a w j->k<=j
   have hspec:∀a w,(∃k,S a w k)->S a w (ν a w)∧∀j,S a w j->ν a w<=j:=fun a w ⟨k,hk⟩=>N9 (s6 _ k hk)
   refine wpIn_loop (fun a w=>∃k,S a w k) ν ⟨_,x0,s.H,rfl,hJ0,h.le h0⟩ ?_;intro a1 w1 hS;obtain⟨x,H,hx,hJ,hrel⟩:=(hspec a1 w1 hS).1;refine wpIn_mono (ih _ ⟨eH (T x) (B' x),H⟩ a1 w1 hok hrel (hround x H hJ)) ?_;rintro e a' w' ⟨o,s',ho,hk,h'⟩;cases e<;>simp only[mM,MT,reduceCtorEq] at ho<;>subst ho<;>first|exact⟨_,s',rfl,hk,h'⟩|skip
   obtain⟨x',⟨q1,q2,hJ'⟩,hlt⟩:=hk;have hS':S a' w' (μ x'):=⟨x',s'.H,rfl,hJ',h'.le (dJ q1 q2)⟩;refine⟨⟨_,hS'⟩,?_⟩;have:ν a' w'<=μ x':=(hspec a' w' ⟨_,hS'⟩).2 _ hS';omega
 |label l=>intro K s a w _ h hr;exact wpIn_label ⟨.normal,s,rfl,hr,h⟩
 |exit id=>intro K s a w _ h hr;exact wpIn_exit ⟨_,s,rfl,hr,h⟩
 |ret=>intro K s a w _ h hr;exact wpIn_ret ⟨_,s,rfl,hr,h⟩
 |_=>intro K s a w _ h hr;simp[bR] at hr
def Ef (E:Env) (rs:List ResultVar) (T:V->HH->Prop):Out->XS->Prop
 | .exit _,_=>False
 |_,s=>en (eC E s.st rs) fun r=>T r s.H
def y3 (r:V) (H:HH) (T:V->HH->Prop):Prop:=∃(Z:Nat->Bool) (u:V),(∀m w v,(∀g ob,H g=some ob->w.heap[g]?=some ob)->(∀g,Z g=true->H g≠none->m g=none)->Rd m w v r->Rd m w v u)∧T u (fun g=>if Z g=true then none else H g)
def Eg (E:Env) (rs:List ResultVar) (T:V->HH->Prop):Out->XS->Prop
 | .exit _,_=>False
 |_,s=>en (eC E s.st rs) fun r=>y3 r s.H T
theorem pd {D:List Deferred} (hE:EnvOK E) {fn:Func} {R:Ending->World->Prop} (hK:E.K<=B.ws.heap.size)
 (hR:∀(w:World) (m:Lim) (O:Nat->Prop),Now E n D O m s.st a w->(∀g ob,s.H g=some ob-> ¬O g∧w.heap[g]?=some ob∧m g=some 0∧(B.ws.heap.size<=g∨B.X g)∧E.K<=g)->Step B.X B.ms B.ws m w->∃v,(results fn a.tmps).run E.P w= .ok v w∧R (.returned v) w):∀(D':List Deferred) (w:World) (m:Lim) (O:Nat->Prop),Now E n D O m s.st a w->(∀g ob,s.H g=some ob-> ¬O g∧w.heap[g]?=some ob∧m g=some 0∧(B.ws.heap.size<=g∨B.X g)∧E.K<=g)->Step B.X B.ms B.ws m w->iI D' O B.ws.heap.size w s.H->LeavesInM (eL none) 0 E.P fn a.tmps R D' .returning w
 |[],w,m,O,h1,h2,h3,h4=>hR w m O h1 h2 h3
 | d::D',w,m,O,h1,h2,h3,h4=>by
   obtain⟨b,rfl,q1,q2,q3,q4⟩:=h4.2 d (L9 ..);have hs:Step (fun k=>k=b) m w m (w.putObj b (.deferred none)):=Step.mark q2;have hJ:E.J (w.putObj b (.deferred none)):=hE.keep [b] _ _ (fun x hx=>by rw[LX.1 hx];exact tl hK q1) h1.J (hs.bel (fun k _ e=>LX.2 e));have hnb:=(MK.1 h4.1).1;refine⟨(by intro e;cases e),.inl ⟨b,_,rfl,run_takeDeferred q2,pd hE hK hR D' _ m O (h1.other hs (fun k hk e=>q3 (e▸hk)) hJ) (fun g ob hg=>?_) (h3.next hs (fun i hi e=>absurd hi (My.2 (e▸q1)))) ⟨(MK.1 h4.1).2,fun x hx=>?_⟩⟩⟩
   . obtain⟨r1,r2,r3⟩:=h2 g ob hg;exact⟨r1,(World.putObj_heap_other (fun e=>by rw[e,q4] at hg;cases hg)).trans r2,r3⟩
   . obtain⟨b',rfl,r1,r2,r3,r4⟩:=h4.2 x (L7 _ hx);exact⟨b',rfl,r1,(World.putObj_heap_other (fun e=>hnb (by rw[e] at hx;exact hx))).trans r2,r3,r4⟩
theorem HoldX.leaves (hE:EnvOK E) (h:HoldX E n B s a w) {fn:Func} {R:Ending->World->Prop} (hK:E.K<=B.ws.heap.size)
 (hR:∀(D:List Deferred) (w:World) (m:Lim) (O:Nat->Prop),Now E n D O m s.st a w->(∀g ob,s.H g=some ob-> ¬O g∧w.heap[g]?=some ob∧m g=some 0∧(B.ws.heap.size<=g∨B.X g)∧E.K<=g)->Step B.X B.ms B.ws m w->∃v,(results fn a.tmps).run E.P w= .ok v w∧R (.returned v) w):LeavesInM (eL none) 0 E.P fn a.tmps R a.defers .returning w:=by
 obtain⟨D,m,O,q1,q2,q4,q5,q6⟩:=h;have hd:a.defers=D:=by obtain⟨_,_,hr⟩:=q1.rel;exact hr.defers
 rw[hd];exact pd hE hK (hR D) D w m O q1 q2 q5 q6.2
theorem y4 (hE:EnvOK E) (hm:E.P.follows .mixedOrders=true) (hF:∀f C,F.F f=some C->cE E f C) (hI:∀t name C,F.I t name=some C->ld E t name C) (hP:∀id p,F.P id=some p->rS E n none p) {f:FuncId} {fn:Func} {c:Code} {C:List V->HH->Tr} {k:Nat} (hf:E.P.funcs[f]?=some fn) (hb:fn.body=some c) (hcall:∀args w,(callFunc f args).run E.P w= .ok (.enter f args) w) (hn:fn.ntmps=n) (hk:k<=n) (hn1:n<=1000) (hok:pN E.any F.any (fun id=>(F.P id).isSome) n c=true)
 (hbody:∀us H T,C us H T->us.all V.dat=true->us.length=k∧bR E F c ⟨start us,H⟩ (Ef E fn.results.toList T)) (hY:g8 E F.Y:=by exact g9):cE E f C:=by
 refine⟨hcall,fun m w vs us H T hC hdat hr hH hj hg=>?_⟩;obtain⟨hl,hrun⟩:=hbody us H T hC hdat;refine fA.1 (callsIn_of_wp_marks (F:=eL none) (n:=0) hf hb trivial ?_);rw[hn];let B:Xb:=⟨fun k=>H k≠none,Kno.top,m,w⟩
 have h0:HoldX E n B ⟨start us,H⟩ {tmps:=vs++Array.replicate (n-vs.size) Go.undef,defers:=[]} w:=
  ⟨[],m,_,Now.first (iD hr hdat hl hk hn1 hj hg),fun g ob e=>⟨fun h=>h.elim,(hH g ob e).1,(hH g ob e).2.1,.inr (by show H g≠none;rw[show H g=some ob from e];simp),(hH g ob e).2.2⟩,fun _ h=>h.elim,Step.refl _ _ _,trivial,Nr,fun d hd=>by cases hd⟩
 refine wpIn_mono (kq (r:=none) hE hm hF hI hY hP c _ _ _ _ hok h0 hrun) ?_;rintro e a' w' ⟨o,s',ho,hk,hX⟩;have fin:(∃r,eC E s'.st fn.results.toList=some r∧T r s'.H)->LeavesInM (eL none) 0 E.P fn a'.tmps (fun e w'=>∃v m' r H',e= .returned v∧Rd m' w' v r∧T r H'∧Step (fun k=>H k≠none) m w m' w'∧∀g ob,H' g=some ob->w'.heap[g]?=some ob∧m' g=some 0∧(H g≠none∨w.heap.size<=g)) a'.defers .returning w':=by
  rintro⟨r,hres,hT⟩;refine hX.leaves hE (hE.high _ hj) fun D w' m1 O q1 q2 q5=>?_
  obtain⟨b,β,hrel⟩:=q1.rel;obtain⟨v,hv,hd⟩:=eW hrel hres;exact⟨v,hv,v,m1,r,s'.H,rfl,hd,hT,q5,fun g ob hg=>⟨(q2 g ob hg).2.1,(q2 g ob hg).2.2.1,(q2 g ob hg).2.2.2.1.elim .inr .inl⟩⟩
 cases e<;>simp only[mM,MT,reduceCtorEq] at ho<;>subst ho
 all_goals first|exact fin (bt hk)|exact hk.elim
theorem cP (hE:EnvOK E) (hm:E.P.follows .mixedOrders=true) (hF:∀f C,F.F f=some C->cE E f C) (hI:∀t name C,F.I t name=some C->ld E t name C) {f:FuncId} {fn:Func} {c:Code} {C:List V->HH->Tr} {k:Nat} (hf:E.P.funcs[f]?=some fn) (hb:fn.body=some c) (hcall:∀args w,(callFunc f args).run E.P w= .ok (.enter f args) w) (hn:fn.ntmps=n) (hk:k<=n) (hn1:n<=1000) (hok:pN E.any F.any (fun id=>(F.P id).isSome) n c=true)
 (hbody:∀us H T,C us H T->us.all V.dat=true->us.length=k∧bR E F c ⟨start us,H⟩ (Ef E fn.results.toList T)) (hP:∀id,F.P id=none:=by intro _;rfl) (hY:g8 E F.Y:=by exact g9):cE E f C:=
 y4 hE hm hF hI (fun id p h=>by rw[hP] at h;cases h) hf hb hcall hn hk hn1 hok hbody hY
theorem y5 (hE:EnvOK E) (hm:E.P.follows .mixedOrders=true) (hF:∀f C,F.F f=some C->cE E f C) (hI:∀t name C,F.I t name=some C->ld E t name C) (hP:∀id p,F.P id=some p->rS E n none p) {f:FuncId} {fn:Func} {c:Code} {C:List V->HH->Tr} {k:Nat} (hf:E.P.funcs[f]?=some fn) (hb:fn.body=some c) (hcall:∀args w,(callFunc f args).run E.P w= .ok (.enter f args) w) (hn:fn.ntmps=n) (hk:k<=n) (hn1:n<=1000) (hok:pN E.any F.any (fun id=>(F.P id).isSome) n c=true)
 (hbody:∀us H T,C us H T->us.all V.dat=true->us.length=k∧bR E F c ⟨start us,H⟩ (Eg E fn.results.toList T)) (hY:g8 E F.Y:=by exact g9):cE E f C:=by
 refine⟨hcall,fun m w vs us H T hC hdat hr hH hj hg=>?_⟩;obtain⟨hl,hrun⟩:=hbody us H T hC hdat;refine fA.1 (callsIn_of_wp_marks (F:=eL none) (n:=0) hf hb trivial ?_);rw[hn];let B:Xb:=⟨fun k=>H k≠none,Kno.top,m,w⟩
 have h0:HoldX E n B ⟨start us,H⟩ {tmps:=vs++Array.replicate (n-vs.size) Go.undef,defers:=[]} w:=
  ⟨[],m,_,Now.first (iD hr hdat hl hk hn1 hj hg),fun g ob e=>⟨fun h=>h.elim,(hH g ob e).1,(hH g ob e).2.1,.inr (by show H g≠none;rw[show H g=some ob from e];simp),(hH g ob e).2.2⟩,fun _ h=>h.elim,Step.refl _ _ _,trivial,Nr,fun d hd=>by cases hd⟩
 refine wpIn_mono (kq (r:=none) hE hm hF hI hY hP c _ _ _ _ hok h0 hrun) ?_;rintro e a' w' ⟨o,s',ho,hk,hX⟩;have fin:(∃r,eC E s'.st fn.results.toList=some r∧y3 r s'.H T)->LeavesInM (eL none) 0 E.P fn a'.tmps (fun e w'=>∃v m' r H',e= .returned v∧Rd m' w' v r∧T r H'∧Step (fun k=>H k≠none) m w m' w'∧∀g ob,H' g=some ob->w'.heap[g]?=some ob∧m' g=some 0∧(H g≠none∨w.heap.size<=g)) a'.defers .returning w':=by
  rintro⟨r,hres,Z,u,hZ,hT⟩;refine hX.leaves hE (hE.high _ hj) fun D w' m1 O q1 q2 q5=>?_
  obtain⟨b,β,hrel⟩:=q1.rel;obtain⟨v,hv,hd⟩:=eW hrel hres;have hs:Step (fun k=>s'.H k≠none) m1 w' (fun k=>if Z k=true∧s'.H k≠none then none else m1 k) w':=by
   refine⟨rfl,rfl,rfl,⟨LM _,fun b off v hlt hm hc=>hc,fun b hlt fr' hf=>?_,fun b es c hm hc=>hc⟩,fun k hk hn=>⟨rfl,L1 (fun h=>hn h.2)⟩⟩;split at hf
   . cases hf
   . exact⟨fr',hf,LM _⟩
  refine⟨v,hv,v,_,u,_,rfl,hZ _ w' v (fun g ob hg=>(q2 g ob hg).2.1) (fun g h1 h2=>L0 ⟨h1,h2⟩) (hd.mono hs.ext),hT,q5.next hs (fun i hi e=>?_),fun g ob hg=>?_⟩
  . cases e':s'.H i with
    |none=>exact absurd e' e
    |some ob=>exact(q2 i ob e').2.2.2.1.resolve_left (Nj.2 hi)
  . split at hg
    . cases hg
    . rename_i hz;exact⟨(q2 g ob hg).2.1,by rw[L1 (fun h=>hz h.1)];exact(q2 g ob hg).2.2.1,(q2 g ob hg).2.2.2.1.elim .inr .inl⟩
 cases e<;>simp only[mM,MT,reduceCtorEq] at ho<;>subst ho
 all_goals first|exact fin (bt hk)|exact hk.elim
theorem mX (hE:EnvOK E) (hm:E.P.follows .mixedOrders=true) (hF:∀f C,F.F f=some C->cE E f C) (hI:∀t name C,F.I t name=some C->ld E t name C) {f:FuncId} {fn:Func} {c:Code} {C:List V->HH->Tr} {k:Nat} (hf:E.P.funcs[f]?=some fn) (hb:fn.body=some c) (hcall:∀args w,(callFunc f args).run E.P w= .ok (.enter f args) w) (hn:fn.ntmps=n) (hk:k<=n) (hn1:n<=1000) (hok:pN E.any F.any (fun id=>(F.P id).isSome) n c=true)
 (hbody:∀us H T,C us H T->us.all V.dat=true->us.length=k∧bR E F c ⟨start us,H⟩ (Eg E fn.results.toList T)) (hP:∀id,F.P id=none:=by intro _;rfl) (hY:g8 E F.Y:=by exact g9):cE E f C:=
 y5 hE hm hF hI (fun id p h=>by rw[hP] at h;cases h) hf hb hcall hn hk hn1 hok hbody hY
end
variable {E:Env}
theorem tg {F:Fx} {K:XS->Prop} (need:Nat->List Nat) (I:Nat->HH->(Nat->V)->Prop) (val0:Nat->V) (h1:oN ops=true) (h2:((List.range ops.length).all fun i=>(match ops[i]? with|some o=>(need i).all fun k=>(directV o).any (f7 ops k)|none=>true))=true) (h3:I 0 s.H val0)
 (h4:∀(L i:Nat) (o:Oper) (H:HH) (val:Nat->V) (st:St),ops[i]?=some o->L.testBit i=false->(∀k∈directV o,L.testBit k=true)->ClosedM ops L->I L H val->(∀k∈need i,st.t k=val k)->(∀k,(ops.all fun o=>o.dst !=some k)=true->st.t k=s.st.t k)->st.b=s.st.b->
  df E F ⟨ops⟩ [o] ⟨st,H⟩ fun s'=>∃val',(∀k,o.dst≠some k->val' k=val k)∧I (L|||2^i) s'.H val'∧Le (match o.dst with|some d=>st.put (some d) (val' d)|none=>st) s'.st)
 (h5:∀H val,I (2^ops.length-1) H val->∃ts bs,g4 (kR s.st val ops (2^ops.length-1)) ts∧g5 (kR s.st val ops (2^ops.length-1)) bs∧K ⟨eH ts bs,H⟩):vt E F ops s K:=by
 refine⟨need,fun L H val bx=>bx=s.st.b∧I L H val,val0,h1,h2,⟨rfl,h3⟩,fun L i o H val bx a b c d ⟨hb,e⟩ f=>?_,fun H val bx ⟨hb,e⟩=>by subst hb;exact h5 H val e⟩;subst hb;have h:=h4 L i o H val (kR s.st val ops L) a b c d e f (fun _ hk=>aK hk) rfl;refine Eq.mp (NM (df E F ⟨ops⟩ [o] ⟨kR s.st val ops L,H⟩) (funext fun s'=>propext ⟨?_,?_⟩)) h
 . rintro⟨val',q1,q2,q3⟩;refine⟨val',q1,s.st.b,⟨rfl,q2⟩,?_⟩;unfold B4;cases hd:o.dst<;>(rw[hd] at q3;exact q3)
 . rintro⟨val',q1,bx',⟨rfl,q2⟩,q3⟩;refine⟨val',q1,q2,?_⟩;unfold B4 at q3;cases hd:o.dst<;>(rw[hd] at q3;exact q3)
def vD:List (FuncId×(List V->HH->Tr))->FuncId->Option (List V->HH->Tr)
 |[],_=>none
 |p::l,f=>if p.1=f then some p.2 else vD l f
def Gb (E:Env):List (FuncId×(List V->HH->Tr))->Prop
 |[]=>True
 |p::l=>cE E p.1 p.2∧Gb E l
theorem fK {E:Env}:∀{l:List (FuncId×(List V->HH->Tr))},Gb E l->∀f C,vD l f=some C->cE E f C
 |[],_,f,C,e=>by cases e
 | p::l,h,f,C,e=>by
   unfold vD at e;split at e
   . rename_i hp;subst hp;cases e;exact h.1
   . exact fK h.2 f C e
theorem y6 (k:FuncId) (C:List V->HH->Tr) (l:List (FuncId×(List V->HH->Tr))) (f:FuncId):vD ((k,C)::l) f=if k=f then some C else vD l f:=rfl
theorem B6 (f:FuncId):vD [] f=none:=rfl
attribute [go_sem] y6 B6
theorem y8 (K:α->Prop):en none K=False:=rfl
theorem za (k:IntKind) (i:Int):iF (.x (.int k i))=some [.int k i]:=rfl
theorem vE (b:Bool):iF (.x (.bool b))=some [.bool b]:=rfl
theorem rT (p:Option Addr) (l c:Nat):iF (.x (.slice p l c))=some [.slice p l c]:=rfl
theorem zb (s:ByteArray):iF (.x (.string s))=some [.string s]:=rfl
theorem zc (p:Option Addr):iF (.x (.pointer p))=some [.pointer p]:=rfl
theorem zd (z:Nat) (es:List V) (t:Option Nat):iF (.sl true z es t)=some [.slice none 0 0]:=rfl
theorem ze (v:Value) (n:Nat):(madeCells #[v] n).toList=List.replicate n v:=by rw[List.eq_replicate_iff];refine⟨by simp[madeCells],fun b hb=>?_⟩;simp only[madeCells,Og,N6,Mw] at hb;obtain⟨x,_,rfl⟩:=hb;simp[Nat.mod_one]
theorem vF (k:IntKind) (i:Int):(Value.int k i).cells= #[.int k i]:=rfl
theorem rU (b:Bool):(Value.bool b).cells= #[.bool b]:=rfl
theorem zf (a:Option Addr) (l c:Nat):(Value.slice a l c).cells= #[.slice a l c]:=rfl
attribute [go_sem] ze vF rU zf
theorem getD_some {α:Type} (a b:α):(some a).getD b=a:=rfl
theorem map_some {α β:Type} (f:α->β) (a:α):(some a).map f=some (f a):=rfl
attribute [go_sem] la rG oZ mV o0 o3 o4 rH rI rJ yT vr rB rC rD km kn jk vv oW vw rF oX yW vx rK vy vz yX o6 yY vA lc rL o7 rM o8
attribute [go_sem] k9 rE oT vp y8 za vE rT zb zc zd k8 oO yS oP mQ kf kg rx kh ry mR mS mT ki iG rz rA kj Ef Eg getD_some map_some
attribute [congr] vq oV o5 oY oQ oR oS o9 rN mW rO mU rv
end Go.Proofs.Ytenmccehpkiamaa
