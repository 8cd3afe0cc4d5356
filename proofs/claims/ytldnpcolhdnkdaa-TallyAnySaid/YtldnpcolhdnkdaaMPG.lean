/- The operations that touch memory, and calls: the run over plain data, and what it says of the program's. No program is named here. -/
import Derived.Test.YtldnpcolhdnkdaaMPA
import Derived.Laws.CopyRow
import Derived.Laws.CopyOwn
import Derived.Lib.AppendStr
import Derived.Lib.ConvBytes
import Derived.Laws.BytesString
namespace Go.Proofs.Ytldnpcolhdnkdaa
set_option linter.unusedSimpArgs false
open Go Go.RowKit
def V.cell:V->Bool
 | .undef=>false
 | .ptr .. =>false
 | .row .. =>false
 | .bx _=>false
 | .mp .. =>false
 | .x (.agg _)=>false
 | .x (.tuple _)=>false
 | .agg _=>false
 | .tup _=>false
 |_=>true
def noPtrTo (s:Nat) (t:Nat->V):Prop:=∀i,(t i).nm≠some s
noncomputable def jc (E:Env) (b:Nat->Option (List V)) (t:TypeId) (p:V):Option V:=
 match p with
 | .ptr s off=>match b s with
   | some cs=>match E.MB s,aW E.P t with
     |true,some true=>cM E.P t (cs.map V.pc) off
     |_,_=>cM E.P t cs off
   |none=>none
 | .ip cs=>cM E.P t cs 0
 |_=>none
noncomputable def lu (E:Env) (st:St) (t:TypeId) (p u:V):Option St:=
 match p with
 | .ptr s off=>match st.b s with
   | some cs=>
     if u.bare.dat=true∧u.bare.cells.all V.cell=true∧bg E.P t=some u.bare.cells.length∧E.okS s u=true∧off+u.bare.cells.length<=cs.length then
      some ⟨st.t,aw st.b s (some (cs.take off++(E.kept s u).cells++cs.drop (off+u.bare.cells.length)))⟩
     else none
   |none=>none
 |_=>none
noncomputable def eL (st:St) (d:Option Tmp) (cs:List V):Option St:=
 match d with
 |some s=>open Classical in if noPtrTo s st.t then some ⟨aw st.t s (.ptr s 0),aw st.b s (some cs)⟩ else none
 |none=>none
def zu (P:Program) (t:TypeId) (len:Nat) (parts:List (Nat×V)):Option V:=
 match P.underlying t with
 | some (.slice el)=>match bg P el,aE P el with
   |some n,some _=>if parts.map (·.1)=List.range len∧len*n<=16777216∧(parts.all fun p=>p.2.dat&&decide (p.2.cells.length=n))=true then some (.sl false n (parts.map (·.2)) none) else none
   |_,_=>none
 |_=>none
def Env.own (E:Env):Option Tmp->Bool
 |some d=>E.M d
 |none=>false
noncomputable def Dw (P:Program) (st:St) (d:Option Tmp) (t:TypeId) (len:Nat) (parts:List (Nat×V)):Option St:=
 match d,P.underlying t with
 | some s,some (.slice el)=>match bg P el,aE P el with
   |some n,some _=>open Classical in if noPtrTo s st.t∧parts.map (·.1)=List.range len∧len*n<=16777216∧(parts.all fun p=>p.2.dat&&decide (p.2.cells.length=n))=true then
    some ⟨aw st.t s (.row s n len),aw st.b s (some (parts.flatMap fun p=>p.2.cells))⟩ else none
   |_,_=>none
 |_,_=>none
def Env.litD (E:Env):Option Tmp->Bool
 |some d=>E.lit d
 |none=>false
def d8 (s:ByteArray):List V:=s.data.toList.map fun b=> .x (.int .u8 b.toNat)
noncomputable def fq (E:Env) (st:St) (d:Option Tmp) (el:TypeId) (a b:V):Option St:=
 match d,bg E.P el,cQ E.P el,aE E.P el with
 | some d,some n,some by',some z=>
   match a,b with
   | .sl true _ [] tk,.sl _ sz' es' _=>
     if n≠0∧z.length=n∧(sz'=n∨es'=[])∧(es'.all fun u=>u.cells.all V.cell)=true∧es'.length*by'<=140737488355328∧es'.length<=9223372036854775807 then
      some ⟨aw (lk tk (strip d st.t)) d (.sl es'.isEmpty n es' (some d)),ov E tk (az E d st.b)⟩
     else none
   | .sl false sz es (some k),.sl _ sz' es' _=>
     if n≠0∧z.length=n∧sz=n∧(sz'=n∨es'=[])∧(es'.all fun u=>u.cells.all V.cell)=true∧(es.length+es'.length)*by'<=140737488355328∧es.length+es'.length<=9223372036854775807 then
      some ⟨aw (strip k (strip d st.t)) d (.sl false n (es++es') (some d)),az E k (az E d st.b)⟩
     else none
   | .row s sz len,.sl _ sz' es' _=>match st.b s with
     | some cs=>
       if n≠0∧z.length=n∧sz=n∧(sz'=n∨es'=[])∧(es'.all fun u=>u.cells.all V.cell)=true∧(len+es'.length)*by'<=140737488355328∧len+es'.length<=9223372036854775807∧E.MB d=false then
        some ⟨aw (kill s (kill d st.t)) d (.row d n (len+es'.length)),aw (aw st.b s none) d (some (cs.take (len*n)++es'.flatMap V.cells))⟩
       else none
     |none=>none
   |_,_=>none
 |_,_,_,_=>none
noncomputable def vC (E:Env) (st:St) (d:Option Tmp) (el:TypeId) (l c:V):Option St:=
 match d,bg E.P el,cQ E.P el,aE E.P el with
 | some d,some n,some by',some z=>
   match l,c with
   | .x (.int _ l),.x (.int _ c)=>
     if z.length=n∧l=0∧0<=c∧(by':Int)*c<=281474976710656∧c<=9223372036854775807 then some ⟨aw (strip d st.t) d (.sl false n [] (some d)),az E d st.b⟩ else none
   |_,_=>none
 |_,_,_,_=>none
noncomputable def vD (E:Env) (st:St) (d:Option Tmp) (el:TypeId) (l c:V):Option St:=
 match d,bg E.P el,cQ E.P el,aE E.P el with
 | some d,some n,some by',some z=>
   match l,c with
   | .x (.int _ l),.x (.int _ c)=>
     open Classical in if noPtrTo d st.t∧z.length=n∧l=c∧0<=c∧(by':Int)*c<=281474976710656∧c<=9223372036854775807∧E.okN (some d) (List.replicate c.toNat z).flatten=true then
      some ⟨aw st.t d (.row d n c.toNat),aw st.b d (some (List.replicate c.toNat z).flatten)⟩ else none
   |_,_=>none
 |_,_,_,_=>none
def dG (sz:Nat):Nat->List V->List V
 |0,_=>[]
 |k+1,cs=>(if sz=1 then (cs[0]?).getD (.agg (cs.take sz)) else .agg (cs.take sz))::dG sz k (cs.drop sz)
theorem pE:∃f:Nat->Nat->List V->List V,∀sz k cs,f sz k cs=dG sz k cs:=⟨dG,fun _ _ _=>rfl⟩
noncomputable def sI:Nat->Nat->List V->List V:=Classical.choose pE
theorem wC (sz k:Nat) (cs:List V):sI sz k cs=dG sz k cs:=Qh pE sz k cs
def Env.fzO (E:Env):Option Tmp->Bool
 |some d=>E.fz d
 |none=>false
noncomputable def kX (E:Env) (st:St) (d:Option Tmp) (u:V):Option St:=
 match d,u with
 | some d,.row s sz len=>match st.b s with
   |some cs=>if sz≠0∧E.MB s=false∧cs.all V.dat=true∧cs.all V.cell=true then some ⟨aw (kill s st.t) d (.sl false sz (sI sz len cs) none),aw st.b s none⟩ else none
   |none=>none
 |some d,.mp s ks vs=>some ⟨aw (kill s st.t) d (.fm ks vs),aw st.b s none⟩
 | some d,.ptr s 0=>match st.b s with
   |some cs=>if E.MB s=false∧cs.all V.dat=true then some ⟨aw (kill s st.t) d (.ip cs),aw st.b s none⟩ else none
   |none=>none
 |_,_=>none
noncomputable def vE (E:Env) (st:St) (d:Option Tmp) (t1 t2:TypeId) (u:V):Option St:=
 match d,u with
 | some s,.x (.string b)=>match E.P.underlying t1,E.P.underlying t2 with
   | some .string,some (.slice el)=>match E.P.underlying el with
     |some (.int .u8)=>open Classical in if noPtrTo s st.t∧E.okN (some s) (d8 b)=true then some ⟨aw st.t s (.row s 1 b.size),aw st.b s (some (d8 b))⟩ else none
     |_=>none
   |_,_=>none
 | some s,.row s' 1 len=>match E.P.underlying t1,E.P.underlying t2,st.b s' with
   | some (.slice el),some .string,some cs=>match E.P.underlying el,bytesOf (cs.take len) with
     |some (.int .u8),some l=>some (st.put (some s) (.str ⟨l.toArray⟩))
     |_,_=>none
   |_,_,_=>none
 |_,_=>none
def sJ:V->Option FuncId
 | .x (.func (.func f) ⟨[]⟩ ⟨[]⟩)=>some f
 |_=>none
theorem wD (f:FuncId):sJ (.x (.func (.func f) #[] #[]))=some f:=rfl
variable {u:V}
theorem vF {f:FuncId} (h:sJ u=some f):u= .x (.func (.func f) #[] #[]):=by
 unfold sJ at h;split at h
 . cases h;rfl
 . cases h
noncomputable def dU (E:Env) (op:Op) (e:Operand->V) (b:Nat->Option (List V)):Option V:=
 match op with
 | .load t p=>np (jc E b t (e p))
 | .call {callee:= .value c,args,..}=>match sJ (e c) with
   | some f=>match E.F f with
     | some F=>if (args.toList.map fun x=>(e x).bare).all V.dat=true then
      np (F (args.toList.map fun x=>(e x).bare))
       else none
     |none=>none
   |none=>none
 | .buildSlice t len parts=>zu E.P t len (parts.toList.map fun p=>(p.1,(e p.2).bare))
 |op=>aH E op e
def sK:Bool->Nat->List V->Option Nat->V
 |true,_,_,_=> .sl true 0 [] (some 0)
 |false,sz,es,none=> .sl false sz es none
 |false,sz,es,some _=> .sl false sz es (some 0)
noncomputable def eM (b:Nat->Option (List V)):V->V
 | .ptr s 0=>match b s with
   |some cs=> .bx cs
   |none=> .undef
 | .sl nl sz es tok=>sK nl sz es tok
 | .mp _ ks vs=> .mp 0 ks vs
 |u=>u.bare
def cN:List V->List Nat
 |[]=>[]
 | .mp s _ _::l=>s::cN l
 |_::l=>cN l
def a8:List V->List Nat
 |[]=>[]
 | .ptr s 0::l=>s::a8 l
 |_::l=>a8 l
def aY:List V->List Nat
 |[]=>[]
 | .sl _ _ _ (some k)::l=>k::aY l
 |_::l=>aY l
def V.datP:V->Bool
 | .bx _=>true
 | .sl _ _ _ (some _)=>true
 | .mp .. =>true
 |u=>u.dat
def pF:(Nat->Option (List V))->List Nat->List (List V)->Option ((Nat->Option (List V))×List (List V))
 |b,[],cs=>some (b,cs)
 |b,s::ss,c::cs=>pF (aw b s (some c)) ss cs
 |_,_,_=>none
noncomputable def nx:(Nat->V)->List Nat->List (List V)->Option (Nat->V)
 |t,[],[]=>some t
 |t,s::ss,[.mp _ ks vs]::cs=>nx (mS s ks vs t) ss cs
 |_,_,_=>none
def ox (ss:List Nat):V->V
 | .row s z l=>if ss.contains s=true then .undef else .row s z l
 |v=>v
theorem pG:∃f:List Nat->V->V,∀s u,f s u=ox s u:=⟨ox,fun _ _=>rfl⟩
noncomputable def bC:List Nat->V->V:=Classical.choose pG
theorem bW (s:List Nat) (u:V):bC s u=ox s u:=Qh pG s u
noncomputable def fg (ss:List Nat) (t:Nat->V):Nat->V:=fun i=>bC ss (t i)
theorem eF (ss:List Nat) (u:V):bC ss u=u∧(∀s z l,u= .row s z l->s∉ss)∨bC ss u= .undef:=by
 rw[bW];cases u<;>try exact .inl ⟨rfl,fun _ _ _ h=>by cases h⟩
 rename_i s z l;simp only[ox];by_cases h:ss.contains s=true
 . rw[PO h];exact .inr rfl
 . rw[PS h];refine .inl ⟨rfl,fun s' z' l' e=>?_⟩;cases e;intro hm;exact h (Ri.2 hm)
noncomputable def stripL:List Nat->(Nat->V)->(Nat->V)
 |[],t=>t
 |k::ks,t=>strip k (stripL ks t)
noncomputable def dp (E:Env):List Nat->(Nat->Option (List V))->(Nat->Option (List V))
 |[],b=>b
 |k::ks,b=>az E k (dp E ks b)
noncomputable def ig (E:Env) (st:St) (d:Option Tmp) (r:V):St:=
 match d,r with
 |some d,.sl nl sz es (some _)=>⟨aw (strip d st.t) d (.sl nl sz es (some d)),az E d st.b⟩
 |d,r=>st.put d r.bare
def IH:Bool->Option (List V)->Bool
 |true,some c=>c.all V.unm
 |_,_=>true
def zw (E:Env) (b:Nat->Option (List V)):List Nat->Bool
 |[]=>true
 | s::ss=>match IH (E.MB s) (b s) with
   |true=>zw E b ss
   |false=>false
theorem vG {E:Env} {b:Nat->Option (List V)}:∀{ss:List Nat},zw E b ss=true->∀s∈ss,E.MB s=true->∀c,b s=some c->c.all V.unm=true
 | s ::ss,h,k,hk,hm,c,hc=>by
   unfold zw at h;split at h
   . rename_i h1;rcases PY.1 hk with rfl|hk
     . rw[hm,hc] at h1;exact h1
     . exact vG h k hk hm c hc
   . cases h
noncomputable def callP (E:Env) (st:St) (d:Option Tmp) (F:List V->Option (V×List (List V))) (vs:List V):Option St:=
 if (vs.map (eM st.b)).all V.datP=true∧(a8 vs).Nodup∧(aY vs).Nodup∧(cN vs).Nodup then
  match F (vs.map (eM st.b)) with
  | some (r,outs)=>match r.notPtr,pF (dp E (aY vs) st.b) (a8 vs) outs with
    | true,some (b',rest)=>match zw E b' (a8 vs),nx (fg (a8 vs) (stripL (aY vs) st.t)) (cN vs) rest with
      |true,some t'=>some (ig E ⟨t',b'⟩ d r)
      |_,_=>none
    |_,_=>none
  |none=>none
 else none
def gg (E:Env):V->Option (List V->Option (V×List (List V)))
 | .x (.func (.func f) ⟨[]⟩ ⟨lb⟩)=>E.X f lb
 |_=>none
noncomputable def Dx (E:Env) (st:St) (d:Option Tmp) (t:TypeId) (len:Nat) (parts:List (Nat×V)):Option St:=
 match d,E.P.underlying t with
 | some s,some (.slice el)=>match bg E.P el,aE E.P el with
   |some n,some _=>if parts.map (·.1)=List.range len∧len*n<=16777216∧(parts.all fun p=>p.2.dat&&decide (p.2.cells.length=n))=true then
    some (ig E st (some s) (.sl false n (parts.map (·.2)) (some 0))) else none
   |_,_=>none
 |_,_=>none
noncomputable def zx (st:St) (d:Option Tmp) (F:List V->Option (List V×List V)) (vs:List V):Option St:=
 match d,vs.all V.dat with
 | some d,true=>match F vs with
   |some (ks,us)=>open Classical in if noPtrTo d st.t then some ⟨aw st.t d (.mp d ks us),aw st.b d none⟩ else none
   |none=>none
 |_,_=>none
def vH:Option V->Bool
 |none=>true
 |some (.x (.int _ _))=>true
 |_=>false
noncomputable def ee (E:Env) (o:Oper) (st:St):Option St:=
 match o.op with
 | .alloc t=>match aE E.P t with
   |some z=>if E.okN o.dst z=true then eL st o.dst z else none
   |none=>none
 | .box _ x=>if (ev E st x).bare.dat=true∧E.okN o.dst (ev E st x).bare.cells=true then eL st o.dst (ev E st x).bare.cells else none
 | .store t p x=>if o.dst.isNone=true then lu E st t (ev E st p) (ev E st x) else none
 | .load t p=>match np (jc E st.b t (ev E st p)) with
   |some u=>some (st.put o.dst (E.keepL (ev E st p) u))
   |none=>none
 | .call {callee:= .builtin .append,args,argTypes}=>match args.toList,argTypes.toList with
   | [x,y],[t,t']=>match decide (t=t'),E.P.underlying t with
     |true,some (.slice el)=>fq E st o.dst el (ev E st x) (ev E st y)
     | false,some (.slice el)=>match E.P.underlying t',ev E st y with
       |some .string,.x (.string s)=>fq E st o.dst el (ev E st x) (.sl false 1 (d8 s) none)
       |_,_=>none
     |_,_=>none
   |_,_=>none
 | .makeMap t r=>match E.P.underlying t,o.dst,vH (r.map (ev E st)) with
   |some (.map _ _),some d,true=>open Classical in if noPtrTo d st.t then some ⟨aw st.t d (.mp d [] []),aw st.b d none⟩ else none
   |_,_,_=>none
 | .mapUpdate t x k v=>match o.dst,ev E st x with
   | none,.mp s ks vs=>match putM E.P t ks vs (ev E st k).bare (ev E st v).bare with
     |some (ks',vs')=>some ⟨mS s ks' vs' st.t,st.b⟩
     |none=>none
   |_,_=>none
 | .lookup t x k ok=>match ed E.P t (ev E st x) (ev E st k).bare ok with
   |some u=>some (st.put o.dst u.bare)
   |none=>none
 | .makeSlice t l c=>match E.P.underlying t with
   | some (.slice el)=>match E.own o.dst with
     |true=>vD E st o.dst el (ev E st l) (ev E st c)
     |false=>vC E st o.dst el (ev E st l) (ev E st c)
   |_=>none
 | .buildSlice t len parts=>match E.own o.dst with
   | true=>match E.litD o.dst with
     |true=>Dx E st o.dst t len (parts.toList.map fun p=>(p.1,(ev E st p.2).bare))
     |false=>if E.okN o.dst ((parts.toList.map fun p=>(p.1,(ev E st p.2).bare)).flatMap fun p=>p.2.cells)=true then Dw E.P st o.dst t len (parts.toList.map fun p=>(p.1,(ev E st p.2).bare)) else none
   | false=>match dU E (.buildSlice t len parts) (ev E st) st.b with
     |some u=>some (st.put o.dst (cK (.buildSlice t len parts) u))
     |none=>none
 | .convert t1 t2 x=>match E.own o.dst with
   |true=>vE E st o.dst t1 t2 (ev E st x)
   | false=>match dU E (.convert t1 t2 x) (ev E st) st.b with
     |some u=>some (st.put o.dst (cK (.convert t1 t2 x) u))
     |none=>none
 | .call { callee:= .value c,args,argTypes}=>match gg E (ev E st c) with
   |some F=>callP E st o.dst F (args.toList.map (ev E st)++[.ptr E.xk 0])
   | none=>match sJ (ev E st c) with
     | some f=>match E.FM f with
       |some F=>zx st o.dst F (args.toList.map fun x=>(ev E st x).bare)
       | none=>match E.FP f with
         |some F=>callP E st o.dst F (args.toList.map (ev E st))
         | none=>match dU E (.call {callee:= .value c,args,argTypes}) (ev E st) st.b with
           |some u=>some (st.put o.dst (cK (.call {callee:= .value c,args,argTypes}) u))
           |none=>none
     |none=>none
 | op=>match dU E op (ev E st) st.b with
   |some u=>some (st.put o.dst (cK op u))
   |none=>none
def Dy:Op->Option Operand
 | .move x=>some x
 | .assign x=>some x
 |_=>none
noncomputable def dc (E:Env) (o:Oper) (st:St):Option St:=
 match E.fzO o.dst with
 | true=>match Dy o.op with
   |some x=>kX E st o.dst (ev E st x)
   |none=>none
 |false=>ee E o st
structure Bel (X:List Nat) (w0 w:World):Prop where
 os:w.os=w0.os
 tape:w.tape=w0.tape
 output:w.output=w0.output
 size:w0.heap.size<=w.heap.size
 block:∀k,k<w0.heap.size->k∉X->w.heap[k]?=w0.heap[k]?
theorem Bel.refl (X:List Nat) (w:World):Bel X w w:=⟨rfl,rfl,rfl,PB _,fun _ _ _=>rfl⟩
variable {X:List Nat} {a:World}
theorem Bel.trans {B:Nat} {b c:World} (h:Bel X a b) (k:Below B b c) (hB:a.heap.size<=B):Bel X a c:=
 ⟨k.os.trans h.os,k.tape.trans h.tape,k.output.trans h.output,tl h.size k.size,fun i hi hx=>(k.block i (Qf hi hB)).trans (h.block i hi hx)⟩
variable {w:World}
theorem Bel.drew (h:Bel X a w):Bel X a w.drew:=⟨h.os,h.tape,h.output,h.size,h.block⟩
theorem Bel.alloc (h:Bel X a w) (hB:a.heap.size<=w.heap.size) (o:Obj):Bel X a (w.alloc o):=
 ⟨h.os,h.tape,h.output,by simp;omega,fun k hk hx=>(Below.heap_alloc _ _ _ (by omega)).trans (h.block k hk hx)⟩
variable {g:Nat}
theorem Bel.setRow (h:Bel X a w) (hg:a.heap.size<=g∨g∈X) (cs:Array Value):Bel X a (w.setRow g cs):=
 ⟨h.os,h.tape,h.output,by have:=h.size;simp only[World.setRow];simpa using this,fun k hk hx=>(setRow_other w g k cs (by rintro rfl;rcases hg with hg|hg;exact absurd hk (Qw.2 hg);exact hx hg)).trans (h.block k hk hx)⟩
variable {w0:World}
theorem Bel.below (h:Bel [] w0 w):Below w0.heap.size w0 w:=⟨h.os,h.tape,h.output,h.size,fun k hk=>h.block k hk (by simp)⟩
variable {w':World}
theorem Bel.step {Y:List Nat} (h:Bel X a w) (k:Bel Y w w') (hY:∀y∈Y,a.heap.size<=y∨y∈X):Bel X a w':=
 ⟨k.os.trans h.os,k.tape.trans h.tape,k.output.trans h.output,tl h.size k.size,fun i hi hx=>(k.block i (Qf hi h.size) (fun hy=>by rcases hY i hy with h1|h1;exact absurd hi (Qw.2 h1);exact hx h1)).trans (h.block i hi hx)⟩
structure Pm where
 X:List Nat
 b:Nat->Nat
 Y:List Nat
 D:List Deferred
structure TyAt (n:Nat) where
 ty:TypeId
 fz:Nat×Nat
 ok:fz.2=0∨n<=fz.1
def TyAt.plain {n:Nat} (ty:TypeId):TyAt n:=⟨ty,(0,0),.inl rfl⟩
def TyAt.to {n n':Nat} (t:TyAt n) (h:n'=n):TyAt n':=⟨t.ty,t.fz,by rw[h];exact t.ok⟩
structure BoxAt (m:Lim) (w:World) (blk:Nat) (cs:List V):Prop where
 lim:m blk=some 0
 is:∃(vals:Array Value) (ty:TyAt vals.size) (xs rest:List Value),w.heap[blk]?=some (.cells vals ty.ty ty.fz)∧vals.toList=xs++rest∧RdL m w xs cs
structure RowAt (m:Lim) (pm:Pm) (w0 w:World) (v:Value) (g sz len:Nat):Prop where
 lo:w0.heap.size<=g∨g∈pm.Y
 lim:m g=some (len*sz)
 is:∃cap cur ty,v= .slice (some ⟨g,0,none⟩) len cap∧w.heap[g]?=some (.cells cur ty (0,0))∧len<=cap∧cur.size=cap*sz
def Bear (E:Env) (w:World) (β:Nat->Nat) (st:St) (tm:Nat->Value) (v:Value) (u:V):Prop:=
 (∃i,st.t i=u∧tm i=v)∨∃k cs j,E.MB k=true∧st.b k=some cs∧cs[j]?=some u∧w.cell? ⟨β k,j,none⟩=some v
structure Rows (E:Env) (m:Lim) (pm:Pm) (w0 w:World) (β:Nat->Nat) (st:St) (tm:Nat->Value) (ρ:Nat->Nat):Prop where
 row:∀v sz es s,Bear E w β st tm v (.sl false sz es (some s))->RowAt m pm w0 w v (ρ s) sz es.length
 sep:∀v sz es s v' sz' es' s',Bear E w β st tm v (.sl false sz es (some s))->Bear E w β st tm v' (.sl false sz' es' (some s'))->ρ s=ρ s'->s=s'
 box:∀v sz es s k cs,Bear E w β st tm v (.sl false sz es (some s))->st.b k=some cs->β k≠ρ s
structure OwnAt (w:World) (β:Nat->Nat) (v:Value) (s sz len:Nat) (cs:List V):Prop where
 fit:len*sz<=cs.length
 is:∃(cap:Nat) (cur:Array Value) (ty:TyAt cur.size),v= .slice (some ⟨β s,0,none⟩) len cap∧w.heap[β s]?=some (.cells cur ty.ty ty.fz)∧cur.size=cap*sz
def Own (w:World) (β:Nat->Nat) (st:St) (tm:Nat->Value):Prop:=
 ∀i s sz len cs,st.t i= .row s sz len->st.b s=some cs->OwnAt w β (tm i) s sz len cs
variable {β β':Nat->Nat} {st':St} {tm tm':Nat->Value}
theorem Own.sub {st:St} (h:Own w β st tm)
 (ht:∀i s sz len cs',st'.t i= .row s sz len->st'.b s=some cs'->∃j cs,st.t j= .row s sz len∧tm j=tm' i∧st.b s=some cs∧cs.length<=cs'.length∧β' s=β s∧
  ∀(cur:Array Value) (ty:TyAt cur.size),w.heap[β s]?=some (.cells cur ty.ty ty.fz)->∃(cur':Array Value) (ty':TyAt cur'.size),w'.heap[β s]?=some (.cells cur' ty'.ty ty'.fz)∧cur'.size=cur.size):Own w' β' st' tm':=by
 intro i s sz len cs' hi hb;obtain⟨j,cs,h1,h2,h3,h4,h5,h6⟩:=ht i s sz len cs' hi hb;obtain⟨hl,cap,cur,ty,hv,hh,hs⟩:=h j s sz len cs h1 h3;obtain⟨cur',ty',h7,h8⟩:=h6 cur ty hh;exact⟨tl hl h4,cap,cur',ty',by rw[<-h2,hv,h5],by rw[h5];exact h7,by rw[h8];exact hs⟩
structure Maps (pm:Pm) (m:Lim) (w0 w:World) (β:Nat->Nat) (t:Nat->V):Prop where
 holds:∀i s ks vs,t i= .mp s ks vs->MapAt m w (β s) ks vs∧(w0.heap.size<=β s∨β s∈pm.X)
 inj:∀i j s s' ks vs ks' vs',t i= .mp s ks vs->t j= .mp s' ks' vs'->β s=β s'->s=s'
variable {pm:Pm} {m m':Lim} {t':Nat->V}
theorem Maps.to {t:Nat->V} (h:Maps pm m w0 w β t) (ht:∀i s ks vs,t' i= .mp s ks vs->(∃j,t j= .mp s ks vs)∧β' s=β s) (he:Ext m w m' w')
 (hw:∀g e c,w.heap[g]?=some (.map e c)->(w0.heap.size<=g∨g∈pm.X)->w'.heap[g]?=some (.map e c)∧m' g=m g):Maps pm m' w0 w' β' t':=by
 refine⟨fun i s ks vs hi=>?_,fun i j s s' ks vs ks' vs' hi hj e=>?_⟩
 . obtain⟨⟨j,hj⟩,hb⟩:=ht i s ks vs hi;obtain⟨⟨ents,clock,hh,hrd,h1,h2,hlim⟩,h3⟩:=h.holds j s ks vs hj;rw[hb];exact⟨⟨ents,clock,(hw _ _ _ hh h3).1,hrd.mono he,h1,h2,by rw[(hw _ _ _ hh h3).2];exact hlim⟩,h3⟩
 . obtain⟨⟨i',hi'⟩,hb⟩:=ht i s ks vs hi;obtain⟨⟨j',hj'⟩,hb'⟩:=ht j s' ks' vs' hj;rw[hb,hb'] at e;exact h.inj _ _ _ _ _ _ _ _ hi' hj' e
theorem Maps.on {t:Nat->V} (h:Maps pm m w0 w β t) (ht:∀i s ks vs,t' i= .mp s ks vs->(∃j,t j= .mp s ks vs)∧β' s=β s) (he:Ext m w m' w')
 (hw:∀i s ks vs,t i= .mp s ks vs->∀e c,w.heap[β s]?=some (.map e c)->w'.heap[β s]?=some (.map e c)∧m' (β s)=m (β s)):Maps pm m' w0 w' β' t':=by
 refine⟨fun i s ks vs hi=>?_,fun i j s s' ks vs ks' vs' hi hj e=>?_⟩
 . obtain⟨⟨j,hj⟩,hb⟩:=ht i s ks vs hi;obtain⟨⟨ents,clock,hh,hrd,h1,h2,hlim⟩,h3⟩:=h.holds j s ks vs hj;rw[hb];exact⟨⟨ents,clock,(hw _ _ _ _ hj _ _ hh).1,hrd.mono he,h1,h2,by rw[(hw _ _ _ _ hj _ _ hh).2];exact hlim⟩,h3⟩
 . obtain⟨⟨i',hi'⟩,hb⟩:=ht i s ks vs hi;obtain⟨⟨j',hj'⟩,hb'⟩:=ht j s' ks' vs' hj;rw[hb,hb'] at e;exact h.inj _ _ _ _ _ _ _ _ hi' hj' e
structure Rel (E:Env) (n:Nat) (pm:Pm) (m0:Lim) (w0:World) (m:Lim) (β:Nat->Nat) (st:St) (a:Act) (w:World):Prop where
 tmps:∀i,Rs m w β (a.tmps.getD i Go.undef) (st.t i)
 size:a.tmps.size=n
 boxes:∀s cs,st.b s=some cs->BoxAt m w (β s) cs∧(w0.heap.size<=β s∨β s∈pm.X)
 inj:∀s s' cs cs',st.b s=some cs->st.b s'=some cs'->β s=β s'->s=s'
 below:Bel pm.X w0 w
 par:n<=1000∧(∀s,1000<=s->β s=pm.b s)∧∀x∈pm.X,E.K<=x
 mold:(∀blk,blk<w0.heap.size->blk∉pm.Y->m blk=m0 blk)∧Ext m0 w0 m w∧∀y∈pm.Y,y∈pm.X
 rows:∃ρ,Rows E m pm w0 w β st (fun i=>a.tmps.getD i Go.undef) ρ
 own:Own w β st fun i=>a.tmps.getD i Go.undef
 defers:a.defers=pm.D
 glob:∀g,Rd m w (.pointer (some ⟨g,0,none⟩)) (E.G g)
 j:E.J w0
 maps:Maps pm m w0 w β st.t
def Fun (E:Env) (f:FuncId) (F:List V->Option V):Prop:=
 (∀args w,(callFunc f args).run E.P w= .ok (.enter f args) w)∧
 ∀ (m:Lim) (w:World) (vs:Array Value) (us:List V) (r:V),F us=some r->us.all V.dat=true->RdL m w vs.toList us->E.J w->(∀g,Rd m w (.pointer (some ⟨g,0,none⟩)) (E.G g))->
   Calls E.P f vs w fun e w'=>∃v m',e= .returned v∧Rd m' w' v r∧Below w.heap.size w w'∧∀blk,blk<w.heap.size->m' blk=m blk
structure RowIs (m:Lim) (w:World) (v:Value) (g sz len:Nat):Prop where
 lim:m g=some (len*sz)
 is:∃cap cur ty,v= .slice (some ⟨g,0,none⟩) len cap∧w.heap[g]?=some (.cells cur ty (0,0))∧len<=cap∧cur.size=cap*sz
inductive ArgsP (m:Lim) (w:World) (K:Nat):List Value->List V->List Nat->List Nat->List Nat->Prop
 |nil:ArgsP m w K [] [] [] [] []
 |bx {b:Nat} {cs:List V} {vs:List Value} {us:List V} {bs gs hs:List Nat} (hb:BoxAt m w b cs) (hK:K<=b) (h:ArgsP m w K vs us bs gs hs):ArgsP m w K (.pointer (some ⟨b,0,none⟩)::vs) (.bx cs::us) (b::bs) gs hs
 |row {v:Value} {sz g:Nat} {es:List V} {vs:List Value} {us:List V} {bs gs hs:List Nat} (hr:Rd m w v (.sl false sz es (some 0))) (hi:RowIs m w v g sz es.length) (hK:K<=g) (h:ArgsP m w K vs us bs gs hs):ArgsP m w K (v::vs) (.sl false sz es (some 0)::us) bs (g::gs) hs
 |no {vs:List Value} {us:List V} {bs gs hs:List Nat} (h:ArgsP m w K vs us bs gs hs):ArgsP m w K (.slice none 0 0::vs) (.sl true 0 [] (some 0)::us) bs gs hs
 |mp {g:Nat} {ks us':List V} {vs:List Value} {us:List V} {bs gs hs:List Nat} (hm:MapAt m w g ks us') (hK:K<=g) (h:ArgsP m w K vs us bs gs hs):ArgsP m w K (.map (some g)::vs) (.mp 0 ks us'::us) bs gs (g::hs)
 |dat {v:Value} {u:V} {vs:List Value} {us:List V} {bs gs hs:List Nat} (hr:Rd m w v u) (hd:u.dat=true) (h:ArgsP m w K vs us bs gs hs):ArgsP m w K (v::vs) (u::us) bs gs hs
def OutsM (m:Lim) (w:World):List Nat->List (List V)->Prop
 |[],[]=>True
 |g::hs,c::cs=>(∃k ks vs,c=[.mp k ks vs]∧MapAt m w g ks vs)∧OutsM m w hs cs
 |_,_=>False
theorem OutsM.get {m:Lim} {w:World}:∀{hs:List Nat} {cs:List (List V)},OutsM m w hs cs->∀(i g k:Nat) (ks vs:List V),hs[i]?=some g->cs[i]?=some [.mp k ks vs]->MapAt m w g ks vs
 |[],[],_,i,g,k,ks,vs,hg,_=>by simp at hg
 |g0::hs,c0::cs,h,0,g,k,ks,vs,hg,hc=>by simp at hg hc;subst hg;obtain⟨_,_,_,e,h1⟩:=h.1;rw[hc] at e;cases e;exact h1
 |g0::hs,c0::cs,h,i+1,g,k,ks,vs,hg,hc=>OutsM.get h.2 i g k ks vs (by simpa using hg) (by simpa using hc)
def OutsP (m:Lim) (w:World):List Nat->List (List V)->Prop
 |[],[]=>True
 |b::bs,c::cs=>BoxAt m w b c∧OutsP m w bs cs
 |_,_=>False
theorem OutsP.get {m:Lim} {w:World}:∀{bs:List Nat} {cs:List (List V)},OutsP m w bs cs->∀(i b:Nat) (c:List V),bs[i]?=some b->cs[i]?=some c->BoxAt m w b c
 |[],[],_,i,b,c,hb,_=>by simp at hb
 |b0::bs,c0::cs,h,0,b,c,hb,hc=>by simp at hb hc;subst hb hc;exact h.1
 |b0::bs,c0::cs,h,i+1,b,c,hb,hc=>OutsP.get h.2 i b c (by simpa using hb) (by simpa using hc)
def FunP (E:Env) (f:FuncId) (F:List V->Option (V×List (List V))):Prop:=
 (∀args w,(callFunc f args).run E.P w= .ok (.enter f args) w)∧
 ∀ (m:Lim) (w:World) (vs:Array Value) (us:List V) (bs gs hs:List Nat) (r:V) (outs:List (List V)),F us=some (r,outs)->ArgsP m w E.K vs.toList us bs gs hs->(bs++gs).Nodup->hs.Nodup->E.J w->(∀g,Rd m w (.pointer (some ⟨g,0,none⟩)) (E.G g))->
   Calls E.P f vs w fun e w'=>∃v m',e= .returned v∧Rd m' w' v r∧Bel (bs++(gs++hs)) w w'∧Ext m w m' w'∧(∀blk,blk<w.heap.size->blk∉gs->m' blk=m blk)∧(∃o1 o2,outs=o1++o2∧OutsP m' w' bs o1∧OutsM m' w' hs o2)∧
    ∀sz es k,r= .sl false sz es (some k)->∃g,RowIs m' w' v g sz es.length∧(w.heap.size<=g∨g∈gs)
def Gz (P:Program) (f:FuncId) (args:Array Value) (w:World) (R:Value->World->Prop):Prop:=
 ((callFunc f args).run P w= .ok (.enter f args) w∧Calls P f args w fun e w'=>∃v,e= .returned v∧R v w')∨∃v w',(callFunc f args).run P w= .ok (.value v) w'∧R v w'
def FunX (E:Env) (bk:Nat) (f:FuncId) (lb:List Value) (F:List V->Option (V×List (List V))):Prop:=
 ∀ (m:Lim) (w:World) (vs:Array Value) (us:List V) (bs gs hs:List Nat) (r:V) (outs:List (List V)),F us=some (r,outs)->ArgsP m w E.K (vs.toList++[.pointer (some ⟨bk,0,none⟩)]) us bs gs hs->(bs++gs).Nodup->hs.Nodup->E.J w->(∀g,Rd m w (.pointer (some ⟨g,0,none⟩)) (E.G g))->
   Gz E.P f (vs++⟨lb⟩) w fun v w'=>∃m',Rd m' w' v r∧Bel (bs++(gs++hs)) w w'∧Ext m w m' w'∧(∀blk,blk<w.heap.size->blk∉gs->m' blk=m blk)∧(∃o1 o2,outs=o1++o2∧OutsP m' w' bs o1∧OutsM m' w' hs o2)∧
    ∀sz es k,r= .sl false sz es (some k)->∃g,RowIs m' w' v g sz es.length∧(w.heap.size<=g∨g∈gs)
def FunM (E:Env) (f:FuncId) (F:List V->Option (List V×List V)):Prop:=
 (∀args w,(callFunc f args).run E.P w= .ok (.enter f args) w)∧
 ∀ (m:Lim) (w:World) (vs:Array Value) (us ks rs:List V),F us=some (ks,rs)->us.all V.dat=true->RdL m w vs.toList us->E.J w->(∀g,Rd m w (.pointer (some ⟨g,0,none⟩)) (E.G g))->
   Calls E.P f vs w fun e w'=>∃g m',e= .returned (.map (some g))∧w.heap.size<=g∧MapAt m' w' g ks rs∧Below w.heap.size w w'∧∀blk,blk<w.heap.size->m' blk=m blk
structure EnvOK (E:Env):Prop where
 fn:∀f F,E.F f=some F->Fun E f F
 fnP:∀f F,E.FP f=some F->FunP E f F
 keep:∀X w w',(∀x∈X,E.K<=x)->E.J w->Bel X w w'->E.J w'
 high:∀w,E.J w->E.K<=w.heap.size
 noX:∀f lb,E.X f lb=none
 fnM:∀f F,E.FM f=some F->FunM E f F
structure EnvX (E:Env) (pm:Pm):Prop where
 fn:∀f F,E.F f=some F->Fun E f F
 fnP:∀f F,E.FP f=some F->FunP E f F
 keep:∀X w w',(∀x∈X,E.K<=x)->E.J w->Bel X w w'->E.J w'
 high:∀w,E.J w->E.K<=w.heap.size
 fx:∀f lb F,E.X f lb=some F->1000<=E.xk∧FunX E (pm.b E.xk) f lb F
 fz:(∀d,E.fz d=false)∨∀x∈pm.X,x∈pm.Y
 fnM:∀f F,E.FM f=some F->FunM E f F
theorem EnvOK.x {E:Env} (h:EnvOK E) {pm:Pm} (hz:(∀d,E.fz d=false)∨∀x∈pm.X,x∈pm.Y):EnvX E pm:=⟨h.fn,h.fnP,h.keep,h.high,(fun f lb F e=>by rw[h.noX] at e;cases e),hz,h.fnM⟩
section
variable {E:Env} {n:Nat} {pm:Pm} {m0 m:Lim} {w0 w:World} {β:Nat->Nat} {st:St} {a:Act}
theorem Rs.mono (he:Ext m w m' w') {v:Value} {u:V} (h:Rs m w β v u):Rs m' w' β v u:=h.imp (Rd.mono he) id
variable {E':Env}
theorem Rows.to {ρ:Nat->Nat} (h:Rows E m pm w0 w β st tm ρ) {m':Lim} {w':World} {β':Nat->Nat} {st':St}
 (hB:∀v sz es s,Bear E' w' β' st' tm' v (.sl false sz es (some s))->Bear E w β st tm v (.sl false sz es (some s)))
 (hw:∀v sz es s,Bear E w β st tm v (.sl false sz es (some s))->w'.heap[ρ s]?=w.heap[ρ s]?∧m' (ρ s)=m (ρ s))
 (hb:∀v sz es s k cs',Bear E w β st tm v (.sl false sz es (some s))->st'.b k=some cs'->β' k≠ρ s):Rows E' m' pm w0 w' β' st' tm' ρ:=by
 refine⟨fun v sz es s hi=>?_,fun v sz es s v' sz' es' s' hi hi' hr=>h.sep _ _ _ _ _ _ _ _ (hB _ _ _ _ hi) (hB _ _ _ _ hi') hr,fun v sz es s k cs hi hk=>hb _ _ _ _ _ _ (hB _ _ _ _ hi) hk⟩;obtain⟨lo,lim,cap,cur,ty,hv,hh,hc,hs⟩:=h.row v sz es s (hB _ _ _ _ hi);obtain⟨h1,h2⟩:=hw v sz es s (hB _ _ _ _ hi);exact⟨lo,by rw[h2];exact lim,cap,cur,ty,hv,by rw[h1];exact hh,hc,hs⟩
theorem Bear.slot {i:Nat} (h:st.t i=u):Bear E w β st tm (tm i) u:= .inl ⟨i,h,rfl⟩
variable {v:Value}
theorem Bear.from (h:Bear E' w' β' st' tm' v u)
 (ht:∀i,st'.t i=u->Bear E w β st tm (tm' i) u) (hb:∀k cs' j,E'.MB k=true->st'.b k=some cs'->cs'[j]?=some u->w'.cell? ⟨β' k,j,none⟩=some v->Bear E w β st tm v u):Bear E w β st tm v u:=by
 rcases h with⟨i,h1,h2⟩|⟨k,cs,j,h1,h2,h3,h4⟩
 . rw[<-h2];exact ht i h1
 . exact hb k cs j h1 h2 h3 h4
theorem aT {j:Nat} (h:w'.heap[g]?=w.heap[g]?):w'.cell? ⟨g,j,none⟩=w.cell? ⟨g,j,none⟩:=by simp[World.cell?,h]
theorem ba (t:Array Value) (d i:Nat) (v:Value) (hd:d<t.size):(t.setIfInBounds d v).getD i Go.undef=if i=d then v else t.getD i Go.undef:=by
 simp only[P0,Array.getElem?_setIfInBounds];by_cases h:d=i
 . subst h;simp[hd]
 . simp[h,QT h]
theorem Rel.put (h:Rel E n pm m0 w0 m β st a w) {d:Option Tmp} (hd:∀k,d=some k->k<n) {v:Value} {u:V} (hv:Rs m w β v u)
 (hk:∀sz es s,u= .sl false sz es (some s)->Bear E w β st (fun i=>a.tmps.getD i Go.undef) v u)
 (ho:∀s sz len cs,u= .row s sz len->st.b s=some cs->OwnAt w β v s sz len cs) (hmp:∀s ks vs,u= .mp s ks vs->∃j,st.t j= .mp s ks vs):Rel E n pm m0 w0 m β (st.put d u) (a.put d v) w:=by
 cases d with
 |none=>exact h
 | some d=>
   have hlt:d<a.tmps.size:=by rw[h.size];exact hd d rfl
   refine⟨fun i=>?_,by simp[Act.put,h.size],h.boxes,h.inj,h.below,h.par,h.mold,?_,fun i s sz len cs hi hb=>?_,h.defers,h.glob,h.j,h.maps.to (fun i s ks vs hi=>⟨(by simp only[St.put,aD] at hi;split at hi;exact hmp _ _ _ hi;exact⟨i,hi⟩),rfl⟩) (Ext.refl _ _) (fun _ _ _ h _=>⟨h,rfl⟩)⟩
   . simp only[Act.put,St.put,aw,ba _ _ _ _ hlt];split
     . exact hv
     . exact h.tmps i
   rotate_left
   . simp only[Act.put,St.put,aD,ba _ _ _ _ hlt] at hi hb⊢;split
     . rename_i e;rw[PO e] at hi;exact ho s sz len cs hi hb
     . rename_i e;rw[PS e] at hi;exact h.own i s sz len cs hi hb
   . obtain⟨ρ,hr⟩:=h.rows;refine⟨ρ,hr.to (fun v' sz es s hi=>hi.from (fun i hi=>?_) (fun k cs j h1 h2 h3 h4=> .inr ⟨k,cs,j,h1,h2,h3,h4⟩)) (fun _ _ _ _ _=>⟨rfl,rfl⟩) hr.box⟩;simp only[Act.put,St.put,aD,ba _ _ _ _ hlt] at hi⊢;split at hi
     . rename_i e;rw[PO e,<-hi];exact hk sz es s hi
     . rename_i e;rw[PS e];exact .inl ⟨i,hi,rfl⟩
theorem Rel.ext (h:Rel E n pm m0 w0 m β st a w) {m':Lim} {w':World} (he:Ext m w m' w') (hb:∀g o,w.heap[g]?=some o->(w0.heap.size<=g∨g∈pm.X)->w'.heap[g]?=w.heap[g]?∧m' g=m g)
 (hbel:Bel pm.X w0 w') (hm:∀blk,blk<w0.heap.size->blk∉pm.Y->m' blk=m0 blk):Rel E n pm m0 w0 m' β st a w':=by
 refine⟨fun i=>(h.tmps i).mono he,h.size,fun s cs hs=>?_,h.inj,hbel,h.par,⟨hm,h.mold.2.1.trans he,h.mold.2.2⟩,?_,h.own.sub (fun i s sz len cs hi hs=>⟨i,cs,hi,rfl,hs,PB _,rfl,fun cur ty hh=>?_⟩),h.defers,fun g=>(h.glob g).mono he,h.j,h.maps.to (fun i s ks vs hi=>⟨⟨i,hi⟩,rfl⟩) he (fun g e c hg ho=>⟨by rw[(hb g _ hg ho).1];exact hg,(hb g _ hg ho).2⟩)⟩
 rotate_right
 . obtain⟨_,hge⟩:=h.boxes s cs hs;exact⟨cur,ty,by rw[(hb _ _ hh hge).1];exact hh,rfl⟩
 . obtain⟨⟨hl,vals,ty,xs,rest,hh,hx,hr⟩,hge⟩:=h.boxes s cs hs;obtain⟨h1,h2⟩:=hb _ _ hh hge;exact⟨⟨by rw[h2];exact hl,vals,ty,xs,rest,by rw[h1];exact hh,hx,hr.mono he⟩,hge⟩
 . obtain⟨ρ,hr⟩:=h.rows;refine⟨ρ,hr.to (fun v sz es s hi=>hi.from (fun i hi=> .inl ⟨i,hi,rfl⟩) (fun k cs j h1 h2 h3 h4=>?_)) (fun v sz es s hi=>?_) hr.box⟩
   . obtain⟨⟨_,vals,ty,xs,rest,hh,_,_⟩,hge⟩:=h.boxes k cs h2;rw[aT (hb _ _ hh hge).1] at h4;exact .inr ⟨k,cs,j,h1,h2,h3,h4⟩
   . obtain⟨lo,_,cap,cur,ty,_,hh,_⟩:=hr.row v sz es s hi;exact hb _ _ hh (lo.imp id (h.mold.2.2 _))
variable {k:Nat}
theorem al {o:Obj} (h:w.heap[k]?=some o):k<w.heap.size:=by
 rcases Ql k w.heap.size with h'|h'
 . exact h'
 . simp[Rr h'] at h
theorem Rel.call (h:Rel E n pm m0 w0 m β st a w) {m':Lim} {w':World} (hb:Below w.heap.size w w') (hm:∀blk,blk<w.heap.size->m' blk=m blk):Rel E n pm m0 w0 m' β st a w':=by
 refine h.ext (Ext.of_below hb hm) (fun g o hh _=>?_) (h.below.trans hb h.below.size) (fun blk hlt hy=>?_)
 . exact⟨hb.block _ (al hh),hm _ (al hh)⟩
 . rw[hm blk (Qf hlt h.below.size),h.mold.1 blk hlt hy]
theorem jd:∀{ss:List Nat} {outs rest:List (List V)} {b b':Nat->Option (List V)},pF b ss outs=some (b',rest)->∀(s':Nat) (c':List V),b' s'=some c'->(s'∉ss∧b s'=some c')∨∃i:Nat,ss[i]?=some s'∧outs[i]?=some c'
 |[],_,_,b,b',h,s',c',hs=>by cases h;exact .inl ⟨by simp,hs⟩
 | s ::ss,c::outs,rest,b,b',h,s',c',hs=>by
   have h0:pF (aw b s (some c)) ss outs=some (b',rest):=h;rcases jd h0 s' c' hs with⟨h1,h2⟩|⟨i,h1,h2⟩
   . by_cases e:s'=s
     . subst e;rw[aa] at h2;cases h2;exact .inr ⟨0,rfl,rfl⟩
     . rw[ae _ _ e] at h2;exact .inl ⟨by simp[e,h1],h2⟩
   . exact .inr ⟨i+1,by simpa using h1,by simpa using h2⟩
 |_::_,[],_,b,b',h,_,_,_=>by cases h
theorem ny:∀{ss:List Nat} {outs rest:List (List V)} {b b':Nat->Option (List V)},pF b ss outs=some (b',rest)->∃o,outs=o++rest∧o.length=ss.length
 |[],_,_,b,b',h=>by cases h;exact⟨[],rfl,rfl⟩
 |s::ss,c::outs,rest,b,b',h=>by have h0:pF (aw b s (some c)) ss outs=some (b',rest):=h;obtain⟨o,rfl,h2⟩:=ny h0;exact⟨c::o,rfl,by simp[h2]⟩
 |_::_,[],_,b,b',h=>by cases h
theorem OutsP.len {m:Lim} {w:World}:∀{bs:List Nat} {cs:List (List V)},OutsP m w bs cs->cs.length=bs.length
 |[],[],_=>rfl
 |_::_,_::_,h=>by simp[OutsP.len h.2]
theorem Rs.killR {ss:List Nat} (h:Rs m w β v u):Rs m w β v (bC ss u):=by
 rcases eF ss u with⟨e,_⟩|e
 . rw[e];exact h
 . rw[e];exact .of (.undef _)
theorem Rel.callP (h:Rel E n pm m0 w0 m β st a w) {ρ:Nat->Nat} (hrw:Rows E m pm w0 w β st (fun i=>a.tmps.getD i Go.undef) ρ) {ss gs ms:List Nat} {outs rest o1:List (List V)} {b':Nat->Option (List V)} {m':Lim} {w':World} (hdom:∀s∈ss,∃cs,st.b s=some cs) (hb:Bel (ss.map β++(gs++ms)) w w')
 (he:Ext m w m' w') (hm:∀blk,blk<w.heap.size->blk∉gs->m' blk=m blk) (ho:OutsP m' w' (ss.map β) o1) (ho1:∀i c,outs[i]?=some c->i<ss.length->o1[i]?=some c) (hp:pF st.b ss outs=some (b',rest)) (hmb:∀s∈ss,E.MB s=true->∀c,b' s=some c->c.all V.unm=true)
 (hfree:∀v sz es s,Bear E w β st (fun i=>a.tmps.getD i Go.undef) v (.sl false sz es (some s))->ρ s∉gs) (hboxg:∀s cs,st.b s=some cs->β s∉gs) (hgY:∀g∈gs,w0.heap.size<=g∨g∈pm.Y) (hgc:∀g∈gs,∃cur ty fr,w.heap[g]?=some (.cells cur ty fr))
 (hhX:∀g∈ms,w0.heap.size<=g∨g∈pm.X) (hhm:∀g∈ms,∃e c,w.heap[g]?=some (.map e c)) (hmk:∀i s ks vs,st.t i= .mp s ks vs->β s∉ms):
 Rel E n pm m0 w0 m' β ⟨fg ss st.t,b'⟩ a w'∧Rows E m' pm w0 w' β ⟨fg ss st.t,b'⟩ (fun i=>a.tmps.getD i Go.undef) ρ∧
  (∀v sz es s,Bear E w' β ⟨fg ss st.t,b'⟩ (fun i=>a.tmps.getD i Go.undef) v (.sl false sz es (some s))->Bear E w β st (fun i=>a.tmps.getD i Go.undef) v (.sl false sz es (some s)))∧∀s cs,b' s=some cs->∃cs0,st.b s=some cs0:=by
 have hblk:∀{s:Nat} {cs:List V},st.b s=some cs->β s<w.heap.size:=fun hs=>by obtain⟨⟨_,_,_,_,_,hh,_⟩,_⟩:=h.boxes _ _ hs;exact al hh
 have hnot:∀{s':Nat} {c':List V},st.b s'=some c'->s'∉ss->β s'∉ss.map β++(gs++ms):=fun {s' c'} hs hn hm'=>by
  rcases PU.1 hm' with hm'|hm'
  . obtain⟨s,h1,h2⟩:=Qi.1 hm';obtain⟨cs,h3⟩:=hdom s h1;exact hn (h.inj _ _ _ _ h3 hs h2▸h1)
  . rcases PU.1 hm' with hm'|hm'
    . exact hboxg _ _ hs hm'
    . obtain⟨_,_,hh2⟩:=hhm _ hm';obtain⟨⟨_,_,_,_,_,hh,_⟩,_⟩:=h.boxes _ _ hs;rw[hh2] at hh;cases hh
 have hmB:∀{s:Nat} {cs:List V},st.b s=some cs->m' (β s)=m (β s):=fun hs=>hm _ (hblk hs) (hboxg _ _ hs)
 have hold:∀{s':Nat} {c':List V},b' s'=some c'->∃c,st.b s'=some c:=fun {s' c'} hs=>by
  rcases jd hp s' c' hs with⟨_,h2⟩|⟨i,h1,_⟩
  . exact⟨_,h2⟩
  . exact hdom _ (PM h1)
 have hbear:∀v sz es s,Bear E w' β ⟨fg ss st.t,b'⟩ (fun i=>a.tmps.getD i Go.undef) v (.sl false sz es (some s))->Bear E w β st (fun i=>a.tmps.getD i Go.undef) v (.sl false sz es (some s)):=fun v sz es s hi=>hi.from (fun i hi=>by
  have hi:bC ss (st.t i)=_:=hi;rcases eF ss (st.t i) with⟨e,_⟩|e
  . rw[e] at hi;exact .inl ⟨i,hi,rfl⟩
  . rw[e] at hi;cases hi) (fun k c j h1 h2 h3 h4=>by
  have hns:k∉ss:=fun hm'=>by have:=PJ.1 (hmb k hm' h1 c h2) _ (PM h3);cases this
  rcases jd hp k c h2 with⟨_,h5⟩|⟨i,h5,_⟩
  . obtain⟨⟨_,vals,ty,xs,rest,hh,_,_⟩,_⟩:=h.boxes k c h5;rw[aT (hb.block _ (al hh) (hnot h5 hns))] at h4;exact .inr ⟨k,c,j,h1,h5,h3,h4⟩
  . exact absurd (PM h5) hns)
 have hrows:Rows E m' pm w0 w' β ⟨fg ss st.t,b'⟩ (fun i=>a.tmps.getD i Go.undef) ρ:=hrw.to hbear (fun v sz es s hi=>by
  obtain⟨_,_,_,_,_,_,hh,_⟩:=hrw.row v sz es s hi;refine⟨hb.block _ (al hh) (fun hx=>?_),hm _ (al hh) (hfree _ _ _ _ hi)⟩;rcases PU.1 hx with hx|hx
  . obtain⟨s2,h1,h2⟩:=Qi.1 hx;obtain⟨cs,h3⟩:=hdom s2 h1;exact hrw.box _ _ _ _ _ _ hi h3 h2
  . rcases PU.1 hx with hx|hx
    . exact hfree _ _ _ _ hi hx
    . obtain⟨_,_,hh2⟩:=hhm _ hx;rw[hh2] at hh;cases hh) (fun v sz es s k cs hi hk=>by
  obtain⟨c0,hc0⟩:=hold hk;exact hrw.box _ _ _ _ _ _ hi hc0)
 refine⟨⟨fun i=>((h.tmps i).mono he).killR,h.size,fun s' c' hs'=>?_,fun s1 s2 c1 c2 h1 h2 heq=>?_,h.below.step hb (fun y hy=>?_),h.par,⟨fun blk hlt hy=>?_,h.mold.2.1.trans he,h.mold.2.2⟩,⟨ρ,hrows⟩,fun i s sz len c' hi hs=>?_,h.defers,fun g=>(h.glob g).mono he,h.j,h.maps.on (fun i s ks vs hi=>⟨⟨i,by have hi:bC ss (st.t i)=_:=hi;rcases eF ss (st.t i) with⟨e,_⟩|e;rw[<-e];exact hi;rw[e] at hi;cases hi⟩,rfl⟩) he (fun i s ks vs hi e c hg=>by
  refine⟨?_,hm _ (al hg) (fun hx=>by obtain⟨_,_,_,hh⟩:=hgc _ hx;rw[hh] at hg;cases hg)⟩;rw[hb.block _ (al hg) (fun hx=>?_)]
  . exact hg
  . rcases PU.1 hx with hx|hx
    . obtain⟨s2,h1,h2⟩:=Qi.1 hx;obtain⟨cs,h3⟩:=hdom s2 h1;obtain⟨⟨_,_,_,_,_,hh,_⟩,_⟩:=h.boxes _ _ h3;rw[h2,hg] at hh;cases hh
    . rcases PU.1 hx with hx|hx
      . obtain⟨_,_,_,hh⟩:=hgc _ hx;rw[hh] at hg;cases hg
      . exact hmk _ _ _ _ hi hx)⟩,hrows,hbear,fun s cs hs=>hold hs⟩
 . obtain⟨c,hc⟩:=hold hs';refine⟨?_,(h.boxes s' c hc).2⟩;rcases jd hp s' c' hs' with⟨h1,h2⟩|⟨i,h1,h2⟩
   . obtain⟨⟨hl,vals,ty,xs,rest,hh,hx,hr⟩,_⟩:=h.boxes s' c' h2;exact⟨by rw[hmB h2];exact hl,vals,ty,xs,rest,by rw[hb.block _ (al hh) (hnot h2 h1)];exact hh,hx,hr.mono he⟩
   . exact ho.get i (β s') c' (by rw[PF,h1];rfl) (ho1 i c' h2 (by rcases Ql i ss.length with h4|h4;exact h4;rw[Qc h4] at h1;cases h1))
 . obtain⟨c1',h3⟩:=hold h1;obtain⟨c2',h4⟩:=hold h2;exact h.inj _ _ _ _ h3 h4 heq
 . rcases PU.1 hy with hy|hy
   . obtain⟨s,h1,rfl⟩:=Qi.1 hy;obtain⟨cs,h3⟩:=hdom s h1;exact(h.boxes _ _ h3).2
   . rcases PU.1 hy with hy|hy
     . exact(hgY y hy).imp id (h.mold.2.2 y)
     . exact hhX y hy
 . rw[hm blk (Qf hlt h.below.size) (fun hg=>by rcases hgY blk hg with h1|h1;omega;exact hy h1),h.mold.1 blk hlt hy]
 . have hi:bC ss (st.t i)=_:=hi;rcases eF ss (st.t i) with⟨e,hn⟩|e
   . rw[e] at hi;have hns:=hn _ _ _ hi;rcases jd hp s c' hs with⟨_,h2⟩|⟨j,h1,_⟩
     . obtain⟨hl,cap,cur,ty,hv,hh,hsz⟩:=h.own i s sz len c' hi h2;exact⟨hl,cap,cur,ty,hv,by rw[hb.block _ (al hh) (hnot h2 hns)];exact hh,hsz⟩
     . exact absurd (PM h1) hns
   . rw[e] at hi;cases hi
def fM (ss:List Nat):V->V
 | .mp s ks vs=>if s∈ss then .undef else .mp s ks vs
 |v=>v
theorem gU (ss:List Nat) (u:V):fM ss u=u∧(∀s ks vs,u= .mp s ks vs->s∉ss)∨fM ss u= .undef∧∃s ks vs,u= .mp s ks vs∧s∈ss:=by
 cases u<;>try exact .inl ⟨rfl,fun _ _ _ h=>by cases h⟩
 rename_i s ks vs;by_cases h:s∈ss
 . exact .inr ⟨PO h,s,ks,vs,rfl,h⟩
 . exact .inl ⟨PS h,fun s' k' v' e=>by cases e;exact h⟩
theorem Rel.unmap (h:Rel E n pm m0 w0 m β st a w) (ss:List Nat):Rel E n pm m0 w0 m β ⟨fun i=>fM ss (st.t i),st.b⟩ a w∧
 (∀v sz es s,Bear E w β ⟨fun i=>fM ss (st.t i),st.b⟩ (fun i=>a.tmps.getD i Go.undef) v (.sl false sz es (some s))->Bear E w β st (fun i=>a.tmps.getD i Go.undef) v (.sl false sz es (some s))):=by
 have hkeep:∀{i:Nat} {u:V},fM ss (st.t i)=u->u≠ .undef->st.t i=u:=fun {i u} hi hu=>by
  rcases gU ss (st.t i) with⟨e,_⟩|⟨e,_⟩
  . rw[<-e];exact hi
  . exact absurd (hi.symm.trans e) hu
 have hbear:∀v sz es s,Bear E w β ⟨fun i=>fM ss (st.t i),st.b⟩ (fun i=>a.tmps.getD i Go.undef) v (.sl false sz es (some s))->Bear E w β st (fun i=>a.tmps.getD i Go.undef) v (.sl false sz es (some s)):=fun v sz es s hi=>
  hi.from (fun i hi=> .inl ⟨i,hkeep hi (by intro e;cases e),rfl⟩) (fun k c j h1 h2 h3 h4=> .inr ⟨k,c,j,h1,h2,h3,h4⟩)
 refine⟨⟨fun i=>?_,h.size,h.boxes,h.inj,h.below,h.par,h.mold,?_,fun i s sz len c hi hs=>h.own i s sz len c (hkeep hi (by intro e;cases e)) hs,h.defers,h.glob,h.j,h.maps.to (fun i s ks vs hi=>⟨⟨i,hkeep hi (by intro e;cases e)⟩,rfl⟩) (Ext.refl m w) (fun g e c hg _=>⟨hg,rfl⟩)⟩,hbear⟩
 . show Rs m w β _ (fM ss (st.t i));rcases gU ss (st.t i) with⟨e,_⟩|⟨e,_⟩
   . rw[e];exact h.tmps i
   . rw[e];exact .of (.undef _)
 . obtain⟨ρ,hr⟩:=h.rows;exact⟨ρ,hr.to hbear (fun v sz es s hi=>⟨rfl,rfl⟩) (fun v sz es s k c hi hk=>hr.box _ _ _ _ _ _ hi hk)⟩
theorem Rel.remap (h:Rel E n pm m0 w0 m β st a w) {ρ:Nat->Nat} (hr:Rows E m pm w0 w β st (fun i=>a.tmps.getD i Go.undef) ρ) {t2:Nat->V}
 (ht:∀i,t2 i=st.t i∨∃s ks vs,t2 i= .mp s ks vs∧a.tmps.getD i Go.undef= .map (some (β s))∧MapAt m w (β s) ks vs∧(w0.heap.size<=β s∨β s∈pm.X))
 (hinj:∀i j s s' ks vs ks' vs',t2 i= .mp s ks vs->t2 j= .mp s' ks' vs'->β s=β s'->s=s'):
 Rel E n pm m0 w0 m β ⟨t2,st.b⟩ a w∧Rows E m pm w0 w β ⟨t2,st.b⟩ (fun i=>a.tmps.getD i Go.undef) ρ∧
  (∀v sz es s,Bear E w β ⟨t2,st.b⟩ (fun i=>a.tmps.getD i Go.undef) v (.sl false sz es (some s))->Bear E w β st (fun i=>a.tmps.getD i Go.undef) v (.sl false sz es (some s))):=by
 have hkeep:∀{i:Nat} {u:V},t2 i=u->(∀s ks vs,u≠ .mp s ks vs)->st.t i=u:=fun {i u} hi hu=>by
  rcases ht i with e|⟨s,ks,vs,e,_⟩
  . rw[<-e];exact hi
  . exact absurd (hi.symm.trans e) (hu _ _ _)
 have hbear:∀v sz es s,Bear E w β ⟨t2,st.b⟩ (fun i=>a.tmps.getD i Go.undef) v (.sl false sz es (some s))->Bear E w β st (fun i=>a.tmps.getD i Go.undef) v (.sl false sz es (some s)):=fun v sz es s hi=>
  hi.from (fun i hi=> .inl ⟨i,hkeep hi (by intro _ _ _ e;cases e),rfl⟩) (fun k c j h1 h2 h3 h4=> .inr ⟨k,c,j,h1,h2,h3,h4⟩)
 have hrows:Rows E m pm w0 w β ⟨t2,st.b⟩ (fun i=>a.tmps.getD i Go.undef) ρ:=hr.to hbear (fun v sz es s hi=>⟨rfl,rfl⟩) (fun v sz es s k c hi hk=>hr.box _ _ _ _ _ _ hi hk);refine⟨⟨fun i=>?_,h.size,h.boxes,h.inj,h.below,h.par,h.mold,⟨ρ,hrows⟩,fun i s sz len c hi hs=>h.own i s sz len c (hkeep hi (by intro _ _ _ e;cases e)) hs,h.defers,h.glob,h.j,⟨fun i s ks vs hi=>?_,hinj⟩⟩,hrows,hbear⟩
 . show Rs m w β _ (t2 i);rcases ht i with e|⟨s,ks,vs,e,hv,_⟩
   . rw[e];exact h.tmps i
   . rw[e,hv];exact .ofMp _ _ _
 . have hi:t2 i=_:=hi;rcases ht i with e|⟨s',ks',vs',e,_,q1,q2⟩
   . exact h.maps.holds i s ks vs (e▸hi)
   . rw[e] at hi;cases hi;exact⟨q1,q2⟩
theorem World.heap_new (w:World) (o:Obj):(w.alloc o).heap[w.heap.size]?=some o:=by show(w.heap.push o)[w.heap.size]?=some o;simp
theorem Rel.newG (h:Rel E n pm m0 w0 m β st a w) {s:Nat} (hs:s<n) (hn:noPtrTo s st.t) {vals:Array Value} {ty:TypeId} {cs:List V} (hr:RdL m w vals.toList cs) {u:V} {v:Value}
 (hmb:E.okN (some s) cs=true) (hu:(u= .ptr s 0∧v= .pointer (some ⟨w.heap.size,0,none⟩))∨∃sz len,u= .row s sz len∧v= .slice (some ⟨w.heap.size,0,none⟩) len len∧cs.length=len*sz):
 Rel E n pm m0 w0 (aw m w.heap.size (some 0)) (aw β s w.heap.size) ⟨aw st.t s u,aw st.b s (some cs)⟩ (a.put (some s) v) (w.alloc (.cells vals ty)):=by
 have he:Ext m w (aw m w.heap.size (some 0)) (w.alloc (.cells vals ty)):=by
  refine⟨by simp,fun blk off v hb _ hc=>?_,fun blk hb fr hf=>?_,fun blk es c _ hc=>by rw[Below.heap_alloc w _ blk (du hc)];exact hc⟩
  . rw[World.cell?_alloc_lt _ _ _ hb];exact hc
  . simp only[aw] at hf;rw[PS (QD hb)] at hf;exact⟨fr,hf,PB _⟩
 have hold:∀k o,w.heap[k]?=some o->(w.alloc (.cells vals ty)).heap[k]?=some o:=fun k o hk=>by rw[Below.heap_alloc w _ k (al hk)];exact hk
 have hlt:s<a.tmps.size:=by rw[h.size];exact hs
 have hus:∀nl sz es k,u≠ .sl nl sz es k:=by rcases hu with⟨rfl,_⟩|⟨_,_,rfl,_⟩<;>intros<;>simp
 refine⟨fun i=>?_,by simp[Act.put,h.size],fun s' cs' hs'=>?_,fun s1 s2 c1 c2 h1 h2 heq=>?_,h.below.alloc h.below.size _,⟨h.par.1,fun s' hs'=>(ae _ _ (by have:=h.par.1;omega)).trans (h.par.2.1 s' hs'),h.par.2.2⟩,⟨fun blk hb hy=>?_,h.mold.2.1.trans he,h.mold.2.2⟩,?_,fun i s' sz len cs' hi hb=>?_,h.defers,fun g=>(h.glob g).mono he,h.j,h.maps.to (fun i s' ks vs hi=>(by
  simp only[aD st.t] at hi;split at hi
  . rcases hu with⟨rfl,_⟩|⟨_,_,rfl,_⟩<;>cases hi
  . exact⟨⟨i,hi⟩,ae _ _ (fun e=>hn i (by rw[hi,e];rfl))⟩)) he (fun g e c hg _=>⟨hold _ _ hg,ae _ _ (QD (du hg))⟩)⟩
 rotate_right
 . simp only[Act.put,ba _ _ _ _ hlt,aD st.t,aD st.b] at hi hb⊢;split at hi
   . rename_i e;rw[PO e];rcases hu with⟨rfl,_⟩|⟨fh,len0,rfl,rfl,hl⟩
     . cases hi
     . cases hi;rw[PO rfl] at hb;cases hb;have hsz:=hr.length;refine⟨by omega,len,vals,.plain ty,by rw[aa],by rw[aa];exact World.heap_new w _,?_⟩;rw[<-hl,<-hsz];simp
   . rename_i e;rw[PS e];have hne:s'≠s:=fun e'=>hn i (by rw[hi,e'];rfl)
     rw[PS hne] at hb;obtain⟨hl,cap,cur,ty',hv,hh,hsz⟩:=h.own i s' sz len cs' hi hb;exact⟨hl,cap,cur,ty',by rw[ae _ _ hne];exact hv,by rw[ae _ _ hne];exact hold _ _ hh,hsz⟩
 . simp only[Act.put,ba _ _ _ _ hlt,aD st.t];split
   . rcases hu with⟨rfl,rfl⟩|⟨fh,len0,rfl,rfl,_⟩
     . have:=Rs.ofPtr (m:=aw m w.heap.size (some 0)) (w:=w.alloc (.cells vals ty)) (β:=aw β s w.heap.size) s 0
       rwa [aa] at this
     . have:=Rs.ofRow (m:=aw m w.heap.size (some 0)) (w:=w.alloc (.cells vals ty)) (β:=aw β s w.heap.size) s fh (PB len0)
       rwa [aa] at this
   . exact((h.tmps i).mono he).beta (fun s' hs'=>ae _ _ (fun e=>hn i (by rw[hs',e])))
 . simp only[aD st.b] at hs';split at hs'
   . rename_i e;cases hs';subst e;rw[aa];exact⟨⟨aa _ _ _,vals,.plain ty,vals.toList,[],World.heap_new w _,by simp,hr.mono he⟩,.inl h.below.size⟩
   . rename_i e;rw[ae _ _ e];obtain⟨⟨hl,vals',ty',xs,rest,hh,hx,hr'⟩,hge⟩:=h.boxes s' cs' hs';exact⟨⟨by rw[ae _ _ (QD (al hh))];exact hl,vals',ty',xs,rest,hold _ _ hh,hx,hr'.mono he⟩,hge⟩
 . simp only[aD] at h1 h2 heq;split at h1<;>split at h2
   . rename_i e1 e2;rw[e1,e2]
   . rename_i e1 e2;rw[PO e1,PS e2] at heq;obtain⟨⟨_,_,_,_,_,hh,_⟩,_⟩:=h.boxes s2 c2 h2;have:=al hh;omega
   . rename_i e1 e2;rw[PS e1,PO e2] at heq;obtain⟨⟨_,_,_,_,_,hh,_⟩,_⟩:=h.boxes s1 c1 h1;have:=al hh;omega
   . rename_i e1 e2;rw[PS e1,PS e2] at heq;exact h.inj s1 s2 c1 c2 h1 h2 heq
 . rw[ae _ _ (by have:=h.below.size;omega)];exact h.mold.1 blk hb hy
 . obtain⟨ρ,hrw⟩:=h.rows;have hlt':∀v sz es s',Bear E w β st (fun i=>a.tmps.getD i Go.undef) v (.sl false sz es (some s'))->ρ s'<w.heap.size:=fun v sz es s' hi=>by obtain⟨_,_,_,_,_,_,hh,_⟩:=hrw.row v sz es s' hi;exact al hh
   refine⟨ρ,hrw.to (fun v' sz es s' hi=>hi.from (fun i hi=>?_) (fun k c j h1 h2 h3 h4=>?_)) (fun v' sz es s' hi=>?_) (fun v' sz es s' k c hi hk=>?_)⟩
   . simp only[aD] at hi;simp only[Act.put,ba _ _ _ _ hlt];split at hi
     . exact absurd hi (hus _ _ _ _)
     . rename_i e;rw[PS e];exact .inl ⟨i,hi,rfl⟩
   . have h2:aw st.b s (some cs) k=some c:=h2;by_cases e:k=s
     . subst e;rw[aa] at h2;cases h2;simp only[Env.okN,h1,Rg,RQ] at hmb;have:=PJ.1 hmb _ (PM h3);cases this
     . rw[ae _ _ e] at h2 h4;obtain⟨⟨_,vals',ty',xs,rest,hh,_,_⟩,_⟩:=h.boxes k c h2;rw[aT (Below.heap_alloc w _ _ (al hh))] at h4;exact .inr ⟨k,c,j,h1,h2,h3,h4⟩
   . obtain⟨_,_,_,_,_,_,hh,_⟩:=hrw.row v' sz es s' hi;exact⟨Below.heap_alloc w _ _ (al hh),ae _ _ (QD (al hh))⟩
   . have hk:aw st.b s (some cs) k=some c:=hk;by_cases e:k=s
     . subst e;rw[aa];have:=hlt' _ _ _ _ hi;omega
     . rw[ae _ _ e] at hk⊢;exact hrw.box _ _ _ _ _ _ hi hk
theorem Rel.newB (h:Rel E n pm m0 w0 m β st a w) {s:Nat} (hs:s<n) (hn:noPtrTo s st.t) {vals:Array Value} {T:TyAt vals.size} {cs:List V} {xs0 rest0:List Value} {w':World} (hB:Below w.heap.size w w')
 (hnew:w'.heap[w.heap.size]?=some (.cells vals T.ty T.fz)) (hx0:vals.toList=xs0++rest0) (hr:RdL m w xs0 cs) {sz len cap:Nat} (hfit:len*sz<=cs.length) (hcap:len<=cap) (hsz:vals.size=cap*sz) (hmb:E.okN (some s) cs=true):
 Rel E n pm m0 w0 (aw m w.heap.size (some 0)) (aw β s w.heap.size) ⟨aw st.t s (.row s sz len),aw st.b s (some cs)⟩ (a.put (some s) (.slice (some ⟨w.heap.size,0,none⟩) len cap)) w':=by
 have he:Ext m w (aw m w.heap.size (some 0)) w':=Ext.of_below hB (fun blk hb=>ae _ _ (QD hb));have hold:∀k o,w.heap[k]?=some o->w'.heap[k]?=some o:=fun k o hk=>by rw[hB.block k (al hk)];exact hk
 have hlt:s<a.tmps.size:=by rw[h.size];exact hs
 have hus:∀nl sz' es k,V.row s sz len≠ .sl nl sz' es k:=by intros;simp
 refine⟨fun i=>?_,by simp[Act.put,h.size],fun s' cs' hs'=>?_,fun s1 s2 c1 c2 h1 h2 heq=>?_,h.below.trans hB h.below.size,⟨h.par.1,fun s' hs'=>(ae _ _ (by have:=h.par.1;omega)).trans (h.par.2.1 s' hs'),h.par.2.2⟩,⟨fun blk hb hy=>?_,h.mold.2.1.trans he,h.mold.2.2⟩,?_,fun i s' IR len1 cs' hi hb=>?_,h.defers,fun g=>(h.glob g).mono he,h.j,h.maps.to (fun i s' ks vs hi=>(by
  simp only[aD st.t] at hi;split at hi
  . cases hi
  . exact⟨⟨i,hi⟩,ae _ _ (fun e=>hn i (by rw[hi,e];rfl))⟩)) he (fun g e c hg _=>⟨hold _ _ hg,ae _ _ (QD (du hg))⟩)⟩
 rotate_right
 . simp only[Act.put,ba _ _ _ _ hlt,aD st.t,aD st.b] at hi hb⊢;split at hi
   . rename_i e;rw[PO e];cases hi;rw[PO rfl] at hb;cases hb;exact⟨hfit,cap,vals,T,by rw[aa],by rw[aa];exact hnew,hsz⟩
   . rename_i e;rw[PS e];have hne:s'≠s:=fun e'=>hn i (by rw[hi,e'];rfl)
     rw[PS hne] at hb;obtain⟨hl,cap1,cur,ty',hv,hh,hsz1⟩:=h.own i s' IR len1 cs' hi hb;exact⟨hl,cap1,cur,ty',by rw[ae _ _ hne];exact hv,by rw[ae _ _ hne];exact hold _ _ hh,hsz1⟩
 . simp only[Act.put,ba _ _ _ _ hlt,aD st.t];split
   . have:=Rs.ofRow (m:=aw m w.heap.size (some 0)) (w:=w') (β:=aw β s w.heap.size) s sz hcap
     rwa [aa] at this
   . exact((h.tmps i).mono he).beta (fun s' hs'=>ae _ _ (fun e=>hn i (by rw[hs',e])))
 . simp only[aD st.b] at hs';split at hs'
   . rename_i e;cases hs';subst e;rw[aa];exact⟨⟨aa _ _ _,vals,T,xs0,rest0,hnew,hx0,hr.mono he⟩,.inl h.below.size⟩
   . rename_i e;rw[ae _ _ e];obtain⟨⟨hl,vals',ty',xs,rest,hh,hx,hr'⟩,hge⟩:=h.boxes s' cs' hs';exact⟨⟨by rw[ae _ _ (QD (al hh))];exact hl,vals',ty',xs,rest,hold _ _ hh,hx,hr'.mono he⟩,hge⟩
 . simp only[aD] at h1 h2 heq;split at h1<;>split at h2
   . rename_i e1 e2;rw[e1,e2]
   . rename_i e1 e2;rw[PO e1,PS e2] at heq;obtain⟨⟨_,_,_,_,_,hh,_⟩,_⟩:=h.boxes s2 c2 h2;have:=al hh;omega
   . rename_i e1 e2;rw[PS e1,PO e2] at heq;obtain⟨⟨_,_,_,_,_,hh,_⟩,_⟩:=h.boxes s1 c1 h1;have:=al hh;omega
   . rename_i e1 e2;rw[PS e1,PS e2] at heq;exact h.inj s1 s2 c1 c2 h1 h2 heq
 . rw[ae _ _ (by have:=h.below.size;omega)];exact h.mold.1 blk hb hy
 . obtain⟨ρ,hrw⟩:=h.rows;have hlt':∀v sz es s',Bear E w β st (fun i=>a.tmps.getD i Go.undef) v (.sl false sz es (some s'))->ρ s'<w.heap.size:=fun v sz es s' hi=>by obtain⟨_,_,_,_,_,_,hh,_⟩:=hrw.row v sz es s' hi;exact al hh
   refine⟨ρ,hrw.to (fun v' sz es s' hi=>hi.from (fun i hi=>?_) (fun k c j h1 h2 h3 h4=>?_)) (fun v' sz es s' hi=>?_) (fun v' sz es s' k c hi hk=>?_)⟩
   . simp only[aD] at hi;simp only[Act.put,ba _ _ _ _ hlt];split at hi
     . exact absurd hi (hus _ _ _ _)
     . rename_i e;rw[PS e];exact .inl ⟨i,hi,rfl⟩
   . have h2:aw st.b s (some cs) k=some c:=h2;by_cases e:k=s
     . subst e;rw[aa] at h2;cases h2;simp only[Env.okN,h1,Rg,RQ] at hmb;have:=PJ.1 hmb _ (PM h3);cases this
     . rw[ae _ _ e] at h2 h4;obtain⟨⟨_,vals',ty',xs,rest,hh,_,_⟩,_⟩:=h.boxes k c h2;rw[aT (hB.block _ (al hh))] at h4;exact .inr ⟨k,c,j,h1,h2,h3,h4⟩
   . obtain⟨_,_,_,_,_,_,hh,_⟩:=hrw.row v' sz es s' hi;exact⟨hB.block _ (al hh),ae _ _ (QD (al hh))⟩
   . have hk:aw st.b s (some cs) k=some c:=hk;by_cases e:k=s
     . subst e;rw[aa];have:=hlt' _ _ _ _ hi;omega
     . rw[ae _ _ e] at hk⊢;exact hrw.box _ _ _ _ _ _ hi hk
theorem Rel.new (h:Rel E n pm m0 w0 m β st a w) {s:Nat} (hs:s<n) (hn:noPtrTo s st.t) {vals:Array Value} {ty:TypeId} {cs:List V} (hr:RdL m w vals.toList cs) (hmb:E.okN (some s) cs=true):
 Rel E n pm m0 w0 (aw m w.heap.size (some 0)) (aw β s w.heap.size) ⟨aw st.t s (.ptr s 0),aw st.b s (some cs)⟩ (a.put (some s) (.pointer (some ⟨w.heap.size,0,none⟩))) (w.alloc (.cells vals ty)):=
 h.newG hs hn hr hmb (.inl ⟨rfl,rfl⟩)
theorem aA (h:Rel E n pm m0 w0 m β st a w) (x:Operand):Rs m w β (a.eval x) (ev E st x):=by
 cases x with
 |tmp t=>exact h.tmps t
 |const v=>exact .of (gt v)
 |global g=>exact .of (h.glob g).bare
 |func f=>exact .of (.x _)
variable {P:Program} {off:Nat} {cs:List V}
theorem fN {blk:Nat} {vals:List Value} (hc:∀(k:Nat) (v:Value),vals[k]?=some v->w.cell? ⟨blk,off+k,none⟩=some v) (hr:RdL m w vals cs)
 {t:TypeId} {u:V} (h:cM P t cs 0=some u):∃v,(Instr.loadAt t (.pointer (some ⟨blk,off,none⟩))).run P w= .ok v w∧Rd m w v u:=by
 have hlen:=hr.length;unfold cM at h;cases ha:aW P t with
 |none=>simp[ha] at h
 | some b =>
   cases hs:bg P t with
   |none=>cases b<;>simp[ha,hs] at h
   | some k=>
     cases b with
     | true=>
       simp only[ha,hs] at h;split at h
       . rename_i hle;cases h;have:=run_loadCells_list (P:=P) w ⟨blk,off,none⟩ (vals.take k) (fun j v hj=>by
          rw[aC];rw[P9] at hj;split at hj
          . exact hc j v hj
          . simp at hj)
         have hk:(vals.take k).length=k:=by simp;omega
         rw[hk] at this;refine⟨.agg (vals.take k).toArray,?_,Rd.agg_iff.2 ⟨_,rfl,by simpa using hr.take k⟩⟩;simp only[Instr.loadAt,Instr.sureAddr,loadVar,Sem.run_bind,Sem.run_pure,Result.andThen_ok,gr ha,Qt,bl hs,this]
       . simp at h
     | false=>
       simp only[ha,hs] at h;have hlt:0<vals.length:=by
        rcases Sg vals.length with h'|h'
        . rw[hlen] at h';simp[Qc (Nat.le_of_eq h')] at h
        . exact h'
       have hv:vals[0]?=some vals[0]:=Io hlt;refine⟨vals[0],?_,hr.get 0 _ u hv h⟩;have:=hc 0 _ hv;simp only[iO] at this;simp only[Instr.loadAt,Instr.sureAddr,loadVar,Sem.run_bind,Sem.run_pure,Result.andThen_ok,gr ha,P7,Qr,run_load,this]
variable {t:TypeId}
theorem wE:cM P t cs off=cM P t (cs.drop off) 0∨cM P t cs off=none:=by
 unfold cM;cases aW P t with
 |none=>simp
 | some b=>cases bg P t with
   |none=>cases b<;>simp
   | some k=>
     cases b
     . left;simp
     . simp only;by_cases h:off+k<=cs.length
       . left;rw[PO h,PO (by simp;omega)];simp
       . right;rw[PS h]
variable {vals:Array Value} {ty:TypeId} {fr:Nat×Nat}
theorem Box.cell {blk:Nat} (hh:w.heap[blk]?=some (.cells vals ty fr)) (k:Nat):w.cell? ⟨blk,k,none⟩=vals[k]?:=by simp[World.cell?,hh]
theorem _root_.Go.Proofs.Ytldnpcolhdnkdaa.RdL.bareL:∀{vs:List Value} {us:List V},RdL m w vs us->RdL m w vs (us.map V.bare)
 |[],[],_=>trivial
 |_::_,_::_,h=>⟨h.1.bare,RdL.bareL h.2⟩
theorem _root_.Go.Proofs.Ytldnpcolhdnkdaa.RdL.pcL:∀{vs:List Value} {us:List V},RdL m w vs us->RdL m w vs (us.map V.pc)
 |[],[],_=>trivial
 |_::_,_::_,h=>⟨h.1.pc,RdL.pcL h.2⟩
theorem ku (h:Rel E n pm m0 w0 m β st a w) {t:TypeId} {p:Value} {q u:V} (hp:Rs m w β p q) (hl:jc E st.b t q=some u):
 ∃v,(Instr.loadAt t p).run E.P w= .ok v w∧Rd m w v u:=by
 unfold jc at hl;split at hl
 . rename_i s off;split at hl
   . rename_i cs0 hcs;obtain rfl:=hp.ptr
     . obtain⟨⟨_,vals,ty,xs,rest,hh,hvs,hr0⟩,_⟩:=h.boxes _ _ hcs;obtain⟨cs,hl,hr⟩:∃cs,cM E.P t cs off=some u∧RdL m w xs cs:=by
        split at hl
        . exact⟨_,hl,hr0.pcL⟩
        . exact⟨_,hl,hr0⟩
       rcases wE (P:=E.P) (t:=t) (cs:=cs) (off:=off) with he|he
       . rw[he] at hl;refine fN (vals:=xs.drop off) (fun k v hk=>?_) (hr.drop off) hl;rw[Box.cell hh,<-PN,hvs];rw[Qm] at hk;have hlt:off+k<xs.length:=by
          rcases Ql (off+k) xs.length with h'|h'
          . exact h'
          . simp[Qc h'] at hk
         rw[PT hlt];exact hk
       . rw[he] at hl;simp at hl
   . simp at hl
 . rename_i cs;have hp:=hp.rd (by intros;simp);cases hp with
   | ip blk off _ c hb hc hm hr=>
     refine fN (vals:=(List.range cs.length).map c) (fun k v hk=>?_) (RdL.of_get (by simp) (fun k v d hk hd=>?_)) hl
     . simp only[PF,PK] at hk;obtain⟨i,hi,rfl⟩:=hk;have hlt:k<cs.length:=by
        rcases Ql k cs.length with h'|h'
        . exact h'
        . simp[h'] at hi
       rw[QZ hlt] at hi;cases hi;exact hc k hlt
     . simp only[PF,PK] at hk;obtain⟨i,hi,rfl⟩:=hk;have hlt:k<cs.length:=by
        rcases Ql k cs.length with h'|h'
        . exact h'
        . simp[h'] at hi
       rw[QZ hlt] at hi;cases hi;exact hr k d hd
 . simp at hl
end
section
variable {E:Env} {n:Nat} {pm:Pm} {m0 m:Lim} {w0 w:World} {β:Nat->Nat} {st:St} {a:Act}
variable {v:Value}
theorem pH (h:Rd m w v u) (hu:u.cell=true):v.oneCell'=true:=by
 cases h with
 |undef v=>simp[V.cell] at hu
 |x v=>cases v<;>first|rfl|(simp[V.cell] at hu)
 |agg cs Cs hl h=>simp[V.cell] at hu
 |tup cs Cs hl h=>simp[V.cell] at hu
 |nil sz tok=>rfl
 |emp a cap sz=>rfl
 |dyn t v=>rfl
 |sl blk off cap sz es tok c hb hcap hsz hc hm hr=>rfl
 |ip blk off cs c hb hc hm hr=>rfl
 |fm blk ks vs ents clock hb hh hm hk hv hkey hbn hd hr=>rfl
theorem nz:∀{vs:List Value} {us:List V},RdL m w vs us->us.all V.cell=true->∀v∈vs,v.oneCell'=true
 |[],[],_,_,v,hv=>by simp at hv
 | v0::vs,u0::us,h,hu,v,hv=>by
   simp only[Rf,PG] at hu;cases hv with
   |head=>exact pH h.1 hu.1
   |tail _ hm=>exact nz h.2 hu.2 v hm
theorem nA (h:Rd m w v u) (hu:u.dat=true):RdL m w v.cells.toList u.cells:=
 h.cells (by rintro rfl;simp[V.dat] at hu) (by rintro a rfl;simp[V.dat] at hu)
theorem cY (P:Program) (g o:Nat) (t:TypeId) (fz:Nat×Nat):∀(vs:List Value) (i:Nat) (cur:Array Value) (w:World),w.heap[g]?=some (.cells cur t fz)->(fz.2=0∨cur.size<=fz.1)->o+i+vs.length<=cur.size->(∀v∈vs,v.oneCell'=true)->
 (storeCells ⟨g,o,none⟩ vs i).run P w= .ok () (w.setRow g (cur.toList.take (o+i)++vs++cur.toList.drop (o+i+vs.length)).toArray)
 |[],i,cur,w,hg,_,_,_=>by simp only[storeCells,QS,Qk,iO,Qv,Array.toArray_toList];rw[setRow_self w g cur t fz hg];rfl
 | v::rest,i,cur,w,hg,hfz,hl,h1=>by
   have hi:o+i<cur.size:=by simp at hl;omega
   have hcell:w.cell? ⟨g,o+i,none⟩=some cur[o+i]:=by simp[World.cell?,hg,hi]
   have hfro:w.frozen? ⟨g,o+i,none⟩=false:=by
    simp only[World.frozen?,hg,So,Ra];rcases hfz with h2|h2
    . right;omega
    . left;omega
   have hst:(store ((⟨g,o,none⟩:Addr).add i) v).run P w= .ok () (w.setRow g (cur.setIfInBounds (o+i) v)):=by rw[aC,run_store P w _ v _ (h1 v (by simp)),hcell];simp[hfro,setCell_eq_setRow w g (o+i) cur t fz v hg]
   have ih:=cY P g o t fz rest (i+1) (cur.setIfInBounds (o+i) v) (w.setRow g (cur.setIfInBounds (o+i) v)) (setRow_heap w g cur _ t _ hg) (by simpa using hfz) (by simp at hl⊢;omega) (fun x hx=>h1 x (by simp[hx]));simp only[storeCells,Sem.run_bind,hst,Result.andThen_ok,ih,setRow_setRow];congr 3;have e:=list_seg_step cur.toList (o+i) v rest (by simp at hl⊢;omega);simpa[Array.toList_setIfInBounds,Sf] using e
theorem Rel.store (h:Rel E n pm m0 w0 m β st a w) {s:Nat} {cs cs':List V} {vals vals':Array Value} {ty:TyAt vals.size} (hs:st.b s=some cs)
 (hh:w.heap[β s]?=some (.cells vals ty.ty ty.fz)) {xs' rest':List Value} (hx':vals'.toList=xs'++rest') (hr:RdL m w xs' cs') (hlen:cs.length<=cs'.length) (hsize:vals'.size=vals.size)
 (hbear:∀(j sz:Nat) (es:List V) (s':Nat) (v:Value),E.MB s=true->cs'[j]?=some (.sl false sz es (some s'))->vals'[j]?=some v->Bear E w β st (fun i=>a.tmps.getD i Go.undef) v (.sl false sz es (some s'))):
 Rel E n pm m0 w0 m β ⟨st.t,aw st.b s (some cs')⟩ a (w.setRow (β s) vals'):=by
 obtain⟨⟨hl,_⟩,hge⟩:=h.boxes s cs hs;have he:Ext m w m (w.setRow (β s) vals'):=by
  refine⟨by simp,fun blk off v hb hm hc=>?_,fun blk hb fr hf=>⟨fr,hf,PB _⟩,fun blk es c hm hc=>by rw[setRow_other w _ _ _ (fun e=>by rw[e,hl] at hm;cases hm)];exact hc⟩;have hne:blk≠β s:=by rintro rfl;have:=hm 0 hl;omega
  rw[cell_setRow_other w _ _ _ hne];exact hc
 refine⟨fun i=>(h.tmps i).mono he,h.size,fun s' c' hs'=>?_,fun s1 s2 c1 c2 h1 h2 heq=>?_,h.below.setRow hge _,h.par,⟨h.mold.1,h.mold.2.1.trans he,h.mold.2.2⟩,?_,h.own.sub (fun i s' sz len c' hi hs'=>?_),h.defers,fun g=>(h.glob g).mono he,h.j,h.maps.to (fun i s ks vs hi=>⟨⟨i,hi⟩,rfl⟩) he (fun g e c hg _=>⟨by rw[setRow_other w _ _ _ (fun hb=>by subst hb;rw[hh] at hg;cases hg)];exact hg,rfl⟩)⟩
 rotate_right
 . simp only[aD] at hs';split at hs'
   . rename_i e;cases hs';subst e;exact⟨i,cs,hi,rfl,hs,hlen,rfl,fun cur ty' hc=>by
      rw[hh] at hc;obtain rfl:vals=cur:=by injection hc with hc;injection hc
      exact⟨vals',ty.to hsize,setRow_heap w _ _ _ _ _ hh,hsize⟩⟩
   . rename_i e;exact⟨i,c',hi,rfl,hs',PB _,rfl,fun cur ty' hc=>⟨cur,ty',by rw[setRow_other w _ _ _ (fun hb=>e (h.inj s' s c' cs hs' hs hb))];exact hc,rfl⟩⟩
 . simp only[aD] at hs';split at hs'
   . rename_i e;cases hs';subst e;exact⟨⟨hl,vals',ty.to hsize,xs',rest',setRow_heap w _ _ _ _ _ hh,hx',hr.mono he⟩,hge⟩
   . rename_i e;obtain⟨⟨hl',v',ty',xs1,rest1,hh',hx1,hr'⟩,hge'⟩:=h.boxes s' c' hs';refine⟨⟨hl',v',ty',xs1,rest1,?_,hx1,hr'.mono he⟩,hge'⟩;rw[setRow_other w _ _ _ (fun hb=>e (h.inj s' s c' cs hs' hs hb))];exact hh'
 . simp only[aD] at h1 h2;split at h1<;>split at h2
   . rename_i e1 e2;rw[e1,e2]
   . rename_i e1 e2;subst e1;exact h.inj _ _ _ _ hs h2 heq
   . rename_i e1 e2;subst e2;exact h.inj _ _ _ _ h1 hs heq
   . exact h.inj _ _ _ _ h1 h2 heq
 . obtain⟨ρ,hrw⟩:=h.rows;refine⟨ρ,hrw.to (fun v sz es s' hi=>hi.from (fun i hi=> .inl ⟨i,hi,rfl⟩) (fun k c j h1 h2 h3 h4=>?_)) (fun v sz es s' hi=>⟨setRow_other w _ _ _ (fun e=>hrw.box _ _ _ _ _ _ hi hs e.symm),rfl⟩) (fun v sz es s' k c hi hk=>?_)⟩
   . have h2:aw st.b s (some cs') k=some c:=h2;by_cases e:k=s
     . subst e;rw[aa] at h2;cases h2;rw[Box.cell (setRow_heap w _ _ _ _ _ hh)] at h4;exact hbear j sz es s' v h1 h3 h4
     . rw[ae _ _ e] at h2;have hne:β k≠β s:=fun hb=>e (h.inj _ _ _ _ h2 hs hb)
       rw[cell_setRow_other w _ _ _ hne] at h4;exact .inr ⟨k,c,j,h1,h2,h3,h4⟩
   . have hk:aw st.b s (some cs') k=some c:=hk;by_cases e:k=s
     . subst e;exact hrw.box _ _ _ _ _ _ hi hs
     . rw[ae _ _ e] at hk;exact hrw.box _ _ _ _ _ _ hi hk
variable {off:Nat}
theorem lw {α:Type} {l q:List α} (h:off+q.length<=l.length) (j:Nat):(l.take off++q++l.drop (off+q.length))[j]?=if j<off then l[j]? else if j<off+q.length then q[j-off]? else l[j]?:=by
 have h1:(l.take off).length=off:=by rw[P8];omega
 by_cases c1:j<off
 . rw[PO c1,QK,PT (by omega),P9,PO c1]
 . rw[PS c1];by_cases c2:j<off+q.length
   . rw[PO c2,PT (by rw[PP];omega),P6 (by omega),h1]
   . rw[PS c2,P6 (by rw[PP];omega),Qm,PP,h1];congr 1;omega
theorem zy (h:u.bare.dat=true):u.nm=none∧u≠ .undef∧∀a,u≠ .x (.agg a):=by rw[aX] at h;cases u<;>first|(simp[nn,V.dat] at h;done)|(refine⟨rfl,by simp,?_⟩;intro a e;first|(cases e;simp[nn,V.dat] at h;done)|cases e)
theorem oy (h:Rel E n pm m0 w0 m β st a w) {t:TypeId} {p v:Value} {q u:V} {st':St} (hp:Rs m w β p q) (hv:Rs m w β v u)
 (hk:∀sz es s',u= .sl false sz es (some s')->Bear E w β st (fun i=>a.tmps.getD i Go.undef) v u) (hx:lu E st t q u=some st'):
 ∃w',(Instr.storeAt t p v).run E.P w= .ok () w'∧Rel E n pm m0 w0 m β st' a w':=by
 unfold lu at hx;split at hx
 . rename_i s off;split at hx
   . rename_i cs hcs;split at hx
     . rename_i hc;obtain⟨hd,hone,hsz,hok,hle⟩:=hc;cases hx;obtain rfl:=hp.ptr
       . obtain ⟨⟨_, vals,ty,xs,rest,hh,hvs,hr⟩,_⟩:=h.boxes _ _ hcs;have hrd:=nA (hv.bare.dat hd) hd;obtain⟨hnm,hnu,hna⟩:=zy hd;have hrk:RdL m w v.cells.toList (E.kept s u).cells:=by
          unfold Env.kept;split
          . exact(hv.rd hnm).cells hnu hna
          . exact hrd
         have hlen:=hrd.length;have hlenk:=hrk.length;have hlen2:=hr.length;simp only[PR] at hlen hlenk;have hvl:vals.size=xs.length+rest.length:=by rw[<-PR,hvs,PP]
         have hst:=cY E.P (β s) off ty.ty ty.fz v.cells.toList 0 vals w hh ty.ok (by simp;omega) (nz hrd hone);have hvc:v.cells.toList.length=u.bare.cells.length:=by simpa using hlen
         have hkc:(E.kept s u).cells.length=u.bare.cells.length:=by omega
         refine⟨_,?_,h.store (vals':=(vals.toList.take (off+0)++v.cells.toList++vals.toList.drop (off+0+v.cells.toList.length)).toArray) (xs':=xs.take off++v.cells.toList++xs.drop (off+u.bare.cells.length)) (rest':=rest) hcs hh ?_ ?_ ?_ ?_ ?_⟩
         . simp only[Instr.storeAt,Instr.sureAddr,storeVar,Sem.run_bind,Sem.run_pure,Result.andThen_ok,bl hsz];rw[PS (by omega)];exact hst
         . simp only[iO,hvc,hvs];rw[Qy (by omega),List.drop_append_of_le_length (by omega)];simp only[QK]
         . exact((hr.take off).append hrk).append (hr.drop (off+u.bare.cells.length))
         . simp only[PP,P8,Q1];omega
         . simp only[QC,PP,P8,Q1,hvc,PR,iO];omega
         . intro j sz es s' x hM hu hx;rw[<-hkc,lw (by omega)] at hu;rw[RG,iO,lw (by have:=PR (xs:=vals);omega)] at hx
           have hold:∀(hu:cs[j]?=some (.sl false sz es (some s'))) (hx:vals.toList[j]?=some x),Bear E w β st (fun i=>a.tmps.getD i Go.undef) x (.sl false sz es (some s')):=fun hu hx=>
            .inr ⟨s,cs,j,hM,hcs,hu,by rw[Box.cell hh];simpa using hx⟩
           split at hu
           . rename_i c1;rw[PO c1] at hx;exact hold hu hx
           . rename_i c1;rw[PS c1] at hx;split at hu
             . rename_i c2;rw[PO (by omega)] at hx;simp only[Env.kept,hM,Qt] at hu;simp only[Env.okS,hM,Rg,RQ,QO] at hok;rcases hok with hsl|hall
               . cases u with
                 | sl nl' sz' es' tok'=>
                   simp only[V.cells,List.getElem?_singleton] at hu;split at hu
                   . rename_i e0;have hu:=QE hu;obtain⟨ad,cap,rfl,_,_⟩:=hv.sl;rw[e0] at hx;have hx:some (Value.slice ad es'.length cap)=some x:=by simpa[Value.cells] using hx
                     cases hx;rw[hu] at hk;exact hk sz es s' rfl
                   . cases hu
                 |_=>cases hsl
               . have:=PJ.1 hall _ (PM hu);cases this
             . rename_i c2;rw[PS (by omega)] at hx;exact hold hu hx
     . simp at hx
   . simp at hx
 . simp at hx
theorem gV (h:Rel E n pm m0 w0 m β st a w):∀(l:List Operand),(l.map fun x=>(ev E st x).bare).all V.dat=true->RdL m w (l.map a.eval) (l.map fun x=>(ev E st x).bare)
 |[],_=>trivial
 |x::l,hd=>by simp only[QU,Rf,PG] at hd;exact⟨(aA h x).bare.dat hd.1,gV h l hd.2⟩
theorem lx (h:Rel E n pm m0 w0 m β st a w) {o:Oper} (hd:∀k,o.dst=some k->k<n) {cs:List V} {st':St} (hx:eL st o.dst cs=some st') (hmb:E.okN o.dst cs=true)
 {vals:Array Value} {ty:TypeId} (hr:RdL m w vals.toList cs):∃m' β',Rel E n pm m0 w0 m' β' st' (a.put o.dst (.pointer (some ⟨w.heap.size,0,none⟩))) (w.alloc (.cells vals ty)):=by
 unfold eL at hx;split at hx
 . rename_i s hs;split at hx
   . rename_i hn;cases hx;rw[hs];exact⟨_,_,h.new (hd s hs) hn hr (hs▸hmb)⟩
   . simp at hx
 . simp at hx
theorem dV (u:V) (sz:Nat) (es:List V) (s:Nat) (h:u.bare= .sl false sz es (some s)):Bear E w β st (fun i=>a.tmps.getD i Go.undef) v u.bare:=by rw[aX] at h;cases u<;>cases h
structure Flat (m:Lim) (w:World) (cs:List Value) (sz:Nat) (es:List V):Prop where
 len:cs.length=es.length*sz
 each:∀(i:Nat) (e:V),es[i]?=some e->e.cells.length=sz∧∀(j:Nat) (d:V),e.cells[j]?=some d->∃x,cs[i*sz+j]?=some x∧Rd m w x d
theorem aM {α:Type} {l:List α} {i:Nat} {x:α} (h:l[i]?=some x):i<l.length:=by
 rcases Ql i l.length with h'|h'
 . exact h'
 . simp[Qc h'] at h
theorem Flat.nil (sz:Nat):Flat m w [] sz []:=⟨by simp,fun i e h=>by simp at h⟩
theorem Flat.mono (he:Ext m w m' w') {cs:List Value} {sz:Nat} {es:List V} (h:Flat m w cs sz es):Flat m' w' cs sz es:=
 ⟨h.len,fun i e hi=>⟨(h.each i e hi).1,fun j d hd=>by obtain⟨x,hx,hr⟩:=(h.each i e hi).2 j d hd;exact⟨x,hx,hr.mono he⟩⟩⟩
variable {k sz:Nat}
theorem Dz {i j:Nat} (hi:i<k) (hj:j<sz):i*sz+j<k*sz:=by have:(i+1)*sz<=k*sz:=Qo _ hi;rw[Qs,RP] at this;omega
variable {es:List V}
theorem Flat.append {cs cs':List Value} {es':List V} (h:Flat m w cs sz es) (h':Flat m w cs' sz es'):Flat m w (cs++cs') sz (es++es'):=by
 refine⟨by simp[h.len,h'.len,Qs],fun i e hi=>?_⟩;rcases Ql i es.length with hlt|hge
 . rw[PT hlt] at hi;obtain⟨h1,h2⟩:=h.each i e hi;refine⟨h1,fun j d hd=>?_⟩;obtain⟨x,hx,hr⟩:=h2 j d hd;exact⟨x,by rw[PT (aM hx)];exact hx,hr⟩
 . rw[P6 hge] at hi;obtain⟨h1,h2⟩:=h'.each _ e hi;refine⟨h1,fun j d hd=>?_⟩;obtain⟨x,hx,hr⟩:=h2 j d hd;have e1:(i-es.length)*sz+es.length*sz=i*sz:=by rw[<-Qs];congr 1;omega
   refine⟨x,?_,hr⟩;rw[P6 (by rw[h.len];omega),h.len,<-hx];congr 1;omega
theorem Flat.one {cs:List Value} (h:Flat m w cs sz es) (ho:(es.all fun u=>u.cells.all V.cell)=true):∀v∈cs,v.oneCell'=true:=by
 intro v hv;obtain⟨q,hq⟩:=List.getElem?_of_mem hv;have hlt:=aM hq;rw[h.len] at hlt;have hsz:0<sz:=by
  rcases Sg sz with h0|h0
  . subst h0;simp at hlt
  . exact h0
 have hi:q/sz<es.length:=(Nat.div_lt_iff_lt_mul hsz).2 hlt;have he:es[q/sz]?=some es[q/sz]:=Io hi;obtain⟨h1,h2⟩:=h.each _ _ he;have hj:q%sz<(es[q/sz]).cells.length:=by rw[h1];exact Nat.mod_lt _ hsz
 obtain⟨x,hx,hr⟩:=h2 (q%sz) _ (Io hj);have hqq:q/sz*sz+q%sz=q:=by rw[Nat.mul_comm];exact Nat.div_add_mod q sz
 rw[hqq,hq] at hx;cases hx;refine pH hr ?_;have:=PJ.1 ho _ (PM he);exact PJ.1 this _ (R8 hj)
theorem Rd.of_flat {cs:List Value} (h:Flat m w cs sz es) {g cap:Nat} {cur:Array Value} {ty:TypeId} {fr:Nat×Nat} (hh:w.heap[g]?=some (.cells cur ty fr))
 (hp:∀(j:Nat) (x:Value),cs[j]?=some x->cur[j]?=some x) (hcap:es.length<=cap) (hm:∀fr,m g=some fr->es.length*sz<=fr) (tok:Option Nat):Rd m w (.slice (some ⟨g,0,none⟩) es.length cap) (.sl false sz es tok):=by
 refine .sl g 0 cap sz es tok (fun j=>(cs[j]?).getD Go.undef) (al hh) hcap (fun i e hi=>(h.each i e hi).1) (fun k hk=>?_) (fun fr hf=>by have:=hm fr hf;omega) (fun i e hi j d hd=>?_)
 . have hlt:k<cs.length:=by rw[h.len];exact hk
   have hx:cs[k]?=some cs[k]:=Io hlt;rw[Qn,Box.cell hh,hp _ _ hx,hx];rfl
 . obtain⟨x,hx,hr⟩:=(h.each i e hi).2 j d hd;rw[hx];exact hr
variable {nl:Bool} {tok:Option Nat}
theorem Rd.flat (h:Rd m w v (.sl nl sz es tok)):
 (nl=true∧v= .slice none 0 0∧es=[])∨(nl=false∧es=[]∧tok=none∧∃a cap,v= .slice (some a) 0 cap)∨∃blk off cap cs,nl=false∧v= .slice (some ⟨blk,off,none⟩) es.length cap∧Flat m w cs sz es∧∀(j:Nat) (x:Value),cs[j]?=some x->w.cell? ⟨blk,off+j,none⟩=some x:=by
 cases h with
 |nil sz tok=>exact .inl ⟨rfl,rfl,rfl⟩
 |emp a cap sz=>exact .inr (.inl ⟨rfl,rfl,rfl,a,cap,rfl⟩)
 | sl blk off cap sz es tok c hb hcap hsz hc hm hr=>
   refine .inr (.inr ⟨blk,off,cap,(List.range (es.length*sz)).map c,rfl,rfl,⟨by simp,fun i e hi=>⟨hsz i e hi,fun j d hd=>?_⟩⟩,fun j x hx=>?_⟩)
   . have hj:=aM hd;rw[hsz i e hi] at hj;have:=Dz (aM hi) hj;exact⟨c (i*sz+j),by rw[PF,QZ this];rfl,hr i e hi j d hd⟩
   . have hlt:=aM hx;simp at hlt;rw[PF,QZ hlt] at hx;cases hx;exact hc j hlt
variable {s:Nat}
theorem zz {i:Nat} {t:Nat->V} (h:strip k t i= .sl nl sz es (some s)):t i= .sl nl sz es (some s)∧s≠k:=by
 unfold strip at h;rw[aR] at h;unfold fL at h;split at h
 . rename_i nl' sz' es' s' ht;split at h
   . cases h
   . rename_i hne;cases h;exact⟨ht,hne⟩
 . rename_i hne;exact absurd h (hne _ _ _ _)
theorem wF {i z l:Nat} {t:Nat->V} (h:strip k t i= .row s z l):t i= .row s z l:=by
 unfold strip at h;rw[aR] at h;unfold fL at h;split at h
 . split at h<;>cases h
 . exact h
variable {vs:List V}
theorem ly {i:Nat} {ks:List V} {t:Nat->V} (h:strip k t i= .mp s ks vs):t i= .mp s ks vs:=by
 unfold strip at h;rw[aR] at h;unfold fL at h;split at h
 . split at h<;>cases h
 . exact h
theorem gW {i:Nat} {t:Nat->V} (h:(kill k t i).nm=some s):kill k t i=t i∧s≠k:=by
 unfold kill at h⊢;rcases i8 k (t i) with⟨e,hn⟩|⟨e,hn⟩
 . refine⟨e,fun e'=>hn ?_⟩;rw[<-e,h,e']
 . rw[e] at h;cases h
theorem oz {i:Nat} {t:Nat->V} {s:Option Nat} (h:kill k t i= .sl nl sz es s):t i= .sl nl sz es s:=by
 unfold kill at h;rcases i8 k (t i) with⟨e,hn⟩|⟨e,hn⟩
 . rw[e] at h;exact h
 . rw[e] at h;cases h
theorem e7 (k:Nat) (t:Nat->V):strip k (strip k t)=strip k t:=by
 funext i;simp only[strip,aR];generalize t i=v;unfold fL;split
 . rename_i nl sz es s' hv;split at hv
   . split at hv
     . cases hv
     . rename_i hne;cases hv;rw[PS hne]
   . rename_i hno;exact absurd hv (hno _ _ _ _)
 . rfl
theorem wG (h:bT k u= .sl nl sz es (some s)):u= .sl nl sz es (some s)∧s≠k:=by
 rw[aR] at h;unfold fL at h;split at h
 . split at h
   . cases h
   . rename_i hne;cases h;exact⟨rfl,hne⟩
 . rename_i hne;exact absurd h (hne _ _ _ _)
variable {b:Nat->Option (List V)}
theorem cZ {c':List V} (h:az E k b s=some c'):∃c,b s=some c∧c.length=c'.length∧(c'=c∨E.MB s=true∧c'=c.map (bT k)):=by
 unfold az at h;split at h
 . rename_i hM;obtain⟨c,hc,rfl⟩:=PK.1 h;exact⟨c,hc,by simp,.inr ⟨hM,rfl⟩⟩
 . exact⟨c',h,rfl,.inl rfl⟩
theorem wH {c:List V} (h:b s=some c):∃c',az E k b s=some c'∧c.length=c'.length:=by
 unfold az;split
 . exact⟨c.map (bT k),by rw[h];rfl,by simp⟩
 . exact⟨c,h,rfl⟩
theorem RdL.stripL {k:Nat}:∀{vs:List Value} {us:List V},RdL m w vs us->RdL m w vs (us.map (bT k))
 |[],[],_=>trivial
 |_::_,_::_,h=>⟨h.1.strip,RdL.stripL h.2⟩
theorem Bear.stripped (h:Bear E w β ⟨strip k st.t,az E k st.b⟩ tm v (.sl false sz es (some s))):
 Bear E w β st tm v (.sl false sz es (some s))∧s≠k:=by
 rcases h with⟨i,h1,h2⟩|⟨k',c',j,h1,h2,h3,h4⟩
 . obtain⟨h3,h4⟩:=zz h1;exact⟨.inl ⟨i,h3,h2⟩,h4⟩
 . have h2:az E k st.b k'=some c':=h2;simp only[az,h1,Qt] at h2;obtain⟨c,hc,rfl⟩:=PK.1 h2;rw[PF] at h3;obtain⟨u0,hu0,he⟩:=PK.1 h3;obtain⟨rfl,hne⟩:=wG he;exact⟨.inr ⟨k',c,j,h1,hc,hu0,h4⟩,hne⟩
theorem fO (E:Env) (k:Nat) (b:Nat->Option (List V)):az E k (az E k b)=az E k b:=by
 funext s;unfold az;split
 . rename_i hM;cases b s with
   |none=>rfl
   |some c=>simp only[Qd,List.map_map];congr 1;refine RR (fun u _=>?_);have:=QP (e7 k (fun _=>u)) 0;exact this
 . rfl
theorem Rel.stripped (h:Rel E n pm m0 w0 m β st a w) (k:Nat):Rel E n pm m0 w0 m β ⟨Go.Proofs.Ytldnpcolhdnkdaa.strip k st.t,az E k st.b⟩ a w:=by
 refine⟨fun i=>(h.tmps i).strip,h.size,fun s c' hs=>?_,fun s s' c c' h1 h2 he=>?_,h.below,h.par,h.mold,?_,fun i s sz len c' hi hs=>?_,h.defers,h.glob,h.j,h.maps.to (fun i s ks vs hi=>⟨⟨i,ly hi⟩,rfl⟩) (Ext.refl _ _) (fun _ _ _ h _=>⟨h,rfl⟩)⟩
 . obtain⟨c,hc,hl,hor⟩:=cZ hs;obtain⟨⟨hlim,vals,ty,xs,rest,hh,hx,hr⟩,hge⟩:=h.boxes s c hc;refine⟨⟨hlim,vals,ty,xs,rest,hh,hx,?_⟩,hge⟩;rcases hor with rfl|⟨_,rfl⟩
   . exact hr
   . exact hr.stripL
 . obtain⟨_,hc,_⟩:=cZ h1;obtain⟨_,hc',_⟩:=cZ h2;exact h.inj _ _ _ _ hc hc' he
 . obtain⟨ρ,hr⟩:=h.rows;refine⟨ρ,hr.to (fun v sz es s hi=>hi.stripped.1) (fun _ _ _ _ _=>⟨rfl,rfl⟩) (fun v sz es s k' c hi hk=>?_)⟩;obtain⟨_,hc,_⟩:=cZ hk;exact hr.box _ _ _ _ _ _ hi hc
 . obtain⟨c,hc,hl,_⟩:=cZ hs;obtain⟨hf,rest⟩:=h.own i s sz len c (wF hi) hc;exact⟨by omega,rest⟩
theorem Rel.grown (h:Rel E n pm m0 w0 m β st a w) {ρ:Nat->Nat} (hrw:Rows E m pm w0 w β st (fun i=>a.tmps.getD i Go.undef) ρ) {d k g' sz:Nat} (hd:d<n) {v':Value} {es':List V} {m':Lim} {w':World} (he:Ext m w m' w')
 (hbel:Bel pm.X w0 w') (hother:∀g,g<w.heap.size->g≠g'->w'.heap[g]?=w.heap[g]?∧m' g=m g) (hrow:RowAt m' pm w0 w' v' g' sz es'.length) (hrd:Rd m' w' v' (.sl false sz es' (some d)))
 (hfree:∀v sz es s,Bear E w β ⟨strip k (strip d st.t),az E k (az E d st.b)⟩ (fun i=>a.tmps.getD i Go.undef) v (.sl false sz es (some s))->ρ s≠g') (hbox:∀s cs,st.b s=some cs->β s≠g') (hnm:∀e c,w.heap[g']?≠some (.map e c)):
 Rel E n pm m0 w0 m' β ⟨aw (strip k (strip d st.t)) d (.sl false sz es' (some d)),az E k (az E d st.b)⟩ (a.put (some d) v') w':=by
 have hlt:d<a.tmps.size:=by rw[h.size];exact hd
 have hS:=(h.stripped d).stripped k;have hSb:∀{s:Nat} {c':List V},az E k (az E d st.b) s=some c'->∃c,st.b s=some c∧c.length=c'.length:=fun hs=>by obtain⟨c1,h1,l1,_⟩:=cZ hs;obtain⟨c,h2,l2,_⟩:=cZ h1;exact⟨c,h2,l2.trans l1⟩
 have hst:∀{v:Value} {fh:Nat} {es0:List V} {s:Nat},Bear E w β ⟨strip k (strip d st.t),az E k (az E d st.b)⟩ (fun i=>a.tmps.getD i Go.undef) v (.sl false fh es0 (some s))->Bear E w β st (fun i=>a.tmps.getD i Go.undef) v (.sl false fh es0 (some s))∧s≠d:=fun hi=>by obtain⟨h1,_⟩:=hi.stripped (st:=⟨strip d st.t,az E d st.b⟩);exact h1.stripped
 have key:∀{v:Value} {fh:Nat} {es0:List V} {s:Nat},Bear E w' β ⟨aw (strip k (strip d st.t)) d (.sl false sz es' (some d)),az E k (az E d st.b)⟩ (fun i=>(a.put (some d) v').tmps.getD i Go.undef) v (.sl false fh es0 (some s))->
  (s=d∧v=v'∧fh=sz∧es0=es')∨Bear E w β ⟨strip k (strip d st.t),az E k (az E d st.b)⟩ (fun i=>a.tmps.getD i Go.undef) v (.sl false fh es0 (some s)):=fun {v fh es0 s} hi=>by
  rcases hi with⟨i,h1,h2⟩|⟨k',c',j,h1,h2,h3,h4⟩
  . simp only[aD] at h1;simp only[Act.put,ba _ _ _ _ hlt] at h2;split at h1
    . rename_i e;rw[PO e] at h2;cases h1;exact .inl ⟨rfl,h2.symm,rfl,rfl⟩
    . rename_i e;rw[PS e] at h2;exact .inr (.inl ⟨i,h1,h2⟩)
  . obtain⟨c,hc,_⟩:=hSb h2;obtain⟨⟨_,vals,ty,xs,rest,hh,_,_⟩,_⟩:=h.boxes _ _ hc;rw[aT (hother _ (al hh) (hbox _ _ hc)).1] at h4;exact .inr (.inr ⟨k',c',j,h1,h2,h3,h4⟩)
 refine⟨fun i=>?_,by simp[Act.put,h.size],fun s cs hs=>?_,hS.inj,hbel,h.par,⟨fun blk hb hy=>?_,h.mold.2.1.trans he,h.mold.2.2⟩,⟨aw ρ d g',fun v fh es0 s hi=>?_,fun v fh es0 s v1 IR es1 s' hi hi' hr=>?_,fun v fh es0 s k' cs hi hk'=>?_⟩,hS.own.sub (fun i s fh len cs hi hs=>?_),h.defers,fun g=>(h.glob g).mono he,h.j,h.maps.to (fun i s ks vs hi=>(by
  simp only[aD] at hi;split at hi
  . cases hi
  . exact⟨⟨i,ly (ly hi)⟩,rfl⟩)) he (fun g e c hg _=>⟨by rw[(hother g (al hg) (fun e'=>hnm e c (e'▸hg))).1];exact hg,(hother g (al hg) (fun e'=>hnm e c (e'▸hg))).2⟩)⟩
 rotate_right
 . simp only[aD] at hi;simp only[Act.put,ba _ _ _ _ hlt];split at hi
   . cases hi
   . rename_i e;obtain⟨c,hc,_⟩:=hSb hs;refine⟨i,cs,hi,by rw[PS e],hs,PB _,trivial,fun cur ty hh=>⟨cur,ty,?_,rfl⟩⟩;rw[(hother _ (al hh) (hbox s c hc)).1];exact hh
 . simp only[Act.put,ba _ _ _ _ hlt,aD];split
   . exact .of hrd
   . exact((h.tmps i).mono he).strip.strip
 . obtain⟨c,hc,_⟩:=hSb hs;obtain⟨⟨hl,vals,ty,xs,rest,hh,hx,hr⟩,hge⟩:=hS.boxes s cs hs;obtain⟨h1,h2⟩:=hother _ (al hh) (hbox s c hc);exact⟨⟨by rw[h2];exact hl,vals,ty,xs,rest,by rw[h1];exact hh,hx,hr.mono he⟩,hge⟩
 . have hlo:=hrow.lo;rw[(hother blk (Qf hb h.below.size) (fun e=>by rcases hlo with hlo|hlo;omega;exact hy (e▸hlo))).2];exact h.mold.1 blk hb hy
 . rcases key hi with⟨rfl,rfl,rfl,rfl⟩|hi
   . rw[aa];exact hrow
   . obtain⟨h1,h2⟩:=hst hi;rw[ae _ _ h2];obtain⟨lo,lim,cap,cur,ty,hv,hh,hc,hs⟩:=hrw.row v fh es0 s h1;obtain⟨h3,h4⟩:=hother _ (al hh) (hfree _ _ _ _ hi);exact⟨lo,by rw[h4];exact lim,cap,cur,ty,hv,by rw[h3];exact hh,hc,hs⟩
 . have k1:=key hi;have k2:=key hi';clear hi hi';rcases k1 with⟨e1,_⟩|k1
   . rcases k2 with⟨e2,_⟩|k2
     . rw[e1,e2]
     . obtain⟨h1,h2⟩:=hst k2;rw[e1,aa,ae _ _ h2] at hr;exact absurd hr.symm (hfree _ _ _ _ k2)
   . rcases k2 with⟨e2,_⟩|k2
     . obtain⟨h1,h2⟩:=hst k1;rw[e2,aa,ae _ _ h2] at hr;exact absurd hr (hfree _ _ _ _ k1)
     . rw[ae _ _ (hst k1).2,ae _ _ (hst k2).2] at hr;exact hrw.sep _ _ _ _ _ _ _ _ (hst k1).1 (hst k2).1 hr
 . obtain⟨c,hc,_⟩:=hSb hk';rcases key hi with⟨rfl,rfl,rfl,rfl⟩|hi
   . rw[aa];exact hbox _ _ hc
   . rw[ae _ _ (hst hi).2];exact hrw.box _ _ _ _ _ _ (hst hi).1 hc
theorem Rel.regrow (h:Rel E n pm m0 w0 m β st a w) {ρ:Nat->Nat} (hrw:Rows E m pm w0 w β st (fun i=>a.tmps.getD i Go.undef) ρ) {d s:Nat} (hd:d<n) (hmb:E.MB d=false) {cs:List V} (_hcs:st.b s=some cs) {g' len sz cap:Nat} {cur':Array Value} {ty':TyAt cur'.size} {xs' rest':List Value} {cs':List V} {m':Lim} {w':World}
 (he:Ext m w m' w') (hbel:Bel pm.X w0 w') (hother:∀g,g<w.heap.size->g≠g'->w'.heap[g]?=w.heap[g]?∧m' g=m g) (hlo:w0.heap.size<=g'∨g'∈pm.X∧m g'=some 0) (hlim:m' g'=some 0)
 (hh':w'.heap[g']?=some (.cells cur' ty'.ty ty'.fz)) (hx:cur'.toList=xs'++rest') (hr:RdL m' w' xs' cs') (hl:len*sz<=cs'.length) (hcap:len<=cap) (hsz:cur'.size=cap*sz)
 (hfree:∀v sz es s',Bear E w β st (fun i=>a.tmps.getD i Go.undef) v (.sl false sz es (some s'))->ρ s'≠g') (hbox:∀s' c',st.b s'=some c'->s'≠s->β s'≠g') (hnm:∀e c,w.heap[g']?≠some (.map e c)):
 Rel E n pm m0 w0 m' (aw β d g') ⟨aw (kill s (kill d st.t)) d (.row d sz len),aw (aw st.b s none) d (some cs')⟩ (a.put (some d) (.slice (some ⟨g',0,none⟩) len cap)) w':=by
 have hlt:d<a.tmps.size:=by rw[h.size];exact hd
 have hnm0:∀{i s':Nat},(kill s (kill d st.t) i).nm=some s'->kill s (kill d st.t) i=st.t i∧s'≠s∧s'≠d:=fun {i s'} hi=>by obtain⟨h1,h2⟩:=gW hi;rw[h1] at hi;obtain⟨h3,h4⟩:=gW hi;exact⟨h1.trans h3,h2,h4⟩
 have hb':∀{s':Nat} {c':List V},aw (aw st.b s none) d (some cs') s'=some c'->s'≠d->st.b s'=some c'∧s'≠s:=fun {s' c'} hs hne=>by
  rw[ae _ _ hne,aD] at hs;split at hs
  . cases hs
  . rename_i e;exact⟨hs,e⟩
 refine⟨fun i=>?_,by simp[Act.put,h.size],fun s' c' hs'=>?_,fun s1 s2 c1 c2 h1 h2 heq=>?_,hbel,⟨h.par.1,fun s' hs'=>(ae _ _ (by have:=h.par.1;omega)).trans (h.par.2.1 s' hs'),h.par.2.2⟩,⟨fun blk hb hy=>?_,h.mold.2.1.trans he,h.mold.2.2⟩,⟨ρ,hrw.to (fun v fh es0 s' hi=>hi.from (fun i hi=>?_) (fun k' c' j h1 h2 h3 h4=>?_)) (fun v fh es0 s' hi=>?_) (fun v fh es0 s' k' c' hi hk'=>?_)⟩,fun i s' fh len0 c' hi hs'=>?_,h.defers,fun g=>(h.glob g).mono he,h.j,h.maps.to (fun i s' ks vs hi=>(by
  simp only[aD (kill s (kill d st.t))] at hi;split at hi
  . cases hi
  . obtain⟨h1,h2,h3⟩:=hnm0 (show(kill s (kill d st.t) i).nm=some s' by rw[hi];rfl);exact⟨⟨i,h1▸hi⟩,ae _ _ h3⟩)) he (fun g e c hg _=>⟨by rw[(hother g (al hg) (fun e'=>hnm e c (e'▸hg))).1];exact hg,(hother g (al hg) (fun e'=>hnm e c (e'▸hg))).2⟩)⟩
 . simp only[Act.put,ba _ _ _ _ hlt,aD (kill s (kill d st.t))];split
   . have:=Rs.ofRow (m:=m') (w:=w') (β:=aw β d g') d sz hcap
     rwa [aa] at this
   . exact(((h.tmps i).mono he).kill.kill).beta (fun s' hs'=>ae _ _ (hnm0 hs').2.2)
 . by_cases hne:s'=d
   . subst hne;have hs':aw (aw st.b s none) s' (some cs') s'=some c':=hs';rw[aa] at hs';cases hs';rw[aa];exact⟨⟨hlim,cur',ty',xs',rest',hh',hx,hr⟩,hlo.imp id And.left⟩
   . obtain⟨h1,h2⟩:=hb' hs' hne;rw[ae _ _ hne];obtain⟨⟨hl',vals,ty,xs,rest,hh,hx',hr'⟩,hge⟩:=h.boxes s' c' h1;obtain⟨h3,h4⟩:=hother _ (al hh) (hbox s' c' h1 h2);exact⟨⟨by rw[h4];exact hl',vals,ty,xs,rest,by rw[h3];exact hh,hx',hr'.mono he⟩,hge⟩
 . by_cases e1:s1=d<;>by_cases e2:s2=d
   . rw[e1,e2]
   . obtain⟨h3,h4⟩:=hb' h2 e2;rw[e1,aa,ae _ _ e2] at heq;exact absurd heq.symm (hbox _ _ h3 h4)
   . obtain⟨h3,h4⟩:=hb' h1 e1;rw[e2,aa,ae _ _ e1] at heq;exact absurd heq (hbox _ _ h3 h4)
   . rw[ae _ _ e1,ae _ _ e2] at heq;exact h.inj _ _ _ _ (hb' h1 e1).1 (hb' h2 e2).1 heq
 . by_cases hbg:blk=g'
   . rcases hlo with hlo|⟨_,hm0⟩
     . omega
     . rw[hbg,hlim,<-hm0,<-hbg];exact h.mold.1 blk hb hy
   . rw[(hother blk (Qf hb h.below.size) hbg).2];exact h.mold.1 blk hb hy
 . simp only[aD] at hi;simp only[Act.put,ba _ _ _ _ hlt];split at hi
   . cases hi
   . rename_i e;rw[PS e];exact .inl ⟨i,oz (oz hi),rfl⟩
 . have hne:k'≠d:=fun e=>by rw[e,hmb] at h1;cases h1
   obtain⟨h5,h6⟩:=hb' h2 hne;rw[ae _ _ hne] at h4;obtain⟨⟨_,vals,ty,xs,rest,hh,_,_⟩,_⟩:=h.boxes _ _ h5;rw[aT (hother _ (al hh) (hbox _ _ h5 h6)).1] at h4;exact .inr ⟨k',c',j,h1,h5,h3,h4⟩
 . obtain⟨lo,lim,cap,cur,ty,hv,hh,hc,hs⟩:=hrw.row v fh es0 s' hi;exact hother _ (al hh) (hfree _ _ _ _ hi)
 . by_cases e:k'=d
   . rw[e,aa];exact(hfree _ _ _ _ hi).symm
   . rw[ae _ _ e];exact hrw.box _ _ _ _ _ _ hi (hb' hk' e).1
 . simp only[aD (kill s (kill d st.t))] at hi;simp only[Act.put,ba _ _ _ _ hlt];split at hi
   . rename_i e;cases hi;have hs':aw (aw st.b s none) d (some cs') d=some c':=hs';rw[aa] at hs';cases hs';rw[PO e];exact⟨hl,cap,cur',ty',by rw[aa],by rw[aa];exact hh',hsz⟩
   . rename_i e;rw[PS e];obtain⟨h1,h2,h3⟩:=hnm0 (show(kill s (kill d st.t) i).nm=some s' by rw[hi];rfl);obtain⟨h4,_⟩:=hb' hs' h3;obtain⟨hl',cap1,cur,ty,hv,hh,hsz'⟩:=h.own i s' fh len0 c' (h1▸hi) h4;refine⟨hl',cap1,cur,ty,by rw[ae _ _ h3];exact hv,?_,hsz'⟩;rw[ae _ _ h3,(hother _ (al hh) (hbox _ _ h4 h2)).1];exact hh
theorem Ext.fresh (m:Lim) (w:World) (o:Obj) (x:Option Nat):Ext m w (aw m w.heap.size x) (w.drew.alloc o):=by
 refine⟨by simp,fun blk off v hb _ hc=>?_,fun blk hb fr hf=>?_,fun blk es c _ hc=>by rw[Below.heap_alloc w.drew _ blk (du hc)];exact hc⟩
 . have:=World.cell?_alloc_lt w.drew o ⟨blk,off,none⟩ hb;rw[this];exact hc
 . simp only[aw] at hf;rw[PS (QD hb)] at hf;exact⟨fr,hf,PB _⟩
theorem Ext.fresh0 (m:Lim) (w:World) (o:Obj) (x:Option Nat):Ext m w (aw m w.heap.size x) (w.alloc o):=by
 refine⟨by simp,fun blk off v hb _ hc=>?_,fun blk hb fr hf=>?_,fun blk es c _ hc=>by rw[Below.heap_alloc w _ blk (du hc)];exact hc⟩
 . rw[World.cell?_alloc_lt _ _ _ hb];exact hc
 . simp only[aw] at hf;rw[PS (QD hb)] at hf;exact⟨fr,hf,PB _⟩
variable {P:Program}
theorem zA (w:World) (t ty el:TypeId) (i:TypeInfo) (ht:P.underlying t=some (.slice el)) (hi:P.info? el=some i) (g sLen sCap:Nat) (cur:Array Value) (ty':TyAt cur.size)
 (hg:w.heap[g]?=some (.cells cur ty'.ty ty'.fz)) (x:Value) (k:Nat) (news:List Value) (hx:(Builtin.lenOf x).run P w= .ok k w) (hf:(Builtin.firstCells i.size k x).run P w= .ok news.toArray w)
 (h1:∀u∈news,u.oneCell'=true) (hroom:sLen+k<=sCap) (hfit:sLen*i.size+news.length<=cur.size):
 (Builtin.append_ #[t,t] ty #[.slice (some ⟨g,0,none⟩) sLen sCap,x]).run P w= .ok (.slice (some ⟨g,0,none⟩) (sLen+k) sCap) (w.setRow g (cur.toList.take (sLen*i.size)++news++cur.toList.drop (sLen*i.size+news.length)).toArray):=by
 have hst:=cY P g (sLen*i.size) ty'.ty ty'.fz news 0 cur w hg ty'.ok (by omega) h1;simp only[iO] at hst;have hsz:bg P el=some i.size:=by simp[bg,hi]
 simp[Builtin.append_,av ht,bl hsz,hx,hroom,hf,aC,hst]
variable {t:TypeId}
theorem oA (h:bg P t=some n):∃i,P.info? t=some i∧i.size=n:=by
 unfold bg at h;cases hi:P.info? t with
 |none=>simp[hi] at h
 |some i=>simp[hi] at h;exact⟨i,rfl,h⟩
variable {z:List V}
theorem oB {i:TypeInfo} (hi:P.info? t=some i) (h:aE P t=some z):∃v:Value,i.zero=some v∧v.cells.size=z.length:=by unfold aE at h;simp only[hi,QQ,PK] at h;obtain⟨v,hv,rfl⟩:=h;exact⟨v,hv,by simp⟩
theorem zC {y:Value} {fh:Nat} (h:Rd m w y (.sl nl fh es tok)) (hs:fh=sz∨es=[]):
 ∃ cs,Flat m w cs sz es∧(Builtin.lenOf y).run P w= .ok es.length w∧(Builtin.firstCells sz es.length y).run P w= .ok cs.toArray w∧
   (es≠[]->∃blk off cap,y= .slice (some ⟨blk,off,none⟩) es.length cap∧∀(j:Nat) (x:Value),cs[j]?=some x->w.cell? ((⟨blk,off,none⟩:Addr).add j)=some x):=by
 rcases h.flat with⟨_,rfl,rfl⟩|⟨_,rfl,_,a,cap,rfl⟩|⟨blk,off,cap,cs,_,rfl,hf,hc⟩
 . exact⟨[],Flat.nil sz,rfl,by simpa using run_firstCells_none (P:=P) w sz 0 0 0,fun h=>absurd rfl h⟩
 . exact⟨[],Flat.nil sz,rfl,run_firstCells_some w sz 0 _ _ _ [] (by simp) (by simp),fun h=>absurd rfl h⟩
 . by_cases he:es=[]
   . subst he;exact⟨[],Flat.nil sz,rfl,run_firstCells_some w sz 0 _ _ _ [] (by simp) (by simp),fun h=>absurd rfl h⟩
   . obtain rfl:=hs.resolve_right he;have hc':∀(j:Nat) (x:Value),cs[j]?=some x->w.cell? ((⟨blk,off,none⟩:Addr).add j)=some x:=fun j x hx=>by rw[aC];exact hc j x hx
     exact⟨cs,hf,rfl,run_firstCells_some w _ _ _ _ _ cs hf.len hc',fun _=>⟨blk,off,cap,rfl,hc'⟩⟩
structure SrcOf (P:Program) (m:Lim) (w:World) (t t' el:TypeId) (i:TypeInfo) (y:Value) (es:List V) (cs:List Value):Prop where
 flat:Flat m w cs i.size es
 nilE:es=[]->∀ty,(Builtin.append_ #[t,t'] ty #[.slice none 0 0,y]).run P w= .ok (.slice none 0 0) w
 nil:es≠[]->∀ty zv,i.zero=some zv->0<es.length->(es.length:Int)<=9223372036854775807->es.length*i.bytes<=281474976710656->
  (Builtin.append_ #[t,t'] ty #[.slice none 0 0,y]).run P w= .ok (.slice (some ⟨w.heap.size,0,none⟩) es.length (grownCap w es.length 0 el)) (w.drew.alloc (.cells (cs.toArray++Builtin.zeroCells zv.cells (grownCap w es.length 0 el-es.length)) el))
 room:∀ty g sLen sCap (cur:Array Value) (ty':TyAt cur.size),w.heap[g]?=some (.cells cur ty'.ty ty'.fz)->(∀u∈cs,u.oneCell'=true)->sLen+es.length<=sCap->sLen*i.size+cs.length<=cur.size->
  (Builtin.append_ #[t,t'] ty #[.slice (some ⟨g,0,none⟩) sLen sCap,y]).run P w= .ok (.slice (some ⟨g,0,none⟩) (sLen+es.length) sCap) (w.setRow g (cur.toList.take (sLen*i.size)++cs++cur.toList.drop (sLen*i.size+cs.length)).toArray)
 grow:es≠[]->∀ty zv (b:Addr) sLen sCap (olds:List Value),i.zero=some zv->olds.length=sLen*i.size->(∀j v,olds[j]?=some v->w.cell? (b.add j)=some v)->sCap<sLen+es.length->((sLen+es.length:Nat):Int)<=9223372036854775807->Builtin.nextslicecap (sLen+es.length) sCap*i.bytes<=281474976710656->
  (Builtin.append_ #[t,t'] ty #[.slice (some b) sLen sCap,y]).run P w= .ok (.slice (some ⟨w.heap.size,0,none⟩) (sLen+es.length) (grownCap w (sLen+es.length) sCap el)) (w.drew.alloc (.cells (olds.toArray++cs.toArray++Builtin.zeroCells zv.cells (grownCap w (sLen+es.length) sCap el-(sLen+es.length))) el))
variable {el:TypeId}
theorem zD {i:TypeInfo} (hu:P.underlying t=some (.slice el)) (hi:P.info? el=some i) {y:Value} {nl:Bool} {fh:Nat} {es:List V} {tok:Option Nat} (h:Rd m w y (.sl nl fh es tok)) (hs:fh=i.size∨es=[]):
 ∃cs,SrcOf P m w t t el i y es cs:=by
 obtain⟨cs,hflat,hlen,hfc,hsrc⟩:=zC (P:=P) h hs;have hsz:bg P el=some i.size:=by simp[bg,hi]
 refine⟨cs,hflat,fun he ty=>?_,fun he ty zv hzv h1 h2 h3=>?_,fun ty g sLen sCap cur ty' hh h1 h2 h3=>zA (P:=P) w t ty el i hu hi g sLen sCap cur ty' hh _ es.length cs hlen hfc h1 h2 h3,fun he ty zv b sLen sCap olds hzv h1 h2 h3 h4 h5=>?_⟩
 . subst he;have hcs:cs=[]:=by have:=hflat.len;simpa using this
   subst hcs;simp at hlen hfc;simp[Builtin.append_,av hu,bl hsz,hlen,hfc]
 . obtain⟨blk,off,cap,hyv,hcell⟩:=hsrc he;rw[hyv];exact run_append_nil (P:=P) w t ty el i zv hu hi hzv _ es.length cap cs hflat.len hcell h1 h2 h3
 . obtain⟨blk,off,cap,hyv,hcell⟩:=hsrc he;rw[hyv];exact run_append_grow (P:=P) w t ty el i zv hu hi hzv b sLen sCap olds h1 h2 _ es.length cap cs hflat.len hcell h3 h4 h5
theorem sM (s:ByteArray) (j:Nat):(Go.Lib.strCells s)[j]?=(s.data.toList[j]?).map fun b=>Value.int .u8 b.toNat:=by unfold Go.Lib.strCells;rw[PF]
theorem pI {s:ByteArray} (hs:1=sz∨d8 s=[]):Flat m w (Go.Lib.strCells s) sz (d8 s):=by
 rcases hs with rfl|hs
 . refine⟨by simp[Go.Lib.strCells,d8],fun i e hi=>?_⟩;simp only[d8,PF,PK] at hi;obtain⟨b,hb,rfl⟩:=hi;refine⟨rfl,fun j d hd=>?_⟩;cases j with
   |zero=>cases hd;exact⟨.int .u8 b.toNat,by rw[RX,iO,sM,hb];rfl,.x _⟩
   |succ j=>cases hd
 . rw[hs];have:Go.Lib.strCells s=[]:=by unfold d8 at hs;rw[List.map_eq_nil_iff] at hs;unfold Go.Lib.strCells;rw[hs];rfl
   rw[this];exact Flat.nil _
theorem sN (s:ByteArray):(d8 s).length=s.size:=by unfold d8;rw[eq,PR];rfl
theorem DA {t':TypeId} {i:TypeInfo} (hu:P.underlying t=some (.slice el)) (hu':P.underlying t'=some .string) (hi:P.info? el=some i) {s:ByteArray} (hs:1=i.size∨d8 s=[]):
 ∃cs,SrcOf P m w t t' el i (.string s) (d8 s) cs:=by
 have hflat:=pI (m:=m) (w:=w) hs;have hsz:bg P el=some i.size:=by simp[bg,hi]
 have hlen:=sN s;have hfc:=Go.Lib.run_firstCells_string (P:=P) w i.size s;refine⟨Go.Lib.strCells s,hflat,fun he ty=>?_,fun he ty zv hzv h1 h2 h3=>?_,fun ty g sLen sCap cur ty' hh h1 h2 h3=>?_,fun he ty zv b sLen sCap olds hzv h1 h2 h3 h4 h5=>?_⟩
 . have h0:s.size=0:=by rw[<-hlen,he];rfl
   rw[h0] at hfc;simp[Builtin.append_,av hu,av hu',bl hsz,Builtin.lenOf,h0,hfc]
 . rw[hlen] at h1 h2 h3⊢;have hr:=run_append_nil_string (P:=P) w t t' ty el i zv hu hu' hi hzv s h1 h2 h3;have e1:(s.data.map fun b=>Value.int .u8 b.toNat)=(Go.Lib.strCells s).toArray:=by apply Array.ext';simp[Go.Lib.strCells]
   rw[e1] at hr;exact hr
 . rw[hlen] at h2⊢;have hst:=cY P g (sLen*i.size) ty'.ty ty'.fz (Go.Lib.strCells s) 0 cur w hh ty'.ok (by omega) h1;simp only[iO] at hst;simp[Builtin.append_,av hu,av hu',bl hsz,Builtin.lenOf,h2,hfc,aC,hst]
 . rw[hlen] at h3 h4 h5⊢;exact Go.Lib.run_append_grow_string (P:=P) w t t' ty el i zv hu hu' hi hzv b sLen sCap olds h1 h2 s h3 h4 h5
theorem sO {sx:Operand} (h:ev E st sx= .sl nl sz es (some k)):∃i,sx= .tmp i∧st.t i= .sl nl sz es (some k):=by
 cases sx with
 |tmp i=>exact⟨i,rfl,h⟩
 |const v=>simp only[ev,dy] at h;split at h<;>cases h
 |global g=>simp only[ev,aX] at h;generalize E.G g=u at h;cases u<;>cases h
 |func f=>cases h
theorem lz (h:Rel E n pm m0 w0 m β st a w) {sx:Operand} {s sz len:Nat} (he:ev E st sx= .row s sz len):∃i,sx= .tmp i∧st.t i= .row s sz len:=by
 cases sx with
 |tmp i=>exact⟨i,rfl,he⟩
 |const v=>simp only[ev,dy] at he;split at he<;>cases he
 |global g=>simp only[ev,aX] at he;have:=h.glob g;generalize E.G g=u at he this;cases u<;>first|exact this.not_row.elim|cases he
 |func f=>cases he
theorem nB (h:Rel E n pm m0 w0 m β st a w) {sx:Operand} {s:Nat} {ks vs:List V} (he:ev E st sx= .mp s ks vs):∃i,sx= .tmp i∧st.t i= .mp s ks vs:=by
 cases sx with
 |tmp i=>exact⟨i,rfl,he⟩
 |const v=>simp only[ev,dy] at he;split at he<;>cases he
 |global g=>simp only[ev,aX] at he;have:=h.glob g;generalize E.G g=u at he this;cases u<;>first|exact this.not_mp.elim|cases he
 |func f=>cases he
theorem sP (h:Rel E n pm m0 w0 m β st a w) {sx:Operand} {s:Nat} {ks vs:List V} (he:ev E st sx= .mp s ks vs):MapAt m w (β s) ks vs:=by obtain⟨i,_,hi⟩:=nB h he;exact(h.maps.holds i s ks vs hi).1
theorem dW (s:Nat) (ks vs:List V) (u:V):cR s ks vs u=u∨(∃ks' vs',u= .mp s ks' vs')∧cR s ks vs u= .mp s ks vs:=by
 rw[cg];cases u<;>try exact .inl rfl
 rename_i s' ks' vs';simp only[pA];by_cases e:s'=s
 . subst e;rw[PO rfl];exact .inr ⟨⟨_,_,rfl⟩,rfl⟩
 . rw[PS e];exact .inl rfl
theorem Rel.newMap (h:Rel E n pm m0 w0 m β st a w) {s:Nat} (hs:s<n) (hn:noPtrTo s st.t):
 Rel E n pm m0 w0 (aw m w.heap.size (some 0)) (aw β s w.heap.size) ⟨aw st.t s (.mp s [] []),aw st.b s none⟩ (a.put (some s) (.map (some w.heap.size))) (w.alloc (.map #[] 0)):=by
 have he:Ext m w (aw m w.heap.size (some 0)) (w.alloc (.map #[] 0)):=Ext.fresh0 m w _ _;have hml:∀k o,w.heap[k]?=some o->aw m w.heap.size (some 0) k=m k:=fun k o hk=>ae _ _ (QD (al hk))
 have hold:∀k o,w.heap[k]?=some o->(w.alloc (.map #[] 0)).heap[k]?=some o:=fun k o hk=>by rw[Below.heap_alloc w _ k (al hk)];exact hk
 have hlt:s<a.tmps.size:=by rw[h.size];exact hs
 have hb':∀{s':Nat} {c:List V},aw st.b s none s'=some c->s'≠s∧st.b s'=some c:=fun {s' c} hc=>by
  rw[aD] at hc;split at hc
  . cases hc
  . rename_i e;exact⟨e,hc⟩
 refine⟨fun i=>?_,by simp[Act.put,h.size],fun s' c' hs'=>?_,fun s1 s2 c1 c2 h1 h2 heq=>?_,h.below.alloc h.below.size _,⟨h.par.1,fun s' hs'=>(ae _ _ (by have:=h.par.1;omega)).trans (h.par.2.1 s' hs'),h.par.2.2⟩,⟨fun blk hb hy=>by rw[ae _ _ (by have:=h.below.size;omega)];exact h.mold.1 blk hb hy,h.mold.2.1.trans he,h.mold.2.2⟩,?_,fun i s' sz len c' hi hc=>?_,h.defers,fun g=>(h.glob g).mono he,h.j,⟨fun i s' ks vs hi=>?_,fun i j s1 s2 ks vs ks' vs' hi hj e=>?_⟩⟩
 . simp only[Act.put,ba _ _ _ _ hlt,aD st.t];split
   . have:=Rs.ofMp (m:=aw m w.heap.size (some 0)) (w:=w.alloc (.map #[] 0)) (β:=aw β s w.heap.size) s [] []
     rwa [aa] at this
   . exact((h.tmps i).mono he).beta (fun s' hs'=>ae _ _ (fun e=>hn i (by rw[hs',e])))
 . obtain⟨h1,h2⟩:=hb' hs';rw[ae _ _ h1];obtain⟨⟨hl,vals,ty,xs,rest,hh,hx,hr⟩,hge⟩:=h.boxes s' c' h2;exact⟨⟨by rw[hml _ _ hh];exact hl,vals,ty,xs,rest,hold _ _ hh,hx,hr.mono he⟩,hge⟩
 . obtain⟨q1,q2⟩:=hb' h1;obtain⟨q3,q4⟩:=hb' h2;rw[ae _ _ q1,ae _ _ q3] at heq;exact h.inj _ _ _ _ q2 q4 heq
 . obtain⟨ρ,hr⟩:=h.rows;refine⟨ρ,hr.to (fun v sz es s' hi=>hi.from (fun i hi=>?_) (fun k c j h1 h2 h3 h4=>?_)) (fun v sz es s' hi=>?_) (fun v sz es s' k c hi hk=>?_)⟩
   . simp only[aD st.t] at hi;simp only[Act.put,ba _ _ _ _ hlt];split at hi
     . cases hi
     . rename_i e;rw[PS e];exact .inl ⟨i,hi,rfl⟩
   . obtain⟨q1,q2⟩:=hb' h2;rw[ae _ _ q1] at h4;obtain⟨⟨_,vals,ty,xs,rest,hh,_,_⟩,_⟩:=h.boxes _ _ q2;rw[aT (Below.heap_alloc w _ _ (al hh))] at h4;exact .inr ⟨k,c,j,h1,q2,h3,h4⟩
   . obtain⟨_,_,_,_,_,_,hh,_⟩:=hr.row v sz es s' hi;exact⟨Below.heap_alloc w _ _ (al hh),hml _ _ hh⟩
   . obtain⟨q1,q2⟩:=hb' hk;rw[ae _ _ q1];exact hr.box _ _ _ _ _ _ hi q2
 . obtain⟨q1,q2⟩:=hb' hc;simp only[aD st.t] at hi;simp only[Act.put,ba _ _ _ _ hlt];split at hi
   . cases hi
   . rename_i e;rw[PS e];obtain⟨hl,cap,cur,ty,hv,hh,hsz⟩:=h.own i s' sz len c' hi q2;exact⟨hl,cap,cur,ty,by rw[ae _ _ q1];exact hv,by rw[ae _ _ q1];exact hold _ _ hh,hsz⟩
 . simp only[aD st.t] at hi;split at hi
   . cases hi;rw[aa];exact⟨⟨#[],0,World.heap_new w _,trivial,(fun e he=>by cases he),Q3,aa _ _ _⟩,.inl h.below.size⟩
   . have hne:s'≠s:=fun e=>hn i (by rw[hi,e];rfl)
     rw[ae _ _ hne];obtain⟨⟨ents,clock,hh,hrd,q1,q2,q4⟩,q3⟩:=h.maps.holds i s' ks vs hi;exact⟨⟨ents,clock,hold _ _ hh,hrd.mono he,q1,q2,by rw[hml _ _ hh];exact q4⟩,q3⟩
 . simp only[aD st.t] at hi hj;have hsz:∀{k s':Nat} {ks vs:List V},st.t k= .mp s' ks vs->s'≠s∧β s'<w.heap.size:=fun {k s' ks vs} hk=>by obtain⟨⟨ents,clock,hh,_⟩,_⟩:=h.maps.holds _ _ _ _ hk;exact⟨fun e=>hn k (by rw[hk,e];rfl),al hh⟩
   split at hi<;>split at hj
   . cases hi;cases hj;rfl
   . cases hi;obtain⟨q1,q2⟩:=hsz hj;rw[aa,ae _ _ q1] at e;omega
   . cases hj;obtain⟨q1,q2⟩:=hsz hi;rw[aa,ae _ _ q1] at e;omega
   . obtain⟨q1,q2⟩:=hsz hi;obtain⟨q3,q4⟩:=hsz hj;rw[ae _ _ q1,ae _ _ q3] at e;exact h.maps.inj _ _ _ _ _ _ _ _ hi hj e
theorem Rel.newMapAt (h:Rel E n pm m0 w0 m β st a w) {s g:Nat} {ks vs:List V} {m':Lim} {w':World} (hs:s<n) (hn:noPtrTo s st.t) (hb:Below w.heap.size w w') (hm:∀blk,blk<w.heap.size->m' blk=m blk) (hg:w.heap.size<=g) (hM:MapAt m' w' g ks vs):
 Rel E n pm m0 w0 m' (aw β s g) ⟨aw st.t s (.mp s ks vs),aw st.b s none⟩ (a.put (some s) (.map (some g))) w':=by
 have h':=h.call hb hm;have hlt:s<a.tmps.size:=by rw[h.size];exact hs
 have hb':∀{s':Nat} {c:List V},aw st.b s none s'=some c->s'≠s∧st.b s'=some c:=fun {s' c} hc=>by
  rw[aD] at hc;split at hc
  . cases hc
  . rename_i e;exact⟨e,hc⟩
 refine⟨fun i=>?_,by simp[Act.put,h.size],fun s' c' hs'=>?_,fun s1 s2 c1 c2 h1 h2 heq=>?_,h'.below,⟨h.par.1,fun s' hs'=>(ae _ _ (by have:=h.par.1;omega)).trans (h.par.2.1 s' hs'),h.par.2.2⟩,h'.mold,?_,fun i s' sz len c' hi hc=>?_,h.defers,h'.glob,h.j,⟨fun i s' ks' vs' hi=>?_,fun i j s1 s2 ks1 vs1 ks2 vs2 hi hj e=>?_⟩⟩
 . simp only[Act.put,ba _ _ _ _ hlt,aD st.t];split
   . have:=Rs.ofMp (m:=m') (w:=w') (β:=aw β s g) s ks vs
     rwa [aa] at this
   . exact(h'.tmps i).beta (fun s' hs'=>ae _ _ (fun e=>hn i (by rw[hs',e])))
 . obtain⟨h1,h2⟩:=hb' hs';rw[ae _ _ h1];exact h'.boxes s' c' h2
 . obtain⟨q1,q2⟩:=hb' h1;obtain⟨q3,q4⟩:=hb' h2;rw[ae _ _ q1,ae _ _ q3] at heq;exact h.inj _ _ _ _ q2 q4 heq
 . obtain⟨ρ,hr⟩:=h'.rows;refine⟨ρ,hr.to (fun v sz es s' hi=>hi.from (fun i hi=>?_) (fun k c j h1 h2 h3 h4=>?_)) (fun v sz es s' hi=>⟨rfl,rfl⟩) (fun v sz es s' k c hi hk=>?_)⟩
   . simp only[aD st.t] at hi;simp only[Act.put,ba _ _ _ _ hlt];split at hi
     . cases hi
     . rename_i e;rw[PS e];exact .inl ⟨i,hi,rfl⟩
   . obtain⟨q1,q2⟩:=hb' h2;rw[ae _ _ q1] at h4;exact .inr ⟨k,c,j,h1,q2,h3,h4⟩
   . obtain⟨q1,q2⟩:=hb' hk;rw[ae _ _ q1];exact hr.box _ _ _ _ _ _ hi q2
 . obtain⟨q1,q2⟩:=hb' hc;simp only[aD st.t] at hi;simp only[Act.put,ba _ _ _ _ hlt];split at hi
   . cases hi
   . rename_i e;rw[PS e];obtain⟨hl,cap,cur,ty,hv,hh,hsz⟩:=h'.own i s' sz len c' hi q2;exact⟨hl,cap,cur,ty,by rw[ae _ _ q1];exact hv,by rw[ae _ _ q1];exact hh,hsz⟩
 . simp only[aD st.t] at hi;split at hi
   . cases hi;rw[aa];exact⟨hM,.inl (tl h.below.size hg)⟩
   . have hne:s'≠s:=fun e=>hn i (by rw[hi,e];rfl)
     rw[ae _ _ hne];exact h'.maps.holds i s' ks' vs' hi
 . simp only[aD st.t] at hi hj;have hsz:∀{k s':Nat} {ks vs:List V},st.t k= .mp s' ks vs->s'≠s∧β s'<w.heap.size:=fun {k s' ks vs} hk=>by obtain⟨⟨ents,clock,hh,_⟩,_⟩:=h.maps.holds _ _ _ _ hk;exact⟨fun e=>hn k (by rw[hk,e];rfl),al hh⟩
   split at hi<;>split at hj
   . cases hi;cases hj;rfl
   . cases hi;obtain⟨q1,q2⟩:=hsz hj;rw[aa,ae _ _ q1] at e;omega
   . cases hj;obtain⟨q1,q2⟩:=hsz hi;rw[aa,ae _ _ q1] at e;omega
   . obtain⟨q1,q2⟩:=hsz hi;obtain⟨q3,q4⟩:=hsz hj;rw[ae _ _ q1,ae _ _ q3] at e;exact h.maps.inj _ _ _ _ _ _ _ _ hi hj e
theorem Rel.setMap (h:Rel E n pm m0 w0 m β st a w) {s i0:Nat} {ks vs ks' vs':List V} (h0:st.t i0= .mp s ks vs) {ents:Array MapEntry} {clock:Nat}
 (hm:MapAt m {w with heap:=w.heap.setIfInBounds (β s) (.map ents clock)} (β s) ks' vs'):Rel E n pm m0 w0 m β ⟨mS s ks' vs' st.t,st.b⟩ a {w with heap:=w.heap.setIfInBounds (β s) (.map ents clock)}:=by
 obtain⟨⟨e0,c0,hh0,_,_,_,hlim0⟩,hown⟩:=h.maps.holds i0 s ks vs h0;have he:=iC (m:=m) (ents':=ents) (clock':=clock) hh0 hlim0;have hoth:=(MapKept.heap_set (o':= .map ents clock) hh0).2;have hcell:∀{g:Nat} {cur:Array Value} {ty:TypeId} {fr:Nat×Nat},w.heap[g]?=some (.cells cur ty fr)->g≠β s:=fun {g cur ty fr} hg e=>by subst e;rw[hh0] at hg;cases hg
 have hsl:∀{i sz s':Nat} {nl:Bool} {es:List V},mS s ks' vs' st.t i= .sl nl sz es (some s')->st.t i= .sl nl sz es (some s'):=fun {i sz s' nl es} hi=>by
  have hi:cR s ks' vs' (st.t i)=_:=hi;rcases dW s ks' vs' (st.t i) with e|⟨_,e⟩
  . rw[e] at hi;exact hi
  . rw[e] at hi;cases hi
 refine⟨fun i=>?_,h.size,fun s' c' hs'=>?_,h.inj,⟨h.below.os,h.below.tape,h.below.output,by simpa using h.below.size,fun k hk hx=>?_⟩,h.par,⟨h.mold.1,h.mold.2.1.trans he,h.mold.2.2⟩,?_,fun i s' sz len c' hi hc=>?_,h.defers,fun g=>(h.glob g).mono he,h.j,⟨fun i s' ks1 vs1 hi=>?_,fun i j s1 s2 ks1 vs1 ks2 vs2 hi hj e=>?_⟩⟩
 . show Rs m _ β _ (cR s ks' vs' (st.t i));have:=(h.tmps i).mono he;rcases dW s ks' vs' (st.t i) with e|⟨⟨k1,v1,e1⟩,e⟩
   . rw[e];exact this
   . rw[e];rw[e1] at this;rw[this.mp];exact .ofMp _ _ _
 . obtain⟨⟨hl,vals,ty,xs,rest,hh,hx,hr⟩,hge⟩:=h.boxes s' c' hs';exact⟨⟨hl,vals,ty,xs,rest,by show(w.heap.setIfInBounds _ _)[_]?=_;rw[hoth _ (hcell hh)];exact hh,hx,hr.mono he⟩,hge⟩
 . show(w.heap.setIfInBounds _ _)[k]?=_;rw[hoth k (fun e=>by subst e;rcases hown with h1|h1;omega;exact hx h1)];exact h.below.block k hk hx
 . obtain⟨ρ,hr⟩:=h.rows;refine⟨ρ,hr.to (fun v sz es s' hi=>hi.from (fun i hi=> .inl ⟨i,hsl hi,rfl⟩) (fun k c j h1 h2 h3 h4=>?_)) (fun v sz es s' hi=>?_) (fun v sz es s' k c hi hk=>hr.box _ _ _ _ _ _ hi hk)⟩
   . obtain⟨⟨_,vals,ty,xs,rest,hh,_,_⟩,_⟩:=h.boxes _ _ h2;rw[aT (w:=w) (by show(w.heap.setIfInBounds _ _)[_]?=_;rw[hoth _ (hcell hh)])] at h4;exact .inr ⟨k,c,j,h1,h2,h3,h4⟩
   . obtain⟨_,_,_,_,_,_,hh,_⟩:=hr.row v sz es s' hi;exact⟨by show(w.heap.setIfInBounds _ _)[_]?=_;rw[hoth _ (hcell hh)],rfl⟩
 . have hi':st.t i= .row s' sz len:=by
    have hi:cR s ks' vs' (st.t i)=_:=hi;rcases dW s ks' vs' (st.t i) with e|⟨_,e⟩
    . rw[e] at hi;exact hi
    . rw[e] at hi;cases hi
   obtain⟨hl,cap,cur,ty,hv,hh,hsz⟩:=h.own i s' sz len c' hi' hc;exact⟨hl,cap,cur,ty,hv,by show(w.heap.setIfInBounds _ _)[_]?=_;rw[hoth _ (hcell hh)];exact hh,hsz⟩
 . have hi1:cR s ks' vs' (st.t i)= .mp s' ks1 vs1:=hi;rcases dW s ks' vs' (st.t i) with e|⟨⟨k1,v1,e1⟩,e⟩
   . have hi2:st.t i= .mp s' ks1 vs1:=e.symm.trans hi1;obtain⟨⟨ents1,clock1,hh,hrd,q1,q2⟩,q3⟩:=h.maps.holds i s' ks1 vs1 hi2;by_cases hs:s'=s
     . subst hs;rw[hi2,cg] at e;simp only[pA,Qt] at e;obtain⟨_,rfl,rfl⟩:=V.mp.inj e;exact⟨hm,hown⟩
     . have hne:β s'≠β s:=fun e'=>hs (h.maps.inj _ _ _ _ _ _ _ _ hi2 h0 e')
       exact⟨⟨ents1,clock1,by show(w.heap.setIfInBounds _ _)[_]?=_;rw[hoth _ hne];exact hh,hrd.mono he,q1,q2⟩,q3⟩
   . rw[e] at hi1;cases hi1;exact⟨hm,hown⟩
 . have key:∀{i s':Nat} {ks1 vs1:List V},mS s ks' vs' st.t i= .mp s' ks1 vs1->∃ks2 vs2,st.t i= .mp s' ks2 vs2:=fun {i s' ks1 vs1} hi=>by
    have hi:cR s ks' vs' (st.t i)=_:=hi;rcases dW s ks' vs' (st.t i) with e|⟨⟨k1,v1,e1⟩,e⟩
    . rw[e] at hi;exact⟨_,_,hi⟩
    . rw[e] at hi;cases hi;exact⟨_,_,e1⟩
   obtain⟨_,_,hi'⟩:=key hi;obtain⟨_,_,hj'⟩:=key hj;exact h.maps.inj _ _ _ _ _ _ _ _ hi' hj' e
theorem gu {n:Nat}:∀(es:List V) (cs:List Value),Flat m w cs n es->RdL m w cs (es.flatMap V.cells)
 |[],cs,h=>by have:=h.len;simp at this;subst this;trivial
 | e::es,cs,h=>by
   have hlen:=h.len;simp only[P5,Qs,RP] at hlen;obtain⟨hn,hc⟩:=h.each 0 e rfl;have h1:RdL m w (cs.take n) e.cells:=RdL.of_get (by simp;omega) (fun j v d hv hd=>by
    obtain⟨x,hx,hr⟩:=hc j d hd;rw[P9] at hv;split at hv
    . rw[Q4,Qn] at hx;rw[hx] at hv;cases hv;exact hr
    . cases hv)
   have h2:=gu es (cs.drop n) ⟨by simp;omega,fun i u hu=>⟨(h.each (i+1) u (by simpa using hu)).1,fun j d hd=>by obtain⟨x,hx,hr⟩:=(h.each (i+1) u (by simpa using hu)).2 j d hd;refine⟨x,?_,hr⟩;rw[Qm,<-hx,Qs];congr 1;omega⟩⟩
   rw[Qq,<-Qv n cs];exact h1.append h2
theorem kw (h :Rel E n pm m0 w0 m β st a w) {dst:Option Tmp} (hd:∀k,dst=some k->k<n) {sx sy:Operand} {t t' ty el:TypeId} {st':St} {yv:V} (hsrc:∀i nl sz es tok,yv= .sl nl sz es tok->E.P.info? el=some i->(sz=i.size∨es=[])->∃cs,SrcOf E.P m w t t' el i (a.eval sy) es cs)
 (hg:fq E st dst el (ev E st sx) yv=some st'):∃v w' m' β',(Builtin.append_ #[t,t'] ty #[a.eval sx,a.eval sy]).run E.P w= .ok v w'∧Rel E n pm m0 w0 m' β' st' (a.put dst v) w':=by
 have hx:=aA h sx;obtain⟨ρ,hrw⟩:=h.rows;have hρlt:∀{v:Value} {fh:Nat} {es0:List V} {s:Nat},Bear E w β st (fun i=>a.tmps.getD i Go.undef) v (.sl false fh es0 (some s))->ρ s<w.heap.size:=fun hi=>by obtain⟨_,_,_,_,_,_,hh,_⟩:=hrw.row _ _ _ _ hi;exact al hh
 have hβlt:∀{s:Nat} {cs:List V},st.b s=some cs->β s<w.heap.size:=fun hs=>by obtain⟨⟨_,_,_,_,_,hh,_⟩,_⟩:=h.boxes _ _ hs;exact al hh
 unfold fq at hg;split at hg
 . rename_i d sz by' z hsz hby hz;obtain⟨i,hi,rfl⟩:=oA hsz;have hbi:i.bytes=by':=by simpa[cQ,hi] using hby
   obtain⟨zv,hzv,hzs⟩:=oB hi hz;subst hbi;have hdn:d<n:=hd d rfl;split at hg
   . rename_i fh tok0 nl' sz' es' tok' hA;split at hg
     . rename_i hc;obtain⟨hn0,hzl,hs',hone,hby1,hmax⟩:=hc;cases hg;rw[hA] at hx;obtain⟨k',hk',hkb⟩:∃k',lk tok0 (strip d st.t)=strip k' (strip d st.t)∧ov E tok0 (az E d st.b)=az E k' (az E d st.b):=by
        cases tok0 with
        |none=>exact⟨d,(e7 _ _).symm,(fO _ _ _).symm⟩
        |some k=>exact⟨k,rfl,rfl⟩
       rw[hk',hkb];rcases(hx.rd (by intros;simp)).flat with⟨_,hxv,_⟩|⟨hf,_⟩|⟨_,_,_,_,hf,_⟩
       . rw [hxv];obtain⟨cs,hS⟩:=hsrc i _ _ _ _ rfl hi hs';have hflat:=hS.flat;by_cases he:es'=[]
         . have hE:=hS.nilE he ty;subst he;refine⟨.slice none 0 0,w,m,β,hE,((h.stripped d).stripped k').put (d:=some d) (fun k e=>hd k e) (.of (.nil _ _)) (fun sz es s e=>by cases e) (fun s sz len cs e=>by cases e) (fun s ks vs e=>by cases e)⟩
         . have hpos:0<es'.length:=List.length_pos_iff.2 he;have hrun:=hS.nil he ty zv hzv hpos (by omega) (by omega);have hge:=grownCap_ge w es'.length 0 el;have hext:=Ext.fresh m w (.cells (cs.toArray++Builtin.zeroCells zv.cells (grownCap w es'.length 0 el-es'.length)) el) (some (es'.length*i.size));have hhp:(w.drew.alloc (.cells (cs.toArray++Builtin.zeroCells zv.cells (grownCap w es'.length 0 el-es'.length)) el)).heap[w.heap.size]?=some (.cells (cs.toArray++Builtin.zeroCells zv.cells (grownCap w es'.length 0 el-es'.length)) el):=World.heap_new w.drew _;refine⟨_,_,aw m w.heap.size (some (es'.length*i.size)),β,hrun,?_⟩;have hemp:es'.isEmpty=false:=by simpa using he
           rw[hemp]
           have hg:=h.grown hrw (d:=d) (k:=k') (g':=w.heap.size) (sz:=i.size) (es':=es') hdn hext
            (h.below.drew.alloc h.below.size _) (fun g hg hne=>⟨by rw[Below.heap_alloc w.drew _ g hg];rfl,ae _ _ hne⟩)
            ⟨.inl h.below.size,aa _ _ _,_,_,_,rfl,hhp,hge,by rw[Rj,size_zeroCells];simp only[QC,hflat.len,hzs,hzl];rw[<-Qs];congr 1;omega⟩
            (Rd.of_flat (hflat.mono hext) hhp (fun j x hj=>by rw[Qz (by simpa using aM hj)];simpa using hj) hge (fun fr hf=>by rw[aa] at hf;cases hf;exact PB _) _)
            (fun v0 fh es0 s hi'=>QD (hρlt (Bear.stripped (Bear.stripped (st:=⟨strip d st.t,az E d st.b⟩) hi').1).1)) (fun s cs hs=>QD (hβlt hs)) (fun e c h'=>by have:=al h';omega)
           exact hg
       . cases hf
       . cases hf
     . cases hg
   . rename_i sz es k nl' sz' es' tok' hA;split at hg
     . rename_i hc;obtain⟨hn0,hzl,rfl,hs',hone,hby1,hmax⟩:=hc;cases hg;obtain⟨ix,rfl,hix⟩:=sO hA;have hbx:Bear E w β st (fun i=>a.tmps.getD i Go.undef) (a.tmps.getD ix Go.undef) _:=Bear.slot (tm:=fun i=>a.tmps.getD i Go.undef) hix;obtain⟨hlo,hlim,cap0,cur,tyc,hxv,hh,hcap,hcs⟩:=hrw.row _ _ _ _ hbx;rw[hA] at hx;have hxv':a.eval (.tmp ix)= .slice (some ⟨ρ k,0,none⟩) es.length cap0:=hxv;rw[hxv'] at hx⊢;obtain⟨cs,hS⟩:=hsrc i _ _ _ _ rfl hi hs';have hflat:=hS.flat;rcases(hx.rd (by intros;simp)).flat with⟨hf,_⟩|⟨_,_,hf,_⟩|⟨blk,off,cap1,olds,_,hv1,hfo,hco⟩
       . cases hf
       . cases hf
       . cases hv1;have hco':∀(j:Nat) (x:Value),olds[j]?=some x->cur[j]?=some x:=fun j x hj=>by have:=hco j x hj;rwa [Qn,Box.cell hh] at this
         have hle:olds.length<=cur.size:=by rw[hfo.len,hcs];exact Qo _ hcap
         have htake:cur.toList.take (es.length*i.size)=olds:=by
          apply QI;intro j;rw[P9,<-hfo.len];split
          . rename_i hj;have:=hco' j _ (Io hj);rw[Io hj];simpa using this
          . rename_i hj;rw[Qc (by omega)]
         by_cases hroom:es.length+es'.length<=cap0
         . have hfit:es.length*i.size+cs.length<=cur.size:=by rw[hflat.len,hcs,<-Qs];exact Qo _ hroom
           have hrun:=hS.room ty (ρ k) es.length cap0 cur (.plain tyc) hh (hflat.one hone) hroom hfit;rw[htake] at hrun;have hhp:=setRow_heap w (ρ k) cur (olds++cs++cur.toList.drop (es.length*i.size+cs.length)).toArray tyc (0,0) hh;have hpre:∀(j:Nat) (x:Value),(olds++cs)[j]?=some x->(olds++cs++cur.toList.drop (es.length*i.size+cs.length)).toArray[j]?=some x:=fun j x hj=>by rw[RG,PT (aM hj)];exact hj
           have hext:Ext m w (aw m (ρ k) (some ((es.length+es'.length)*i.size))) (w.setRow (ρ k) (olds++cs++cur.toList.drop (es.length*i.size+cs.length)).toArray):=by
            refine⟨by simp,fun blk off v hb hm hc=>?_,fun blk hb fr hf=>?_,fun blk es c hm hc=>by rw[setRow_other w _ _ _ (fun e=>by rw[e,hlim] at hm;cases hm)];exact hc⟩
            . by_cases hne:blk=ρ k
              . subst hne;have hlt:=hm _ hlim;rw[Box.cell hh] at hc;rw[Box.cell hhp];refine hpre _ _ ?_;rw[PT (by rw[hfo.len];exact hlt),<-htake,P9,PO hlt];simpa using hc
              . rw[cell_setRow_other w _ _ _ hne];exact hc
            . rw[aD] at hf;split at hf
              . rename_i e;subst e;cases hf;exact⟨_,hlim,Qo _ (by omega)⟩
              . exact⟨fr,hf,PB _⟩
           have hsize:(olds++cs++cur.toList.drop (es.length*i.size+cs.length)).toArray.size=cap0*i.size:=by
            have h1:=hfo.len;have h2:(olds++cs++cur.toList.drop (es.length*i.size+cs.length)).length=olds.length+cs.length+(cur.size-(es.length*i.size+cs.length)):=by simp only[PP,Q1,PR]
            show(olds++cs++cur.toList.drop (es.length*i.size+cs.length)).length=_;omega
           have hll:(es++es').length=es.length+es'.length:=PP;refine⟨_,_,aw m (ρ k) (some ((es.length+es'.length)*i.size)),β,hrun,?_⟩;rw[<-hll]
           refine h.grown hrw hdn (g':=ρ k) (by rw[hll];exact hext) (h.below.setRow (hlo.imp id (h.mold.2.2 _)) _) (fun g hg hne=>⟨setRow_other w _ _ _ hne,ae _ _ hne⟩)
            ⟨hlo,by rw[aa],cap0,_,tyc,rfl,hhp,by rw[hll];exact hroom,hsize⟩
            (Rd.of_flat ((hfo.append hflat).mono (by rw[hll];exact hext)) hhp hpre (by rw[hll];exact hroom) (fun fr hf=>by rw[aa] at hf;cases hf;exact PB _) _)
            (fun v0 fh es0 s hi' e=>?_) (fun s cs hs=>hrw.box _ _ _ _ _ _ hbx hs) (fun e c h'=>by rw[hh] at h';cases h')
           obtain⟨h1,h2⟩:=Bear.stripped (st:=⟨strip d st.t,az E d st.b⟩) hi';exact h2 (hrw.sep _ _ _ _ _ _ _ _ (Bear.stripped h1).1 hbx e)
         . have he:es'≠[]:=by intro h0;rw[h0] at hroom;exact hroom hcap
           have hrun:=hS.grow he ty zv ⟨ρ k,0,none⟩ es.length cap0 olds hzv hfo.len (fun j x hj=>by rw[aC];exact hco j x hj) (by omega) (by omega) (growslice_fits (by omega) hby1);have hge:=grownCap_ge w (es.length+es'.length) cap0 el;have hll:(es++es').length=es.length+es'.length:=PP;have hext:=Ext.fresh m w (.cells (olds.toArray++cs.toArray++Builtin.zeroCells zv.cells (grownCap w (es.length+es'.length) cap0 el-(es.length+es'.length))) el) (some ((es++es').length*i.size));have hhp:(w.drew.alloc (.cells (olds.toArray++cs.toArray++Builtin.zeroCells zv.cells (grownCap w (es.length+es'.length) cap0 el-(es.length+es'.length))) el)).heap[w.heap.size]?=some (.cells (olds.toArray++cs.toArray++Builtin.zeroCells zv.cells (grownCap w (es.length+es'.length) cap0 el-(es.length+es'.length))) el):=World.heap_new w.drew _;refine⟨_,_,aw m w.heap.size (some ((es++es').length*i.size)),β,hrun,?_⟩;rw[<-hll] at hge⊢
           refine h.grown hrw hdn (g':=w.heap.size) (by rw[hll];rw[hll] at hext;exact hext) (h.below.drew.alloc h.below.size _) (fun g hg hne=>⟨by rw[Below.heap_alloc w.drew _ g hg];rfl,ae _ _ hne⟩)
            ⟨.inl h.below.size,aa _ _ _,_,_,_,rfl,by rw[hll];exact hhp,hge,by rw[Rj,Rj,size_zeroCells];simp only[QC,hfo.len,hflat.len,hzs,hzl];rw[<-Qs,<-Qs,<-hll];congr 1;omega⟩
            (Rd.of_flat ((hfo.append hflat).mono (by rw[hll];rw[hll] at hext;exact hext)) (by rw[hll];exact hhp) (fun j x hj=>by rw[Qz (by have:=aM hj;simpa using this)];simpa using hj) hge (fun fr hf=>by rw[aa] at hf;cases hf;exact PB _) _)
            (fun v0 fh es0 s hi'=>QD (hρlt (Bear.stripped (Bear.stripped (st:=⟨strip d st.t,az E d st.b⟩) hi').1).1)) (fun s cs hs=>QD (hβlt hs)) (fun e c h'=>by have:=al h';omega)
     . cases hg
   . rename_i s sz len nl' sz' es' tok' hA;split at hg
     . rename_i cs hcs;split at hg
       . rename_i hc;obtain⟨hn0,hzl,rfl,hs',hone,hby1,hmax,hmb⟩:=hc;cases hg;obtain⟨ix,rfl,hix⟩:=lz h hA;obtain⟨hfit,cap0,cur,tyc,hxv,hh,hcs0⟩:=h.own ix s i.size len cs hix hcs;obtain⟨⟨hlim,vals,ty0,xs,rest,hh',hvs,hr⟩,hlo⟩:=h.boxes s cs hcs;rw[hh] at hh';obtain rfl:cur=vals:=by injection hh' with hh';injection hh'
         have hxv':a.eval (.tmp ix)= .slice (some ⟨β s,0,none⟩) len cap0:=hxv;have hcap:len<=cap0:=by obtain⟨cap',hv',hc'⟩:=(hix▸h.tmps ix:Rs m w β (a.tmps.getD ix Go.undef) (.row s i.size len)).row;have hxv:a.tmps.getD ix Go.undef= .slice (some ⟨β s,0,none⟩) len cap0:=hxv;rw[hv'] at hxv;cases hxv;exact hc'
         rw[hxv'];obtain⟨news,hS⟩:=hsrc i _ _ _ _ rfl hi hs';have hflat:=hS.flat;have hxl:=hr.length;have hcl:cur.size=xs.length+rest.length:=by rw[<-PR,hvs,PP]
         have hnl:news.length=es'.length*i.size:=hflat.len;have htk:cur.toList.take (len*i.size)=xs.take (len*i.size):=by rw[hvs,Qy (by omega)]
         have hnew:RdL m w (xs.take (len*i.size)++news) (cs.take (len*i.size)++es'.flatMap V.cells):=(hr.take _).append (gu _ _ hflat);have hnl2:=hnew.length;have hol:(xs.take (len*i.size)).length=len*i.size:=by rw[P8];omega
         have hmul:(len+es'.length)*i.size=len*i.size+es'.length*i.size:=Qs _ _ _;by_cases hroom:len+es'.length<=cap0
         . have hmc:(len+es'.length)*i.size<=cap0*i.size:=Qo _ hroom;have hrun:=hS.room ty (β s) len cap0 cur tyc hh (hflat.one hone) hroom (by omega);rw[htk] at hrun;have hext:Ext m w m (w.setRow (β s) (xs.take (len*i.size)++news++cur.toList.drop (len*i.size+news.length)).toArray):=by
            refine⟨by simp,fun blk off v hb hm hc=>?_,fun blk hb fr hf=>⟨fr,hf,PB _⟩,fun blk es c hm hc=>by rw[setRow_other w _ _ _ (fun e=>by rw[e,hlim] at hm;cases hm)];exact hc⟩;have hne:blk≠β s:=by rintro rfl;have:=hm 0 hlim;omega
            rw[cell_setRow_other w _ _ _ hne];exact hc
           refine⟨_,_,m,aw β d (β s),hrun,?_⟩
           exact h.regrow hrw hdn hmb hcs (g':=β s) (ty':=tyc.to (by simp only[QC,PP,hol,Q1,PR];omega)) (xs':=xs.take (len*i.size)++news) (rest':=cur.toList.drop (len*i.size+news.length)) hext (h.below.setRow hlo _) (fun g hg hne=>⟨setRow_other w _ _ _ hne,rfl⟩) (hlo.imp id fun hx=>⟨hx,hlim⟩) hlim
            (setRow_heap w _ _ _ _ _ hh) (by simp) (hnew.mono hext) (by rw[<-hnl2,PP,hol,hnl,hmul];exact PB _) hroom
            (by simp only[QC,PP,hol,Q1,PR];omega)
            (fun i' fh es0 s' hi' e=>hrw.box _ _ _ _ _ _ hi' hcs e.symm) (fun s' c' hs' hne e=>hne (h.inj _ _ _ _ hs' hcs e)) (fun e c h'=>by rw[hh] at h';cases h')
         . have he:es'≠[]:=by intro h0;rw[h0] at hroom;exact hroom hcap
           have hrun:=hS.grow he ty zv ⟨β s,0,none⟩ len cap0 (xs.take (len*i.size)) hzv hol (fun j x hj=>by rw[aC,Qn,Box.cell hh,<-PN,hvs];have hj':=aM hj;rw[hol] at hj';rw[P9,PO hj'] at hj;rw[PT (by omega)];exact hj) (by omega) (by omega) (growslice_fits (by omega) hby1)
           have hge:=grownCap_ge w (len+es'.length) cap0 el;have hext:=Ext.fresh m w (.cells ((xs.take (len*i.size)).toArray++news.toArray++Builtin.zeroCells zv.cells (grownCap w (len+es'.length) cap0 el-(len+es'.length))) el) (some 0);have hhp:(w.drew.alloc (.cells ((xs.take (len*i.size)).toArray++news.toArray++Builtin.zeroCells zv.cells (grownCap w (len+es'.length) cap0 el-(len+es'.length))) el)).heap[w.heap.size]?=some (.cells ((xs.take (len*i.size)).toArray++news.toArray++Builtin.zeroCells zv.cells (grownCap w (len+es'.length) cap0 el-(len+es'.length))) el):=World.heap_new w.drew _;refine⟨_,_,aw m w.heap.size (some 0),aw β d w.heap.size,hrun,?_⟩
           exact h.regrow hrw hdn hmb hcs (g':=w.heap.size) (ty':= .plain el) (xs':=xs.take (len*i.size)++news) (rest':=(Builtin.zeroCells zv.cells (grownCap w (len+es'.length) cap0 el-(len+es'.length))).toList) hext (h.below.drew.alloc h.below.size _)
            (fun g hg hne=>⟨by rw[Below.heap_alloc w.drew _ g hg];rfl,ae _ _ hne⟩) (.inl h.below.size) (aa _ _ _) hhp (by simp) (hnew.mono hext) (by rw[<-hnl2,PP,hol,hnl,hmul];exact PB _) hge
            (by rw[Rj,Rj,size_zeroCells];simp only[QC,hol,hnl,hzs,hzl];rw[<-Qs,<-Qs];congr 1;omega)
            (fun i' fh es0 s' hi'=>QD (hρlt hi')) (fun s' c' hs' _=>QD (hβlt hs')) (fun e c h'=>by have:=al h';omega)
       . cases hg
     . cases hg
   . cases hg
 . cases hg
theorem pJ (h:Rel E n pm m0 w0 m β st a w) {dst:Option Tmp} (hd:∀k,dst=some k->k<n) {x y:Value} {A B:V} (hx:Rs m w β x A) (hy:Rs m w β y B) {t el:TypeId} {st':St} (hu:E.P.underlying t=some (.slice el))
 (hg:vC E st dst el A B=some st'):∃v w' m',(Instr.makeSlice t x y).run E.P w= .ok v w'∧Rel E n pm m0 w0 m' β st' (a.put dst v) w':=by
 obtain⟨ρ,hrw⟩:=h.rows;have hρlt:∀{v:Value} {fh:Nat} {es0:List V} {s:Nat},Bear E w β st (fun i=>a.tmps.getD i Go.undef) v (.sl false fh es0 (some s))->ρ s<w.heap.size:=fun hi=>by obtain⟨_,_,_,_,_,_,hh,_⟩:=hrw.row _ _ _ _ hi;exact al hh
 have hβlt:∀{s:Nat} {cs:List V},st.b s=some cs->β s<w.heap.size:=fun hs=>by obtain⟨⟨_,_,_,_,_,hh,_⟩,_⟩:=h.boxes _ _ hs;exact al hh
 unfold vC at hg;split at hg
 . rename_i d sz by' z hsz hby hz;obtain⟨i,hi,rfl⟩:=oA hsz;have hbi:i.bytes=by':=by simpa[cQ,hi] using hby
   obtain⟨zv,hzv,hzs⟩:=oB hi hz;subst hbi;have hdn:d<n:=hd d rfl;split at hg
   . rename_i kl l kc c;split at hg
     . rename_i hc;obtain⟨hzl,rfl,hc0,hcb,hcm⟩:=hc;cases hg;obtain rfl:=hx.x;obtain rfl:=hy.x;have hrun:=run_make (P:=E.P) w t el i zv hu hi hzv kl kc 0 c (by omega) hc0 hcb hcm;have hext:=Ext.fresh0 m w (.cells (madeCells zv.cells (c.toNat*i.size)) el) (some 0);have hhp:=World.heap_new w (.cells (madeCells zv.cells (c.toNat*i.size)) el);refine⟨_,_,aw m w.heap.size (some 0),hrun,?_⟩
       have hg:=h.grown hrw (d:=d) (k:=d) (g':=w.heap.size) (sz:=i.size) (es':=[]) (v':= .slice (some ⟨w.heap.size,0,none⟩) 0 c.toNat) hdn hext
        (h.below.alloc h.below.size _) (fun g hg hne=>⟨by rw[Below.heap_alloc w _ g hg],ae _ _ hne⟩)
        ⟨.inl h.below.size,by rw[aa];simp,_,_,_,rfl,hhp,PH _,by rw[size_madeCells]⟩
        (Rd.of_flat (Flat.nil _) hhp (fun j x hj=>by simp at hj) (PH _) (fun fr hf=>by simp) _)
        (fun v0 fh es0 s hi'=>QD (hρlt (Bear.stripped (Bear.stripped (st:=⟨strip d st.t,az E d st.b⟩) hi').1).1)) (fun s cs hs=>QD (hβlt hs)) (fun e c h'=>by have:=al h';omega)
       rw[e7,fO] at hg;exact hg
     . cases hg
   . cases hg
 . cases hg
theorem jN {n:Nat}:∀(parts:List (Nat×V)) (k len:Nat) (cells:List V),parts.map (·.1)=List.range' k parts.length->k+parts.length=len->cells.length=len*n->(∀p∈parts,p.2.dat=true∧p.2.cells.length=n)->
 ja (fun i=>some (i*n,n)) cells parts=some (cells.take (k*n)++parts.flatMap (fun p=>p.2.cells))
 |[],k,len,cells,_,hk,hc,_=>by simp only[Qk,iO] at hk;subst hk;simp only[ja,List.flatMap_nil,QS];rw[<-hc,QL]
 | (i,u)::parts,k,len,cells,hr,hk,hc,hp=>by
   simp only[QU,P5,List.range'_succ,QN] at hr hk;obtain⟨rfl,hr⟩:=hr;obtain⟨hd,hl⟩:=hp (i,u) (by simp);simp only at hd hl;have hle:(i+1)*n<=len*n:=Qo _ (by omega);rw[Qs,RP] at hle;unfold ja;simp only;rw[PS (by simp[hd,hl];omega)];have hcl:(cells.take (i*n)++u.cells++cells.drop (i*n+n)).length=len*n:=by simp only[PP,P8,Q1,hl,hc];omega
   rw[jN parts (i+1) len _ hr (by omega) hcl (fun p hpm=>hp p (by simp[hpm]))];congr 1;have hlen1:(cells.take (i*n)++u.cells).length=(i+1)*n:=by rw[Qs,RP];simp only[PP,P8,hl,hc];omega
   rw[Qy (by omega),<-hlen1,QL];simp
theorem dX {n:Nat}:∀(es:List V) (cs:List Value),(∀e∈es,e.cells.length=n)->RdL m w cs (es.flatMap V.cells)->Flat m w cs n es
 | [],cs,_,h=>by
   cases cs with
   |nil=>exact Flat.nil n
   |cons c cs=>exact h.elim
 | e::es,cs,he,h=>by
   have hn:=he e (by simp);have hlen:=h.length;simp only[Qq,PP,hn] at hlen;have h1:=h.take n;have h2:=h.drop n;rw[Qq,<-hn,List.take_left,hn] at h1;rw[Qq,<-hn,List.drop_left,hn] at h2;have ih:=dX es _ (fun e' h'=>he e' (by simp[h'])) h2;have h0:Flat m w (cs.take n) n [e]:=by
    refine⟨by simp;omega,fun i u hu=>?_⟩;cases i with
    | zero=>
      simp at hu;subst hu;refine⟨hn,fun j d hd=>?_⟩;have hj:=aM hd;have hlt:j<(cs.take n).length:=by simp;omega
      exact⟨(cs.take n)[j],by rw[Q4,Qn];exact Io hlt,h1.get j _ d (Io hlt) hd⟩
    |succ i=>simp at hu
   have:=h0.append ih
   rwa [Qv] at this
theorem zE (cs:List Value):RdL m w cs (List.replicate cs.length .undef):=by
 induction cs with
 |nil=>trivial
 |cons c cs ih=>exact⟨.undef c,ih⟩
variable {parts:List (Nat×V)}
theorem vI {len:Nat} {vs:List (Nat×Value)} (hm:vs.map (·.1)=parts.map (·.1))
 (hv:∀(i:Nat) (x:Nat×Value) (u:Nat×V),vs[i]?=some x->parts[i]?=some u->Rs m w β x.2 u.2) (ht:P.underlying t=some (.slice el)) (hsz:bg P el=some n) (hz:aE P el=some z)
 (hr:parts.map (·.1)=List.range len) (hmax:len*n<=16777216) (hp:(parts.all fun p=>p.2.dat&&decide (p.2.cells.length=n))=true):
 ∃cs':Array Value,(Instr.buildSlice t len vs.toArray).run P w= .ok (.slice (some ⟨w.heap.size,0,none⟩) len len) (w.alloc (.cells cs' el))∧RdL m w cs'.toList (parts.flatMap fun p=>p.2.cells)∧(parts.flatMap fun p=>p.2.cells).length=len*n:=by
 have hp':∀p∈parts,p.2.dat=true∧p.2.cells.length=n:=fun p hpm=>by have:=PJ.1 hp p hpm;simpa using this
 have hlen:parts.length=len:=by simpa using RB List.length hr
 obtain⟨zv,hzr,hzd⟩:=eY (w:=w) (m:=m) hz;let init:Array Value:=(Array.range (len*n)).map (fun j=>(if len*n=0 then (#[]:Array Value) else zv.cells)[j%(if len*n=0 then (#[]:Array Value) else zv.cells).size]!);have hinit:init.toList.length=len*n:=by simp[init]
 have hf:=jN (n:=n) parts 0 len (List.replicate (len*n) .undef) (by rw[hr,List.range_eq_range',hlen]) (by omega) (by simp) hp';simp only[Q4,RI,QX] at hf;obtain⟨cs',hcs',hd⟩:=eX (m:=m) (w:=w) (β:=β) (cs:=init) (by have:=zE (m:=m) (w:=w) init.toList;rwa [hinit] at this) hm hv hf;have hrun:(Instr.buildSlice t len vs.toArray).run P w= .ok (.slice (some ⟨w.heap.size,0,none⟩) len len) (w.alloc (.cells cs' el)):=by
  simp only[Instr.buildSlice,Sem.run_bind,av ht,Result.andThen_ok,bl hsz];rw[PS (by omega)];by_cases h0:len*n=0
  . have hi0:init= #[]:=by apply Rc;rw[<-PR,hinit,h0]
    rw[hi0] at hcs';have e0:∀f:Nat->Value,(Array.range 0).map f= #[]:=fun f=>by apply Qe.1;rw[Sr,Sh];rfl
    simp only[h0,Qt,Sem.run_bind,Sem.run_pure,Result.andThen_ok,e0,hcs',newRow,run_newObj];rfl
  . have:(Array.range (len*n)).map (fun j=>zv.cells[j%zv.cells.size]!)=init:=by simp[init,h0]
    simp only[h0,Qr,Sem.run_bind,hzr,Sem.run_pure,Result.andThen_ok,this,hcs',newRow,run_newObj];rfl
 refine⟨cs',hrun,hd,?_⟩;have key:∀l:List (Nat×V),(∀p∈l,p.2.dat=true∧p.2.cells.length=n)->(l.flatMap fun p=>p.2.cells).length=l.length*n:=by
  intro l
  induction l with
  |nil=>intro _;simp
  |cons p l ih=>intro h;rw[Qq,PP,ih (fun q hq=>h q (by simp[hq])),(h p (by simp)).2,P5,Qs,RP];omega
 rw[key parts hp',hlen]
theorem sQ (h:Rel E n pm m0 w0 m β st a w) {dst:Option Tmp} (hd:∀k,dst=some k->k<n) {t:TypeId} {len:Nat} {parts:List (Nat×V)} {vs:List (Nat×Value)} (hm:vs.map (·.1)=parts.map (·.1))
 (hv:∀(i:Nat) (x:Nat×Value) (u:Nat×V),vs[i]?=some x->parts[i]?=some u->Rs m w β x.2 u.2) {st':St} (hmb:E.okN dst (parts.flatMap fun p=>p.2.cells)=true) (hx:Dw E.P st dst t len parts=some st'):
 ∃v w' m' β',(Instr.buildSlice t len vs.toArray).run E.P w= .ok v w'∧Rel E n pm m0 w0 m' β' st' (a.put dst v) w':=by
 unfold Dw at hx;split at hx
 . rename_i s el ht;split at hx
   . rename_i k z hsz hz;split at hx
     . rename_i hc;obtain⟨hn,hr,hmax,hp⟩:=hc;cases hx;obtain⟨cs',hrun,hrd,hlen⟩:=vI (β:=β) hm hv ht hsz hz hr hmax hp;exact⟨_,_,_,_,hrun,h.newG (hd s rfl) hn hrd hmb (.inr ⟨k,len,rfl,rfl,hlen⟩)⟩
     . cases hx
   . cases hx
 . cases hx
theorem II {ks:List V} (h:u.kv=some (ks,vs)):(∃s,u= .mp s ks vs)∨u= .fm ks vs:=by
 cases u<;>simp only[V.kv] at h<;>try (cases h;done)
 . cases h;exact .inl ⟨_,rfl⟩
 . cases h;exact .inr rfl
theorem mT (z:Array Value) (k n:Nat) (hz:z.size=n) (i j:Nat) (hi:i<k) (hj:j<n):(madeCells z (k*n)).toList[i*n+j]?=z[j]?:=by
 have h1:i*n+j<k*n:=by have:(i+1)*n<=k*n:=Qo n (by omega);rw[Qs] at this;omega
 have h2:(i*n+j)%n=j:=by rw[Nat.add_comm,Nat.add_mul_mod_self_right,Ss hj]
 simp only[madeCells,Sr,PF,Sh];rw[QZ h1];simp only[Qd,hz,h2];rw[Rp z j (by omega),PW (by omega)]
theorem mU {z:Array Value} (hz:z.size=n):∀k:Nat,RdL m w (madeCells z (k*n)).toList (List.replicate k (z.toList.map dy)).flatten:=by
 intro k;have hlen:(List.replicate k (z.toList.map dy)).flatten.length=k*n:=by simp[List.length_flatten,hz]
 refine RdL.of_get (by rw[hlen,PR,size_madeCells]) (fun i v u hv hu=>?_);by_cases hn:n=0
 . subst hn;have:=(PE.1 hu).1;rw[hlen] at this;omega
 have hi:i<k*n:=by rw[<-hlen];exact(PE.1 hu).1
 have hq:i/n<k:=Nat.div_lt_of_lt_mul (by rw[Nat.mul_comm];exact hi);have hr:i%n<n:=Nat.mod_lt _ (by omega);have hd:i/n*n+i%n=i:=by rw[Nat.mul_comm];exact Nat.div_add_mod i n
 have h1:=mT z k n hz (i/n) (i%n) hq hr;rw[hd,hv] at h1;have h2:(List.replicate k (z.toList.map dy)).flatten[i]?=(z.toList.map dy)[i%n]?:=by
  have key:∀(k q:Nat),q<k->(List.replicate k (z.toList.map dy)).flatten[q*n+i%n]?=(z.toList.map dy)[i%n]?:=by
   intro k
   induction k with
   |zero=>intro q hq;omega
   | succ k ih=>
     intro q hq;rw[List.replicate_succ,List.flatten_cons];have hl:(z.toList.map dy).length=n:=by simp[hz]
     cases q with
     |zero=>rw[Q4,Qn,PT (by omega)]
     |succ q=>rw[P6 (by rw[hl,Qs];omega),hl,show(q+1)*n+i%n-n=q*n+i%n by rw[Qs];omega];exact ih q (by omega)
  have:=key k (i/n) hq
  rwa [hd] at this
 rw[hu,PF] at h2;rw[<-PN] at h1;rw[<-h1] at h2;cases h2;exact gt v
theorem pK (h:Rel E n pm m0 w0 m β st a w) {dst:Option Tmp} (hd:∀k,dst=some k->k<n) {x y:Value} {A B:V} (hx:Rs m w β x A) (hy:Rs m w β y B) {t el:TypeId} {st':St} (hu:E.P.underlying t=some (.slice el))
 (hg:vD E st dst el A B=some st'):∃v w' m' β',(Instr.makeSlice t x y).run E.P w= .ok v w'∧Rel E n pm m0 w0 m' β' st' (a.put dst v) w':=by
 unfold vD at hg;split at hg
 . rename_i d sz by' z hsz hby hz;obtain⟨i,hi,rfl⟩:=oA hsz;have hbi:i.bytes=by':=by simpa[cQ,hi] using hby
   obtain⟨zv,hzv,hzs⟩:=oB hi hz;have hze:z=zv.cells.toList.map dy:=by simp only[aE,hi,QQ,hzv,Qd,QW] at hz;exact hz.symm
   subst hbi;split at hg
   . rename_i kl l kc c;split at hg
     . rename_i hc;obtain⟨hn,hzl,rfl,hc0,hcb,hcm,hmb⟩:=hc;cases hg;obtain rfl:=hx.x;obtain rfl:=hy.x;have hrun:=run_make (P:=E.P) w t el i zv hu hi hzv kl kc l l hc0 (Int.le_refl _) hcb hcm;refine⟨_,_,_,_,hrun,h.newG (hd d rfl) hn (by rw[hze];exact mU (by rw[hzs,hzl]) _) hmb (.inr ⟨i.size,l.toNat,rfl,rfl,?_⟩)⟩;rw[List.length_flatten];simp[hzl]
     . cases hg
   . cases hg
 . cases hg
theorem lA:∀l:List UInt8,RdL m w (l.map fun b=>Value.int .u8 b.toNat) (l.map fun b=>V.x (.int .u8 b.toNat))
 |[]=>trivial
 |_::l=>⟨.x _,lA l⟩
theorem pM (w:World) (e:TypeId) (s:ByteArray):Below w.heap.size w (Go.Lib.bytesWorld w e s):=
 ⟨rfl,rfl,rfl,by rw[Go.Lib.bytesWorld_size];exact Nat.le_succ _,fun k hk=>Go.Lib.bytesWorld_at_old w e s k hk⟩
variable {vals:Array Value} {ty:TypeId} {fr:Nat×Nat} {cs:List V}
theorem wI {len cap:Nat} {xs rest:List Value} {l:List UInt8} (hh:w.heap[g]?=some (.cells vals ty fr)) (hx:vals.toList=xs++rest) (hr:RdL m w xs cs) (hfit:len<=cs.length)
 (hl:bytesOf (cs.take len)=some l):(Conv.bytesToString (.slice (some ⟨g,0,none⟩) len cap)).run P w= .ok (.string ⟨l.toArray⟩) w:=by
 obtain⟨hlen,hat⟩:=iD hl;have hxl:=hr.length;rw[P8] at hlen;have hload:=run_loadCells_list (P:=P) w ⟨g,0,none⟩ (xs.take len) (fun j v hj=>by rw[aC,Qn,Box.cell hh,<-PN,hx];have hj':=aM hj;rw[P8] at hj';rw[P9,PO (by omega)] at hj;rw[PT (by omega)];exact hj)
 have h2:=hr.take len;have hn:(xs.take len).length=len:=by rw[P8];omega
 rw[hn] at hload;unfold Conv.bytesToString;simp only[Sem.run_bind,hload,Result.andThen_ok,List.forIn_toArray];rw[nw (cs:=xs.take len) (l:=l) (by intro n r;simp[Sem.run_pure]) ByteArray.empty (by rw[hn];omega) (fun i b hb=>by
  obtain⟨n,hn1,hb1⟩:=hat i b hb;have hi:=aM hn1;rw[P8] at hi;have hlt:i<(xs.take len).length:=by rw[hn];omega
  have:=Rd.x_iff.1 (h2.get i _ _ (Io hlt) hn1);exact⟨n,by rw[Io hlt,this],hb1⟩)]
 simp[Sem.run_pure]
theorem pN (h:Rel E n pm m0 w0 m β st a w) {dst:Option Tmp} (hd:∀k,dst=some k->k<n) {x:Value} {u:V} (hxu:Rs m w β x u) (hown:∀s sz len cs,u= .row s sz len->st.b s=some cs->OwnAt w β x s sz len cs) {t1 t2:TypeId} {st':St} (hx:vE E st dst t1 t2 u=some st'):
 ∃v w' m' β',(convert t1 t2 x).run E.P w= .ok v w'∧Rel E n pm m0 w0 m' β' st' (a.put dst v) w':=by
 unfold vE at hx;split at hx
 . rename_i s b;split at hx
   . rename_i el h1 h2;split at hx
     . rename_i h3;split at hx
       . rename_i hc;cases hx;obtain rfl:=hxu.x;have hge:=grownCap_ge w b.size 0 el;have hbs:b.data.size=b.size:=rfl
         exact⟨_,_,_,_,Go.Lib.run_convert_string_bytes w t1 t2 el b h1 h2 h3,h.newB (hd s rfl) hc.1 (T:=⟨el,_,.inr (PB _)⟩) (xs0:=b.data.toList.map fun b=>Value.int .u8 b.toNat) (rest0:=List.replicate (grownCap w b.size 0 el-b.size) (.int .u8 0)) (pM w el b) (Go.Lib.bytesWorld_at_new w el b)
          (by simp[Go.Lib.bytesCells]) (lA _) (by rw[eq,PR,RX];exact Nat.le_of_eq hbs.symm) hge (by simp[Go.Lib.bytesCells];omega) hc.2⟩
       . cases hx
     . cases hx
   . cases hx
 . rename_i s s' len;split at hx
   . rename_i el cs h1 h2 hcs;split at hx
     . rename_i l h3 hl;cases hx;obtain⟨hfit,cap,cur,ty,rfl,hh,hsz⟩:=hown s' 1 len cs rfl hcs;obtain⟨⟨_,vals,ty0,xs,rest,hh',hvs,hr⟩,_⟩:=h.boxes s' cs hcs;refine⟨_,w,m,β,?_,h.put hd (.of (.x (.string ⟨l.toArray⟩))) (by intros _ _ _ e;cases e) (by intros _ _ _ _ e;cases e) (by intros _ _ _ e;cases e)⟩;rw[run_convert_bytes_string w t1 t2 el _ _ _ h1 h3 h2];exact wI hh' hvs hr (by omega) hl
     . cases hx
   . cases hx
 . cases hx
variable {op:Op}
theorem pO {e:Operand->V} (hm:gp op=false) {s sz len:Nat} (h:aH E op e=some (.row s sz len)):
 ∃t x lo hi el len',∃k:Int,op= .slice t x lo hi none∧E.P.underlying t=some (.slice el)∧e x= .row s sz len'∧cy e 0 lo=some 0∧cy e len' hi=some k∧bg E.P el=some sz∧0<=k∧k<=len'∧len=k.toNat:=by
 cases op with
 |move x=>simp[gp] at hm
 |assign x=>simp[gp] at hm
 |pick c x y=>simp[gp] at hm
 | extract x i=>
   simp only[aH] at h;split at h
   . have:=(en h).2;simp[V.notPtr] at this
   . simp at h
 | field t x f=>
   simp only[aH] at h;split at h
   . obtain⟨fd,_,h⟩:=QG.1 h;have:=(en h).2;simp[V.notPtr] at this
   . simp at h
 | binOp op t x y yt=>
   simp only[aH,sB] at h;exfalso;split at h
   . split at h
     . split at h<;>simp at h
     . split at h<;>simp at h
     . split at h
       . simp only[sw] at h;split at h<;>(try split at h)<;>simp at h
       . simp at h
   . simp only[sA,zs] at h;split at h<;>(try split at h)<;>simp at h
   . split at h<;>simp at h
   . split at h
     . simp at h
     . split at h<;>simp at h
   . split at h<;>(try split at h)<;>simp at h
   . split at h<;>simp at h
   . split at h<;>simp at h
   . split at h<;>simp at h
   . split at h<;>(try split at h)<;>simp at h
   . simp at h
 |unOp op t x=>cases op<;>simp only[aH] at h<;>(try split at h)<;>simp at h
 | slice t x lo hi mx=>
   cases mx with
   |some y=>simp[aH] at h
   | none=>
     simp only[aH] at h;split at h
     . exfalso
       repeat' split at h
       all_goals simp at h
     . exfalso
       repeat' split at h
       all_goals simp at h
     . rename_i el s' sz' len' ht hx;split at h
       . rename_i l k hl hk;split at h
         . rename_i hc;cases h;obtain⟨h1,rfl,h2,h3⟩:=hc;exact⟨t,x,lo,hi,el,len',k,rfl,ht,hx,hl,hk,h1,h2,h3,rfl⟩
         . cases h
       . cases h
     . cases h
 | call c=>
   obtain⟨callee,args,ts⟩:=c;exfalso;cases callee with
   |value f=>simp[aH] at h
   |invoke r s=>simp[aH] at h
   | builtin b=>
     cases b<;>simp only[aH] at h<;>(try (simp at h;done))
     all_goals (repeat' split at h)
     all_goals (first|(simp at h;done)|cases h)
 | _=>
   exfalso;simp only[aH,jL] at h
   repeat' split at h
   all_goals simp at h
theorem sR {e:Operand->V} (hm:gp op=false) {s:Nat} {ks vs:List V} (h:aH E op e=some (.mp s ks vs)):False:=by
 cases op with
 |move x=>simp[gp] at hm
 |assign x=>simp[gp] at hm
 |pick c x y=>simp[gp] at hm
 | extract x i=>
   simp only[aH] at h;split at h
   . have:=(en h).2;simp[V.notPtr] at this
   . simp at h
 | field t x f=>
   simp only[aH] at h;split at h
   . obtain⟨fd,_,h⟩:=QG.1 h;have:=(en h).2;simp[V.notPtr] at this
   . simp at h
 | binOp op t x y yt=>
   simp only[aH,sB] at h;exfalso;split at h
   . split at h
     . split at h<;>simp at h
     . split at h<;>simp at h
     . split at h
       . simp only[sw] at h;split at h<;>(try split at h)<;>simp at h
       . simp at h
   . simp only[sA,zs] at h;split at h<;>(try split at h)<;>simp at h
   . split at h<;>simp at h
   . split at h
     . simp at h
     . split at h<;>simp at h
   . split at h<;>(try split at h)<;>simp at h
   . split at h<;>simp at h
   . split at h<;>simp at h
   . split at h<;>simp at h
   . split at h<;>(try split at h)<;>simp at h
   . simp at h
 |unOp op t x=>cases op<;>simp only[aH] at h<;>(try split at h)<;>simp at h
 | slice t x lo hi mx=>
   cases mx with
   |some y=>simp[aH] at h
   | none=>
     simp only[aH] at h;split at h
     . exfalso
       repeat' split at h
       all_goals simp at h
     . exfalso
       repeat' split at h
       all_goals simp at h
     . exfalso
       repeat' split at h
       all_goals simp at h
     . cases h
 | call c=>
   obtain⟨callee,args,ts⟩:=c;exfalso;cases callee with
   |value f=>simp[aH] at h
   |invoke r s=>simp[aH] at h
   | builtin b=>
     cases b<;>simp only[aH] at h<;>(try (simp at h;done))
     all_goals (repeat' split at h)
     all_goals (first|(simp at h;done)|cases h)
 | _=>
   exfalso;simp only[aH,jL] at h
   repeat' split at h
   all_goals simp at h
theorem wJ (h:Rel E n pm m0 w0 m β st a w) {o:Oper} (hm:gp o.op=false) {s sz len:Nat} (hu:aH E o.op (ev E st)=some (.row s sz len)):
 ∃v,(execOp a.eval o).run E.P w= .ok (.value v) w∧Rs m w β v (.row s sz len)∧∀cs,st.b s=some cs->OwnAt w β v s sz len cs:=by
 obtain⟨t,x,lo,hi,el,len',k,ho,ht,hx,hl,hk,hsz,h0,hke,rfl⟩:=pO hm hu;obtain⟨k,rfl⟩:=Q0 h0;obtain⟨ix,rfl,hix⟩:=lz h hx;obtain⟨cap,hv,hcap⟩:=(hx▸aA h (.tmp ix):Rs m w β (a.eval (.tmp ix)) (.row s sz len')).row;have hb:=eo (m:=m) (w:=w) (β:=β) (P:=E.P) (isS:=true) (len:=len') (cap:=cap) (l:=0) (fun x=>aA h x) hl hk (by omega) (by omega);refine⟨.slice (some ⟨β s,0,none⟩) k cap,?_,.ofRow _ _ (by omega),fun cs hcs=>?_⟩
 . simp only[execOp,ho,Instr.sliceAt,Sem.run_bind,av ht,Result.andThen_ok,Instr.slice,hv,QR,hb,bl hsz,Sem.run_pure];congr 2;cases cap<;>simp[aC]
 . obtain⟨hf,cap',cur,ty,hv',hh,hs⟩:=h.own ix s sz len' cs hix hcs;have hv':a.eval (.tmp ix)= .slice (some ⟨β s,0,none⟩) len' cap':=hv';rw[hv] at hv';cases hv';exact⟨tl (Qo _ (by omega)) hf,cap,cur,ty,rfl,hh,hs⟩
theorem sT {len:Nat} {vs:List (Nat×Value)} (hm:vs.map (·.1)=parts.map (·.1))
 (hv:∀(i:Nat) (x:Nat×Value) (u:Nat×V),vs[i]?=some x->parts[i]?=some u->Rs m w β x.2 u.2) {u:V} (hu:zu P t len parts=some u):
 ∃v w' m',(Instr.buildSlice t len vs.toArray).run P w= .ok v w'∧Rd m' w' v u∧Below w.heap.size w w'∧∀blk,blk<w.heap.size->m' blk=m blk:=by
 unfold zu at hu;split at hu
 . rename_i el ht;split at hu
   . rename_i n z hsz hz;split at hu
     . rename_i hc;obtain⟨hr,hmax,hp⟩:=hc;cases hu;have hp':∀p∈parts,p.2.dat=true∧p.2.cells.length=n:=fun p hpm=>by have:=PJ.1 hp p hpm;simpa using this
       have hlen:parts.length=len:=by simpa using RB List.length hr
       obtain⟨zv,hzr,hzd⟩:=eY (w:=w) (m:=m) hz;let init:Array Value:=(Array.range (len*n)).map (fun j=>(if len*n=0 then (#[]:Array Value) else zv.cells)[j%(if len*n=0 then (#[]:Array Value) else zv.cells).size]!);have hinit:init.toList.length=len*n:=by simp[init]
       have hf:=jN (n:=n) parts 0 len (List.replicate (len*n) .undef) (by rw[hr,List.range_eq_range',hlen]) (by omega) (by simp) hp';simp only[Q4,RI,QX] at hf;obtain⟨cs',hcs',hd⟩:=eX (m:=m) (w:=w) (β:=β) (cs:=init) (by have:=zE (m:=m) (w:=w) init.toList;rwa [hinit] at this) hm hv hf;have hfl:Flat m w cs'.toList n (parts.map (·.2)):=dX _ _ (fun e he=>by obtain⟨p,hpm,rfl⟩:=Qi.1 he;exact(hp' p hpm).2) (by rw[List.flatMap_map];exact hd)
       have hrun:(Instr.buildSlice t len vs.toArray).run P w= .ok (.slice (some ⟨w.heap.size,0,none⟩) len len) (w.alloc (.cells cs' el)):=by
        simp only[Instr.buildSlice,Sem.run_bind,av ht,Result.andThen_ok,bl hsz];rw[PS (by omega)];by_cases h0:len*n=0
        . have hi0:init= #[]:=by apply Rc;rw[<-PR,hinit,h0]
          rw[hi0] at hcs';have e0:∀f:Nat->Value,(Array.range 0).map f= #[]:=fun f=>by apply Qe.1;rw[Sr,Sh];rfl
          simp only[h0,Qt,Sem.run_bind,Sem.run_pure,Result.andThen_ok,e0,hcs',newRow,run_newObj];rfl
        . have:(Array.range (len*n)).map (fun j=>zv.cells[j%zv.cells.size]!)=init:=by simp[init,h0]
          simp only[h0,Qr,Sem.run_bind,hzr,Sem.run_pure,Result.andThen_ok,this,hcs',newRow,run_newObj];rfl
       refine⟨_,_,aw m w.heap.size none,hrun,?_,(Below.refl _ _).alloc (PB _) _,fun blk hb=>ae _ _ (QD hb)⟩;have:=Rd.of_flat (hfl.mono (Ext.fresh0 m w (.cells cs' el) none)) (World.heap_new w _) (fun j x hj=>by simpa using hj) (cap:=len) (by simp[hlen]) (fun fr hf=>by rw[aa] at hf;cases hf) none
       rwa [eq,hlen] at this
     . cases hu
   . cases hu
 . cases hu
theorem Rd.not_bx (h:Rd m w v (.bx cs)):False:=by cases h
variable {l:List V}
theorem jO (hn:∀s,u≠ .ptr s 0):a8 (u::l)=a8 l:=by
 cases u with
 | ptr s off=>cases off with
   |zero=>exact absurd rfl (hn s)
   |succ off=>rfl
 |_=>rfl
theorem Rd.remark (h:Rd m w v (.sl nl sz es (some k))) (d:Nat):Rd m w v (.sl nl sz es (some d)):=by
 cases h with
 |nil sz tok=>exact .nil _ _
 |sl blk off cap _ _ _ c hb hcap hsz hc hm hr=>exact .sl blk off cap sz es _ c hb hcap hsz hc hm hr
theorem jP (hn:∀nl sz es k,u≠ .sl nl sz es (some k)):aY (u::l)=aY l:=by
 cases u with
 | sl nl sz es tok=>cases tok with
   |none=>rfl
   |some k=>exact absurd rfl (hn _ _ _ k)
 |_=>rfl
theorem je (hn:∀s ks vs,u≠ .mp s ks vs):cN (u::l)=cN l:=by cases u<;>first|rfl|exact absurd rfl (hn _ _ _)
theorem DB (h:Rs m w β v u.bare) (hno:∀s ks vs,u≠ .mp s ks vs) (hd:u.bare.datP=true):u.bare.dat=true:=by
 unfold V.datP at hd;split at hd
 . rename_i cs e;rw[e] at h;rcases h with h|⟨_,_,h,_⟩|⟨_,_,_,_,h,_⟩|⟨_,_,_,h,_⟩
   . exact h.not_bx.elim
   . cases h
   . cases h
   . cases h
 . rename_i nl sz es k e;rw[aX] at e;cases u<;>cases e
 . rename_i e;rw[aX] at e;cases u<;>first|exact absurd rfl (hno _ _ _)|cases e
 . exact hd
theorem sU (h:Rel E n pm m0 w0 m β st a w) {ρ:Nat->Nat} (hrw:Rows E m pm w0 w β st (fun i=>a.tmps.getD i Go.undef) ρ) (hK:E.K<=w0.heap.size):∀(l:List Operand),((l.map (ev E st)).map (eM st.b)).all V.datP=true->(aY (l.map (ev E st))).Nodup->
 ∃ gs,ArgsP m w E.K (l.map a.eval) ((l.map (ev E st)).map (eM st.b)) ((a8 (l.map (ev E st))).map β) gs ((cN (l.map (ev E st))).map β)∧(∀s∈a8 (l.map (ev E st)),∃cs,st.b s=some cs)∧gs.Nodup∧
   ∀g∈gs,∃k∈aY (l.map (ev E st)),∃v sz es,Bear E w β st (fun i=>a.tmps.getD i Go.undef) v (.sl false sz es (some k))∧g=ρ k
 |[],_,_=>⟨[],.nil,by simp[a8],Q3,fun g hg=>by cases hg⟩
 | x :: l, hd,hn=>by
   simp only[QU,Rf,PG] at hd hn⊢;have hx:=aA h x;have htok:∀sz es k,ev E st x= .sl false sz es (some k)->Bear E w β st (fun i=>a.tmps.getD i Go.undef) (a.eval x) (.sl false sz es (some k)):=fun sz es k e=>by obtain⟨i,rfl,hi⟩:=sO e;exact .inl ⟨i,hi,rfl⟩
   have hmp:∀s ks vs,ev E st x= .mp s ks vs->∃i,x= .tmp i∧st.t i= .mp s ks vs:=fun s ks vs e=>nB h e
   have h1:=hd.1;have hn1:(aY (l.map (ev E st))).Nodup:=by
    generalize ev E st x=u at hn;cases u with
    | sl nl sz es tok=>cases tok with
      |none=>exact hn
      |some k=>exact(QF.1 hn).2
    |_=>exact hn
   obtain⟨gs,ih,ihd,ihn,ihm⟩:=sU h hrw hK l hd.2 hn1;generalize ev E st x=u at hx h1 hn htok hmp⊢
   have plain:(∀s,u≠ .ptr s 0)->(∀nl sz es k,u≠ .sl nl sz es (some k))->(∀s ks vs,u≠ .mp s ks vs)->eM st.b u=u.bare->∃gs,ArgsP m w E.K (a.eval x::l.map a.eval) (eM st.b u::(l.map (ev E st)).map (eM st.b)) ((a8 (u::l.map (ev E st))).map β) gs ((cN (u::l.map (ev E st))).map β)∧(∀s∈a8 (u::l.map (ev E st)),∃cs,st.b s=some cs)∧gs.Nodup∧
    ∀g∈gs,∃k∈aY (u::l.map (ev E st)),∃v sz es,Bear E w β st (fun i=>a.tmps.getD i Go.undef) v (.sl false sz es (some k))∧g=ρ k:=fun hn2 hm2 hm3 e1=>by
    rw[jO hn2,jP hm2,je hm3,e1];rw[e1] at h1;have hdd:=DB hx.bare hm3 h1;exact⟨gs,.dat (hx.bare.dat hdd) hdd ih,ihd,ihn,ihm⟩
   have keep:∀(k:Nat),(∀g∈gs,∃k∈aY (l.map (ev E st)),∃v sz es,Bear E w β st (fun i=>a.tmps.getD i Go.undef) v (.sl false sz es (some k))∧g=ρ k)->∀g∈gs,∃k'∈k::aY (l.map (ev E st)),∃v sz es,Bear E w β st (fun i=>a.tmps.getD i Go.undef) v (.sl false sz es (some k'))∧g=ρ k':=
    fun k hm g hg=>by obtain⟨k',h2,h3⟩:=hm g hg;exact⟨k',P4 _ h2,h3⟩
   cases u with
   | ptr s off=>
     cases off with
     |succ off=>exact plain (fun s e=>by cases e) (fun nl sz es k e=>by cases e) (fun s ks vs e=>by cases e) rfl
     | zero=>
       simp only[eM] at h1⊢;cases hs:st.b s with
       |none=>rw[hs] at h1;cases h1
       | some cs=>
         obtain⟨hbx,hge⟩:=h.boxes s cs hs;rw[hx.ptr];refine⟨gs,.bx hbx ?_ ih,fun s' hs'=>?_,ihn,ihm⟩
         . rcases hge with hge|hge
           . exact tl hK hge
           . exact h.par.2.2 _ hge
         . simp only[a8,PY] at hs';rcases hs' with rfl|hs'
           . exact⟨cs,hs⟩
           . exact ihd s' hs'
   | sl nl sz es tok=>
     have hrd:=hx.rd rfl;cases nl with
     | true=>
       rcases hrd.flat with⟨_,hxv,_⟩|⟨hf,_⟩|⟨_,_,_,_,hf,_⟩
       . rw[hxv];cases tok with
         |none=>exact⟨gs,.no ih,ihd,ihn,ihm⟩
         |some k=>exact⟨gs,.no ih,ihd,ihn,keep k ihm⟩
       . cases hf
       . cases hf
     | false=>
       cases tok with
       |none=>exact plain (fun s e=>by cases e) (fun nl sz es k e=>by cases e) (fun s ks vs e=>by cases e) (i7 _ _ _ _).symm
       | some k=>
         have hb:=htok sz es k rfl;obtain⟨lo,lim,is⟩:=hrw.row _ _ _ _ hb;have hkn:=QF.1 (show(k::aY (l.map (ev E st))).Nodup from hn);have hrd0:Rd m w (a.eval x) (.sl false sz es (some 0)):=hrd.remark 0;refine⟨ρ k::gs,.row hrd0 ⟨lim,is⟩ ?_ ih,ihd,QF.2 ⟨fun hm2=>?_,ihn⟩,fun g hg=>?_⟩
         . rcases lo with lo|lo
           . exact tl hK lo
           . exact h.par.2.2 _ (h.mold.2.2 _ lo)
         . obtain⟨k',hk1,v',sz',es',hb',he⟩:=ihm _ hm2;exact hkn.1 (hrw.sep _ _ _ _ _ _ _ _ hb hb' he▸hk1)
         . rcases PY.1 hg with rfl|hg
           . exact⟨k,by simp[aY],_,_,_,hb,rfl⟩
           . exact keep k ihm g hg
   | mp s ks vs=>
     obtain⟨i,rfl,hi⟩:=hmp s ks vs rfl;obtain⟨h2,hge⟩:=h.maps.holds i s ks vs hi;rw[hx.mp];refine⟨gs,.mp h2 ?_ ih,ihd,ihn,ihm⟩;rcases hge with hge|hge
     . exact tl hK hge
     . exact h.par.2.2 _ hge
   |_=>exact plain (fun s e=>by cases e) (fun nl sz es k e=>by cases e) (fun s ks vs e=>by cases e) rfl
theorem oC (h:Rel E n pm m0 w0 m β st a w):∀(l:List Operand),∀s∈cN (l.map (ev E st)),∃i ks vs,st.t i= .mp s ks vs
 |[],s,hs=>by cases hs
 | x ::l,s,hs=>by
   have hmp:∀s ks vs,ev E st x= .mp s ks vs->∃i,x= .tmp i∧st.t i= .mp s ks vs:=fun s ks vs e=>nB h e
   simp only[QU] at hs;generalize ev E st x=u at hs hmp;cases u with
   | mp s' ks vs=>
     rcases PY.1 (show s∈s'::cN (l.map (ev E st)) from hs) with rfl|hs
     . obtain⟨i,_,hi⟩:=hmp _ _ _ rfl;exact⟨i,ks,vs,hi⟩
     . exact oC h l s hs
   |_=>exact oC h l s (by rwa [je (fun _ _ _ e=>by cases e)] at hs)
theorem lB (h:Rel E n pm m0 w0 m β st a w):∀{ss:List Nat},ss.Nodup->(∀s∈ss,∃i ks vs,st.t i= .mp s ks vs)->(ss.map β).Nodup
 |[],_,_=>Q3
 |s::ss,hn,hd=>by rw[QF] at hn;rw[QU,QF];refine⟨fun hm=>?_,lB h hn.2 (fun s' hs'=>hd s' (by simp[hs']))⟩;obtain⟨s',h1,h2⟩:=Qi.1 hm;obtain⟨i,_,_,hc⟩:=hd s (by simp);obtain⟨j,_,_,hc'⟩:=hd s' (by simp[h1]);exact hn.1 (h.maps.inj _ _ _ _ _ _ _ _ hc' hc h2▸h1)
theorem wK {ks:List Nat} {t:Nat->V} {i:Nat} {k v:List V}:stripL ks t i= .mp s k v↔t i= .mp s k v:=by
 induction ks with
 |nil=>exact Iff.rfl
 | cons q ks ih=>
   rw[<-ih];show bT q (stripL ks t i)=_↔_;rw[aR];generalize stripL ks t i=u;cases u with
   |sl nl sz es tok=>cases tok<;>simp[fL]
   |_=>exact Iff.rfl
theorem lC:∀{ms:List Nat} {rest:List (List V)} {t t':Nat->V},nx t ms rest=some t'->∀i,(t' i=t i∧∀s ks vs,t i= .mp s ks vs->s∉ms)∨
 ∃(j s:Nat) (ks vs:List V),ms[j]?=some s∧(∃k,rest[j]?=some [.mp k ks vs])∧(∃ks0 vs0,t i= .mp s ks0 vs0)∧t' i= .mp s ks vs
 |[],[],t,t',h,i=>by cases h;exact .inl ⟨rfl,fun _ _ _ _=>by simp⟩
 |[],_::_,t,t',h,i=>by cases h
 |s::ms,[],t,t',h,i=>by cases h
 | s ::ms,c::rest,t,t',h,i=>by
   have hc:∃k ks vs,c=[.mp k ks vs]:=by
    unfold nx at h;split at h
    . rename_i e _;cases e
    . rename_i k ks vs cs _ e;exact⟨k,ks,vs,(Sv e).1⟩
    . cases h
   obtain⟨k,ks,vs,rfl⟩:=hc;have h:nx (mS s ks vs t) ms rest=some t':=h;rcases lC h i with⟨h1,h2⟩|⟨j,s',ks',vs',h1,h2,⟨k0,v0,h3⟩,h4⟩
   . by_cases hs:∃ks0 vs0,t i= .mp s ks0 vs0
     . obtain⟨ks0,vs0,h5⟩:=hs;refine .inr ⟨0,s,ks,vs,rfl,⟨k,rfl⟩,⟨ks0,vs0,h5⟩,?_⟩;rw[h1];show cR s ks vs (t i)=_;rw[h5,cg];exact PO rfl
     . rcases dW s ks vs (t i) with e|⟨e,_⟩
       . have e:mS s ks vs t i=t i:=e;rw[e] at h1 h2;refine .inl ⟨h1,fun s' ks' vs' h5 hm=>?_⟩;rcases PY.1 hm with rfl|hm
         . exact hs ⟨_,_,h5⟩
         . exact h2 _ _ _ h5 hm
       . exact absurd e hs
   . refine .inr ⟨j+1,s',ks',vs',by simpa using h1,by simpa using h2,?_,h4⟩;have h3:cR s ks vs (t i)=_:=h3;rcases dW s ks vs (t i) with e|⟨⟨k1,v1,e1⟩,e⟩
     . exact⟨_,_,e▸h3⟩
     . rw[e] at h3;cases h3;exact⟨_,_,e1⟩
theorem nC (h:Rel E n pm m0 w0 m β st a w):∀{ss:List Nat},ss.Nodup->(∀s∈ss,∃cs,st.b s=some cs)->(ss.map β).Nodup
 |[],_,_=>Q3
 |s::ss,hn,hd=>by rw[QF] at hn;rw[QU,QF];refine⟨fun hm=>?_,nC h hn.2 (fun s' hs'=>hd s' (by simp[hs']))⟩;obtain⟨s',h1,h2⟩:=Qi.1 hm;obtain⟨c,hc⟩:=hd s (by simp);obtain⟨c',hc'⟩:=hd s' (by simp[h1]);exact hn.1 (h.inj _ _ _ _ hc' hc h2▸h1)
theorem wL (h:Rel E n pm m0 w0 m β st a w) {s0 off:Nat} {cs:List V} (hcs:st.b s0=some cs) (hM:E.MB s0=true) {p:Value} (hp:p= .pointer (some ⟨β s0,off,none⟩)) {t:TypeId} {v:Value} {sz:Nat} {es:List V} {s:Nat}
 (hu:(match E.MB s0,aW E.P t with
  |true,some true=>cM E.P t (cs.map V.pc) off
  |_,_=>cM E.P t cs off)=some (.sl false sz es (some s))) (hr:(Instr.loadAt t p).run E.P w= .ok v w):Bear E w β st (fun i=>a.tmps.getD i Go.undef) v (.sl false sz es (some s)):=by
 rw[hM] at hu;unfold cM at hu;cases ha:aW E.P t with
 |none=>simp[ha] at hu
 | some b=>
   cases hs:bg E.P t with
   |none=>cases b<;>simp[ha,hs] at hu
   | some k=>
     cases b with
     |true=>simp only[ha,hs] at hu;split at hu<;>cases hu
     | false=>
       simp only[ha,hs] at hu;refine .inr ⟨s0,cs,off,hM,hcs,hu,?_⟩;obtain⟨⟨_,vals,ty,xs,rest,hh,hvs,hrl⟩,_⟩:=h.boxes _ _ hcs;have hlt:=aM hu;rw[<-hrl.length] at hlt;have hcell:w.cell? ⟨β s0,off,none⟩=some xs[off]:=by rw[Box.cell hh,<-PN,hvs,PT hlt];exact Io hlt
       subst hp;simp only[Instr.loadAt,Instr.sureAddr,loadVar,Sem.run_bind,Sem.run_pure,Result.andThen_ok,gr ha,P7,Qr,run_load,hcell] at hr;cases hr;exact hcell
theorem Rel.strippedL (h:Rel E n pm m0 w0 m β st a w) {ρ:Nat->Nat} (hrw:Rows E m pm w0 w β st (fun i=>a.tmps.getD i Go.undef) ρ):∀ks:List Nat,
 Rel E n pm m0 w0 m β ⟨stripL ks st.t,dp E ks st.b⟩ a w∧Rows E m pm w0 w β ⟨stripL ks st.t,dp E ks st.b⟩ (fun i=>a.tmps.getD i Go.undef) ρ∧
  (∀v sz es s,Bear E w β ⟨stripL ks st.t,dp E ks st.b⟩ (fun i=>a.tmps.getD i Go.undef) v (.sl false sz es (some s))->Bear E w β st (fun i=>a.tmps.getD i Go.undef) v (.sl false sz es (some s))∧s∉ks)∧
  ∀s,(∃cs,dp E ks st.b s=some cs)↔∃cs,st.b s=some cs
 |[]=>⟨h,hrw,fun v sz es s hi=>⟨hi,by simp⟩,fun s=>Iff.rfl⟩
 | k ::ks=>by
   obtain⟨h1,h2,h3,h4⟩:=h.strippedL hrw ks;have hB:∀v sz es s,Bear E w β ⟨strip k (stripL ks st.t),az E k (dp E ks st.b)⟩ (fun i=>a.tmps.getD i Go.undef) v (.sl false sz es (some s))->Bear E w β ⟨stripL ks st.t,dp E ks st.b⟩ (fun i=>a.tmps.getD i Go.undef) v (.sl false sz es (some s))∧s≠k:=fun v sz es s hi=>hi.stripped (st:=⟨stripL ks st.t,dp E ks st.b⟩)
   refine⟨h1.stripped k,h2.to (fun v sz es s hi=>(hB v sz es s hi).1) (fun _ _ _ _ _=>⟨rfl,rfl⟩) (fun v sz es s k' c hi hk=>?_),fun v sz es s hi=>?_,fun s=>?_⟩
   . obtain⟨_,hc,_⟩:=cZ hk;exact h2.box _ _ _ _ _ _ hi hc
   . obtain⟨q1,q2⟩:=hB v sz es s hi;obtain⟨q3,q4⟩:=h3 v sz es s q1;exact⟨q3,by simp[q2,q4]⟩
   . rw[<-h4 s];constructor
     . rintro⟨cs,hs⟩;obtain⟨c,hc,_⟩:=cZ hs;exact⟨c,hc⟩
     . rintro⟨cs,hs⟩;obtain⟨c,hc,_⟩:=wH (E:=E) (k:=k) hs;exact⟨c,hc⟩
theorem EnvX.res (_hE:EnvX E pm) {d:Option Tmp} (hd:∀k,d=some k->k<n) {r:V} {v:Value} (hv:Rd m w v r) (h:Rel E n pm m0 w0 m β st a w) {ρ:Nat->Nat} (hrw:Rows E m pm w0 w β st (fun i=>a.tmps.getD i Go.undef) ρ)
 (ho:∀sz es k,r= .sl false sz es (some k)->∃g,RowIs m w v g sz es.length∧(w0.heap.size<=g∨g∈pm.Y)∧(∀v sz es s,Bear E w β st (fun i=>a.tmps.getD i Go.undef) v (.sl false sz es (some s))->ρ s≠g)∧∀s cs,st.b s=some cs->β s≠g)
 {K:Act->World->Prop} (hK:∀a' w' m' β',Rel E n pm m0 w0 m' β' (ig E st d r) a' w'->K a' w'):K (a.put d v) w:=by
 have plain:ig E st d r=st.put d r.bare->K (a.put d v) w:=fun e=>by refine hK _ _ m β ?_;rw[e];exact h.put hd (.of hv.bare) (dV _) (fun s sz len cs e=>by have e:r.bare=_:=e;exact(e▸hv.bare).not_row.elim) (fun s ks vs e=>by have e:r.bare=_:=e;exact(e▸hv.bare).not_mp.elim)
 cases d with
 |none=>exact plain (by unfold ig;rfl)
 | some d =>
   cases r with
   | sl nl sz es tok=>
     cases tok with
     |none=>exact plain rfl
     | some k=>
       refine hK _ _ m β ?_;show Rel E n pm m0 w0 m β ⟨aw (strip d st.t) d (.sl nl sz es (some d)),az E d st.b⟩ (a.put (some d) v) w;have hrd:Rd m w v (.sl nl sz es (some d)):=hv.remark d;cases nl with
       |true=>exact(h.stripped d).put (d:=some d) hd (.of hrd) (fun sz es s e=>by cases e) (fun s sz len cs e=>by cases e) (fun s ks vs e=>by cases e)
       | false=>
         obtain⟨g,⟨hl,his⟩,hlo,hf,hbx⟩:=ho sz es k rfl
         have hg:=h.grown hrw (d:=d) (k:=d) (g':=g) (sz:=sz) (es':=es) (hd d rfl) (Ext.refl m w) h.below (fun _ _ _=>⟨rfl,rfl⟩) ⟨hlo,hl,his⟩ hrd
          (fun v0 fh es0 s hi'=>hf _ _ _ _ (Bear.stripped (Bear.stripped (st:=⟨strip d st.t,az E d st.b⟩) hi').1).1) hbx (fun e c h'=>by obtain⟨_,_,_,_,hh,_⟩:=his;rw[hh] at h';cases h')
         rw[e7,fO] at hg;exact hg
   |_=>exact plain rfl
theorem sV (hE:EnvX E pm) (h:Rel E n pm m0 w0 m β st a w) {dst:Option Tmp} (hd:∀k,dst=some k->k<n) {t:TypeId} {len:Nat} {parts:List (Nat×V)} {vs:List (Nat×Value)} (hm:vs.map (·.1)=parts.map (·.1))
 (hv:∀(i:Nat) (x:Nat×Value) (u:Nat×V),vs[i]?=some x->parts[i]?=some u->Rs m w β x.2 u.2) {st':St} (hx:Dx E st dst t len parts=some st') {K:Act->World->Prop} (hK:∀a' w' m' β',Rel E n pm m0 w0 m' β' st' a' w'->K a' w'):
 ∃v w',(Instr.buildSlice t len vs.toArray).run E.P w= .ok v w'∧K (a.put dst v) w':=by
 unfold Dx at hx;split at hx
 case h_2=>cases hx
 rename_i d el ht;split at hx
 case h_2=>cases hx
 rename_i k z hsz hz;split at hx
 case isFalse=>cases hx
 rename_i hc;cases hx;obtain⟨hr,hmax,hp⟩:=hc;obtain⟨cs',hrun,hrd,hlen⟩:=vI (m:=m) (w:=w) (β:=β) hm hv ht hsz hz hr hmax hp;obtain⟨ρ,hrw⟩:=h.rows;have hul:parts.length=len:=by have:=RB List.length hr;simpa using this
 have hp':∀p∈parts,p.2.dat=true∧p.2.cells.length=k:=fun p hpm=>by have:=PJ.1 hp p hpm;simpa using this
 refine⟨_,_,hrun,?_⟩;have hb:Below w.heap.size w (w.alloc (.cells cs' el)):=(Below.refl _ w).alloc (PB _) _;have hmm:∀blk,blk<w.heap.size->(aw m w.heap.size (some (len*k))) blk=m blk:=fun blk hb=>ae _ _ (QD hb)
 have hc:=h.call hb hmm;have hnew:(w.alloc (.cells cs' el)).heap[w.heap.size]?=some (.cells cs' el (0,0)):=World.heap_new w _;have hbox:∀s cs,st.b s=some cs->β s<w.heap.size:=fun s cs hs=>by obtain⟨⟨_,_,_,_,_,hh,_⟩,_⟩:=h.boxes s cs hs;exact al hh
 have hB:∀v sz es s,Bear E (w.alloc (.cells cs' el)) β st (fun i=>a.tmps.getD i Go.undef) v (.sl false sz es (some s))->Bear E w β st (fun i=>a.tmps.getD i Go.undef) v (.sl false sz es (some s)):=fun v sz es s hi=>
  hi.from (fun i hi=> .inl ⟨i,hi,rfl⟩) (fun k cs j h1 h2 h3 h4=>by rw[aT (hb.block _ (hbox k cs h2))] at h4;exact .inr ⟨k,cs,j,h1,h2,h3,h4⟩)
 have hrl:∀v sz es s,Bear E w β st (fun i=>a.tmps.getD i Go.undef) v (.sl false sz es (some s))->ρ s<w.heap.size:=fun v sz es s hi=>by obtain⟨_,_,_,_,_,_,hh,_⟩:=hrw.row _ _ _ _ hi;exact al hh
 have hrw':=hrw.to (m':=aw m w.heap.size (some (len*k))) hB (fun v sz es s hi=>⟨hb.block _ (hrl _ _ _ _ hi),hmm _ (hrl _ _ _ _ hi)⟩) (fun v sz es s k cs hi hk=>hrw.box _ _ _ _ _ _ hi hk);have hfl:Flat m w cs'.toList k (parts.map (·.2)):=dX _ _ (fun e he=>by obtain⟨p,hpm,rfl⟩:=Qi.1 he;exact(hp' p hpm).2) (by rw[List.flatMap_map];exact hrd)
 have hv':Rd (aw m w.heap.size (some (len*k))) (w.alloc (.cells cs' el)) (.slice (some ⟨w.heap.size,0,none⟩) len len) (.sl false k (parts.map (·.2)) (some 0)):=by
  have:=Rd.of_flat (hfl.mono (Ext.fresh0 m w (.cells cs' el) (some (len*k)))) hnew (fun j x hj=>by simpa using hj) (cap:=len) (by rw[eq,hul];exact PB _) (fun fr hf=>by rw[aa] at hf;cases hf;rw[eq,hul];exact PB _) (some 0)
  rwa [eq,hul] at this
 have hcs:cs'.size=len*k:=by have h1:=hrd.length;rw[hlen] at h1;simpa using h1
 refine EnvX.res hE (d:=some d) hd hv' hc hrw' (fun sz es j e=>?_) hK;cases e;refine⟨w.heap.size,⟨by rw[eq,hul];exact aa _ _ _,len,cs',el,by rw[eq,hul],hnew,by rw[eq,hul];exact PB _,hcs⟩,.inl h.below.size,fun v sz es s hi e=>?_,fun s cs hs e=>?_⟩
 . have:=hrl _ _ _ _ (hB _ _ _ _ hi);omega
 . have:=hbox s cs hs;omega
theorem pP (h:dF P t u=true):u.nm=none:=by simp only[dF,PG] at h;cases u<;>first|rfl|(simp[plainK] at h)
theorem zF {m k:V} {ok:Bool} (h:ed P t m k ok=some u):k.nm=none:=by
 unfold ed at h;split at h
 . split at h
   . rename_i hk;exact pP hk
   . cases h
 . cases h
theorem ky (hE:EnvX E pm) (h:Rel E n pm m0 w0 m β st a w) {dst:Option Tmp} (hd:∀k,dst=some k->k<n) {ρ:Nat->Nat} (hrw:Rows E m pm w0 w β st (fun i=>a.tmps.getD i Go.undef) ρ) {F:List V->Option (V×List (List V))} {us:List V} {st':St} (hx:callP E st dst F us=some st') {gs:List Nat}
 (hdom:∀s∈a8 us,∃cs,st.b s=some cs) (hgn:gs.Nodup) (hgm:∀g∈gs,∃k∈aY us,∃v sz es,Bear E w β st (fun i=>a.tmps.getD i Go.undef) v (.sl false sz es (some k))∧g=ρ k) (hdomM:∀s∈cN us,∃i ks vs,st.t i= .mp s ks vs)
 {K :Act->World->Prop} (hK:∀a' w' m' β',Rel E n pm m0 w0 m' β' st' a' w'->K a' w'):∃r outs,F (us.map (eM st.b))=some (r,outs)∧((a8 us).map β++gs).Nodup∧((cN us).map β).Nodup∧
  ∀ v w' m',Rd m' w' v r->Bel ((a8 us).map β++(gs++(cN us).map β)) w w'->Ext m w m' w'->(∀blk,blk<w.heap.size->blk∉gs->m' blk=m blk)->(∃o1 o2,outs=o1++o2∧OutsP m' w' ((a8 us).map β) o1∧OutsM m' w' ((cN us).map β) o2)->
    (∀sz es k,r= .sl false sz es (some k)->∃g,RowIs m' w' v g sz es.length∧(w.heap.size<=g∨g∈gs))->K (a.put dst v) w':=by
 unfold callP at hx;split at hx
 . rename_i hcond;split at hx
   . rename_i r outs hr;split at hx
     . rename_i b' rest hnp hput;split at hx
       case h_2=>cases hx
       rename_i t' hmbS hputM;cases hx;obtain⟨hd1,hd2,hd3,hd5⟩:=hcond;have hbg:∀s cs,st.b s=some cs->β s∉gs:=fun s cs hs hm2=>by obtain⟨k,_,v,sz,es,hb,he⟩:=hgm _ hm2;exact hrw.box _ _ _ _ _ _ hb hs he
       have hnd:((a8 us).map β++gs).Nodup:=QJ.2 ⟨nC h hd2 hdom,hgn,fun x hx1 y hy e=>by subst e;obtain⟨s,h1,rfl⟩:=Qi.1 hx1;obtain⟨cs,hs⟩:=hdom s h1;exact hbg s cs hs hy⟩
       refine⟨r,outs,hr,hnd,lB h hd5 hdomM,?_⟩;rintro v w' m' hv hb hext hm ⟨o1,o2,ho12,ho,hoM⟩ hown;obtain⟨hS,hSr,hSb,hSc⟩:=h.strippedL hrw (aY us);have hgY:∀g∈gs,w0.heap.size<=g∨g∈pm.Y:=fun g hg=>by obtain⟨k,_,v,sz,es,hb,rfl⟩:=hgm _ hg;exact(hrw.row _ _ _ _ hb).lo
       have hfree:∀v sz es s,Bear E w β ⟨stripL (aY us) st.t,dp E (aY us) st.b⟩ (fun i=>a.tmps.getD i Go.undef) v (.sl false sz es (some s))->ρ s∉gs:=fun v sz es s hi hm2=>by obtain⟨k,hk1,v',sz',es',hb',he⟩:=hgm _ hm2;obtain⟨h1,h2⟩:=hSb _ _ _ _ hi;exact h2 (hrw.sep _ _ _ _ _ _ _ _ h1 hb' he▸hk1)
       obtain⟨hU,hUb⟩:=hS.unmap (cN us);have hUr:=hSr.to hUb (fun v sz es s hi=>⟨rfl,rfl⟩) (fun v sz es s k c hi hk=>hSr.box _ _ _ _ _ _ hi hk);have ho1l:=ho.len;rw[eq] at ho1l;obtain⟨o1',ho1e,ho1n⟩:=ny hput;obtain⟨rfl,rfl⟩:=List.append_inj (ho12.symm.trans ho1e) (ho1l.trans ho1n.symm);have hmpS:∀s∈cN us,∃i ks vs,stripL (aY us) st.t i= .mp s ks vs:=fun s hs=>by obtain⟨i,ks,vs,hi⟩:=hdomM s hs;exact⟨i,ks,vs,wK.2 hi⟩
       obtain⟨hC0,hCr0,hCb0,hCs⟩:=hU.callP hUr (fun s hs=>by obtain⟨cs,h1⟩:=hdom s hs;exact(hSc s).2 ⟨cs,h1⟩) hb hext hm ho (fun i c hc hi=>by rw[ho12,PT (by omega)] at hc;exact hc) hput (vG hmbS) (fun v sz es s hi=>hfree _ _ _ _ (hUb _ _ _ _ hi)) (fun s cs hs=>by obtain⟨c0,h1⟩:=(hSc s).1 ⟨cs,hs⟩;exact hbg s c0 h1) hgY (fun g hg=>by
        obtain⟨k,_,v,sz,es,hb,rfl⟩:=hgm _ hg;obtain⟨_,_,_,_,_,_,hh,_⟩:=hrw.row _ _ _ _ hb;exact⟨_,_,_,hh⟩) (fun g hg=>by
        obtain⟨s,h1,rfl⟩:=Qi.1 hg;obtain⟨i,ks,vs,hi⟩:=hdomM s h1;exact(h.maps.holds i s ks vs hi).2) (fun g hg=>by
        obtain⟨s,h1,rfl⟩:=Qi.1 hg;obtain⟨i,ks,vs,hi⟩:=hdomM s h1;obtain⟨⟨e,c,hh,_⟩,_⟩:=h.maps.holds i s ks vs hi;exact⟨e,c,hh⟩) (fun i s ks vs hi hm2=>by
        have hi:fM _ (stripL (aY us) st.t i)=_:=hi;obtain⟨s',h1,h2⟩:=Qi.1 hm2;obtain⟨i',ks',vs',hi'⟩:=hmpS s' h1;rcases gU (cN us) (stripL (aY us) st.t i) with⟨e,hn2⟩|⟨e,_⟩
        . rw[e] at hi;exact hn2 _ _ _ hi (hS.maps.inj _ _ _ _ _ _ _ _ hi' hi h2▸h1)
        . rw[e] at hi;cases hi)
       have hkr:∀i s ks vs,fg (a8 us) (stripL (aY us) st.t) i= .mp s ks vs->stripL (aY us) st.t i= .mp s ks vs:=fun i s ks vs hi=>by
        have hi:bC _ _=_:=hi;rcases eF (a8 us) (stripL (aY us) st.t i) with⟨e,_⟩|e
        . rw[<-e];exact hi
        . rw[e] at hi;cases hi
       have hnm:∀i s ks vs,t' i= .mp s ks vs->∃ks0 vs0,stripL (aY us) st.t i= .mp s ks0 vs0:=fun i s ks vs hi=>by
        rcases lC hputM i with⟨h1,_⟩|⟨j,s',ks',vs',_,_,⟨k0,v0,h3⟩,h4⟩
        . exact⟨_,_,hkr _ _ _ _ (h1▸hi)⟩
        . rw[h4] at hi;cases hi;exact⟨_,_,hkr _ _ _ _ h3⟩
       obtain⟨hC,hCr,hCb1⟩:=hC0.remap hCr0 (t2:=t') (fun i=>by
        rcases lC hputM i with⟨h1,h2⟩|⟨j,s,ks,vs,h1,⟨k,h2⟩,⟨k0,v0,h3⟩,h4⟩
        . left;rw[h1];show bC _ _=bC _ (fM _ _);rcases gU (cN us) (stripL (aY us) st.t i) with⟨e,_⟩|⟨_,s,ks,vs,e,hs⟩
          . rw[e]
          . refine absurd hs (h2 s ks vs ?_);show bC _ _=_;rw[e,bW];rfl
        . right;have h5:=hkr _ _ _ _ h3;refine⟨s,ks,vs,h4,?_,hoM.get j (β s) k ks vs (by rw[PF,h1];rfl) h2,(hS.maps.holds _ _ _ _ h5).2⟩;have:=hS.tmps i;have e5:(stripL (aY us) st.t) i= .mp s k0 v0:=h5;exact(show Rs m w β (a.tmps.getD i Go.undef) (.mp s k0 v0) from e5▸this).mp) (fun i j s s' ks vs ks' vs' hi hj e=>by
        obtain⟨_,_,hi⟩:=hnm _ _ _ _ hi;obtain⟨_,_,hj⟩:=hnm _ _ _ _ hj;exact hS.maps.inj _ _ _ _ _ _ _ _ hi hj e)
       have hCb:∀v sz es s,Bear E w' β ⟨t',b'⟩ (fun i=>a.tmps.getD i Go.undef) v (.sl false sz es (some s))->Bear E w β ⟨stripL (aY us) st.t,dp E (aY us) st.b⟩ (fun i=>a.tmps.getD i Go.undef) v (.sl false sz es (some s)):=fun v sz es s hi=>hUb _ _ _ _ (hCb0 _ _ _ _ (hCb1 _ _ _ _ hi))
       refine hE.res hd hv hC hCr (fun sz es k er=>?_) hK;obtain⟨g,hg1,hg2⟩:=hown sz es k er;have hlt:∀s cs,st.b s=some cs->β s<w.heap.size:=fun s cs hs=>by obtain⟨⟨_,_,_,_,_,hh,_⟩,_⟩:=h.boxes s cs hs;exact al hh
       refine⟨g,hg1,?_,fun v0 fh es0 s hi e=>?_,fun s cs hs e=>?_⟩
       . rcases hg2 with hg2|hg2
         . exact .inl (tl h.below.size hg2)
         . exact hgY g hg2
       . have hi:=hCb _ _ _ _ hi;rcases hg2 with hg2|hg2
         . obtain⟨_,_,_,_,_,_,hh,_⟩:=hSr.row _ _ _ _ hi;have:=al hh;omega
         . exact hfree _ _ _ _ hi (e▸hg2)
       . obtain⟨c0,h1⟩:=hCs s cs hs;obtain⟨c1,h2⟩:=(hSc s).1 ⟨c0,h1⟩;rcases hg2 with hg2|hg2
         . have:=hlt s c1 h2;omega
         . exact hbg s c1 h2 (e▸hg2)
     . cases hx
   . cases hx
 . cases hx
theorem ArgsP.snoc {b K:Nat} (hb:BoxAt m w b cs) (hK:K<=b):∀{vs:List Value} {us:List V} {bs gs hs:List Nat},ArgsP m w K vs us bs gs hs->ArgsP m w K (vs++[.pointer (some ⟨b,0,none⟩)]) (us++[.bx cs]) (bs++[b]) gs hs:=by
 intro vs us bs gs hs h
 induction h with
 |nil=>exact .bx hb hK .nil
 |bx hb' hK' _ ih=>exact .bx hb' hK' ih
 |row hr hi hK' _ ih=>exact .row hr hi hK' ih
 |no _ ih=>exact .no ih
 |mp hm hK' _ ih=>exact .mp hm hK' ih
 |dat hr hd' _ ih=>exact .dat hr hd' ih
theorem gv (s:Nat):∀l:List V,a8 (l++[V.ptr s 0])=a8 l++[s]
 |[]=>rfl
 | u::l=>by
   have ih:=gv s l;rw[QM];by_cases hu:∃s',u= .ptr s' 0
   . obtain⟨s',rfl⟩:=hu;show s'::a8 (l++[V.ptr s 0])=s'::a8 l++[s];rw[ih];rfl
   . rw[jO (fun s' e=>hu ⟨s',e⟩),jO (fun s' e=>hu ⟨s',e⟩),ih]
theorem gw (s:Nat):∀l:List V,aY (l++[V.ptr s 0])=aY l
 |[]=>rfl
 | u::l=>by
   have ih:=gw s l;rw[QM];by_cases hu:∃nl sz es k,u= .sl nl sz es (some k)
   . obtain⟨nl,sz,es,k,rfl⟩:=hu;show k::aY (l++[V.ptr s 0])=k::aY l;rw[ih]
   . rw[jP (fun nl sz es k e=>hu ⟨nl,sz,es,k,e⟩),jP (fun nl sz es k e=>hu ⟨nl,sz,es,k,e⟩),ih]
theorem fP (s:Nat):∀l:List V,cN (l++[V.ptr s 0])=cN l
 |[]=>rfl
 | u::l=>by
   have ih:=fP s l;rw[QM];by_cases hu:∃s' ks vs,u= .mp s' ks vs
   . obtain⟨s',ks,vs,rfl⟩:=hu;show s'::cN (l++[V.ptr s 0])=s'::cN l;rw[ih]
   . rw[je (fun s' ks vs e=>hu ⟨s',ks,vs,e⟩),je (fun s' ks vs e=>hu ⟨s',ks,vs,e⟩),ih]
theorem DC {F:List V->Option (V×List (List V))} (h:gg E u=some F):∃f lb,u= .x (.func (.func f) #[] ⟨lb⟩)∧E.X f lb=some F:=by
 unfold gg at h;split at h
 . exact⟨_,_,rfl,h⟩
 . cases h
theorem sW (hE:EnvX E pm) (h:Rel E n pm m0 w0 m β st a w) {o:Oper} {c:Operand} {args:Array Operand} {ts:Array TypeId} (ho:o.op= .call {callee:= .value c,args:=args,argTypes:=ts}) {F:List V->Option (V×List (List V))} (hF:gg E (ev E st c)=some F) {st':St} (hx:callP E st o.dst F (args.toList.map (ev E st)++[V.ptr E.xk 0])=some st') (hd:∀k,o.dst=some k->k<n)
 {K:Act->World->Prop} {Q:Exit->Act->World->Prop} (hK:∀a' w' m' β',Rel E n pm m0 w0 m' β' st' a' w'->K a' w'):o.wp E.P a w K Q:=by
 obtain⟨f,lb,hu,hX⟩:=DC hF;obtain⟨hxk,hfun⟩:=hE.fx f lb F hX;have hc:a.eval c= .func (.func f) #[] ⟨lb⟩:=(hu▸aA h c:Rs m w β (a.eval c) (.x (.func (.func f) #[] ⟨lb⟩))).x;obtain⟨ρ,hrw⟩:=h.rows;have hx0:=hx;unfold callP at hx0;split at hx0
 case isFalse=>cases hx0
 rename_i hcond;obtain⟨hd1,hd2,hd3,_⟩:=hcond;rw[Qj,List.all_append,PG] at hd1;rw[gw] at hd3;obtain⟨cs,hcs⟩:∃cs,st.b E.xk=some cs:=by
  have:=hd1.2;simp only[QU,Sx,Rf,List.all_nil,Rn,eM] at this;cases hb:st.b E.xk with
  |none=>rw[hb] at this;cases this
  |some cs=>exact⟨cs,rfl⟩
 obtain⟨hbx,hge⟩:=h.boxes _ _ hcs;have hβ:β E.xk=pm.b E.xk:=h.par.2.1 _ hxk;obtain⟨gs,hargs,hdom,hgn,hgm⟩:=sU h hrw (hE.high _ h.j) args.toList hd1.1 hd3;have hKb:E.K<=β E.xk:=by
  rcases hge with hge|hge
  . exact tl (hE.high _ h.j) hge
  . exact h.par.2.2 _ hge
 have hargs':=hargs.snoc hbx hKb;have hus:(args.toList.map (ev E st)++[V.ptr E.xk 0]).map (eM st.b)=(args.toList.map (ev E st)).map (eM st.b)++[.bx cs]:=by
  rw[Qj,QU,Sx];have:eM st.b (V.ptr E.xk 0)= .bx cs:=by show(match st.b E.xk with|some cs=>V.bx cs|none=> .undef)=_;rw[hcs]
  rw[this]
 have hss:(a8 (args.toList.map (ev E st)++[V.ptr E.xk 0])).map β=(a8 (args.toList.map (ev E st))).map β++[β E.xk]:=by rw[gv,Qj];rfl
 obtain⟨r,outs,hr,hnd,hhn,hfin⟩:=ky (gs:=gs) hE h hd hrw hx (fun s hs=>by
  rw[gv] at hs;rcases PU.1 hs with hs|hs
  . exact hdom s hs
  . exact⟨cs,by rw[PQ.1 hs];exact hcs⟩) hgn (fun g hg=>by rw[gw];exact hgm g hg) (fun s hs=>by rw[fP] at hs;exact oC h args.toList s hs) hK
 rw[hus] at hr;rw[hss,fP] at hfin;rw[hss] at hnd;rw[fP] at hhn;have:=hfun m w (args.map a.eval) _ _ gs _ r outs hr (by rw[<-hβ];simpa using hargs') hnd hhn (hE.keep _ _ _ h.par.2.2 h.j h.below) h.glob;have hrun:(execOp a.eval o).run E.P w=(callFunc f (args.map a.eval++⟨lb⟩)).run E.P w:=by simp only[execOp,ho,resolve,Sem.run_bind,hc,Deferred.ofValue,Sem.run_pure,Result.andThen_ok,invoke];simp
 unfold Oper.wp;rw[hrun];rcases this with⟨he,hcalls⟩|⟨v,w',he,m',hv,hb,hext,hm,ho',hown⟩
 . rw[he];refine hcalls.mono ?_;rintro e w' ⟨v,rfl,m',hv,hb,hext,hm,ho',hown⟩;exact hfin v w' m' hv hb hext hm ho' hown
 . rw[he];exact hfin v w' m' hv hb hext hm ho' hown
theorem Ext.freeze (g:Nat) (m:Lim) (w:World):Ext m w (aw m g none) w:=by
 refine⟨PB _,fun _ _ _ _ _ h=>h,fun blk _ fr' hf=>?_,fun _ _ _ _ h=>h⟩;by_cases e:blk=g
 . rw[e,aa] at hf;cases hf
 . rw[ae _ _ e] at hf;exact⟨fr',hf,PB _⟩
theorem BoxAt.ip (h:BoxAt m w g cs):Rd (aw m g none) w (.pointer (some ⟨g,0,none⟩)) (.ip (cs.map V.bare)):=by
 obtain⟨_,vals,ty,xs,rest,hh,hx,hr⟩:=h;have hl:=hr.length;refine .ip g 0 (cs.map V.bare) (fun k=>(xs[k]?).getD Go.undef) (al hh) (fun k hk=>?_) (fun fr hf=>by rw[aa] at hf;cases hf) (fun k d hd=>?_)
 . rw[eq] at hk;have hk':k<xs.length:=by omega
   rw[Qn,Box.cell hh,<-PN,hx,PT hk',Io hk'];rfl
 . rw[PF,PK] at hd;obtain⟨u,hu,rfl⟩:=hd;have hk:k<xs.length:=by have:=(PE.1 hu).1;omega
   rw[Io hk];exact((hr.get k _ u (Io hk) hu).bare).mono (Ext.freeze g m w)
theorem Rel.letgo (h:Rel E n pm m0 w0 m β st a w) {s:Nat} (hge:w0.heap.size<=β s∨β s∈pm.Y) (hobj:(∃cs,st.b s=some cs)∨∃i ks vs,st.t i= .mp s ks vs):
 Rel E n pm m0 w0 (aw m (β s) none) β ⟨kill s st.t,aw st.b s none⟩ a w:=by
 have he:=Ext.freeze (β s) m w;have hbn:∀{k:Nat} {c:List V},aw st.b s none k=some c->st.b k=some c∧k≠s:=fun {k c} hk=>by
  rw[aD] at hk;split at hk
  . cases hk
  . rename_i e;exact⟨hk,e⟩
 have hne:∀{k:Nat} {c:List V},st.b k=some c->k≠s->β k≠β s:=fun {k c} hk hn e=>by
  rcases hobj with⟨cs,hs⟩|⟨i,ks,vs,hi⟩
  . exact hn (h.inj _ _ _ _ hk hs e)
  . obtain⟨⟨_,_,_,_,_,hh,_⟩,_⟩:=h.boxes _ _ hk;obtain⟨⟨_,_,hh2,_⟩,_⟩:=h.maps.holds _ _ _ _ hi;rw[e,hh2] at hh;cases hh
 obtain⟨ρ,hr⟩:=h.rows;have hρ:∀v sz es s',Bear E w β st (fun i=>a.tmps.getD i Go.undef) v (.sl false sz es (some s'))->ρ s'≠β s:=fun v sz es s' hb e=>by
  rcases hobj with⟨cs,hs⟩|⟨i,ks,vs,hi⟩
  . exact hr.box _ _ _ _ _ _ hb hs e.symm
  . obtain⟨_,_,_,_,_,_,hh,_⟩:=hr.row _ _ _ _ hb;obtain⟨⟨_,_,hh2,_⟩,_⟩:=h.maps.holds _ _ _ _ hi;rw[e,hh2] at hh;cases hh
 refine⟨fun i=>((h.tmps i).mono he).kill,h.size,fun k c hk=>?_,fun k k' c c' h1 h2 e=>h.inj _ _ _ _ (hbn h1).1 (hbn h2).1 e,h.below,h.par,⟨fun blk hb hy=>?_,h.mold.2.1.trans he,h.mold.2.2⟩,⟨ρ,hr.to (fun v sz es s' hi=>hi.from (fun i hi=> .inl ⟨i,oz hi,rfl⟩) (fun k c j h1 h2 h3 h4=> .inr ⟨k,c,j,h1,(hbn h2).1,h3,h4⟩)) (fun v sz es s' hi=>⟨rfl,ae _ _ (hρ _ _ _ _ hi)⟩) (fun v sz es s' k c hi hk=>hr.box _ _ _ _ _ _ hi (hbn hk).1)⟩,
  fun i s' sz len c hi hk=>?_,h.defers,fun g=>(h.glob g).mono he,h.j,⟨fun i s' ks vs hi=>?_,fun i j s1 s2 ks vs ks' vs' hi hj e=>?_⟩⟩
 . obtain⟨⟨hl,vals,ty,xs,rest,hh,hx,hr'⟩,hge'⟩:=h.boxes k c (hbn hk).1;exact⟨⟨by rw[ae _ _ (hne (hbn hk).1 (hbn hk).2)];exact hl,vals,ty,xs,rest,hh,hx,hr'.mono he⟩,hge'⟩
 . have:blk≠β s:=fun e=>by
    rcases hge with h1|h1
    . omega
    . exact hy (e▸h1)
   rw[ae _ _ this];exact h.mold.1 blk hb hy
 . have hi:kill s st.t i= .row s' sz len:=hi;obtain⟨e,_⟩:=gW (show(kill s st.t i).nm=some s' by rw[hi];rfl);exact h.own i s' sz len c (e▸hi) (hbn hk).1
 . have hi:kill s st.t i= .mp s' ks vs:=hi;obtain⟨e,hs'⟩:=gW (show(kill s st.t i).nm=some s' by rw[hi];rfl);rw[e] at hi;obtain⟨⟨ents,clock,hh,hrd,h1,h2,h3⟩,h4⟩:=h.maps.holds i s' ks vs hi;refine⟨⟨ents,clock,hh,hrd.mono he,h1,h2,?_⟩,h4⟩;have hn:β s'≠β s:=fun e=>by
    rcases hobj with⟨cs,hs⟩|⟨i2,ks2,vs2,hi2⟩
    . obtain⟨⟨_,_,_,_,_,hh2,_⟩,_⟩:=h.boxes _ _ hs;rw[e,hh2] at hh;cases hh
    . exact hs' (h.maps.inj _ _ _ _ _ _ _ _ hi hi2 e)
   rw[ae _ _ hn];exact h3
 . have hi:kill s st.t i= .mp s1 ks vs:=hi;have hj:kill s st.t j= .mp s2 ks' vs':=hj;obtain⟨e1,_⟩:=gW (show(kill s st.t i).nm=some s1 by rw[hi];rfl);obtain⟨e2,_⟩:=gW (show(kill s st.t j).nm=some s2 by rw[hj];rfl);exact h.maps.inj _ _ _ _ _ _ _ _ (e1▸hi) (e2▸hj) e
theorem lD (sz:Nat):∀(k:Nat) (cs:List V),(dG sz k cs).length=k
 |0,_=>rfl
 |k+1,cs=>by simp[dG,lD sz k]
theorem kz (sz:Nat) (hz:sz≠0):∀(k:Nat) (cs:List V),k*sz<=cs.length->(∀u∈cs,u.cells=[u])->(dG sz k cs).flatMap V.cells=cs.take (k*sz)∧∀e∈dG sz k cs,e.cells.length=sz
 |0,cs,_,_=>by simp[dG]
 | k +1,cs,hl,h1=>by
   have hk:k*sz<=(cs.drop sz).length:=by rw[Q1];rw[Qs] at hl;omega
   obtain⟨q1,q2⟩:=kz sz hz k (cs.drop sz) hk (fun u hu=>h1 u (List.mem_of_mem_drop hu));have hsl:sz<=cs.length:=by rw[Qs] at hl;omega
   have hd:(if sz=1 then (cs[0]?).getD (V.agg (cs.take sz)) else V.agg (cs.take sz)).cells=cs.take sz:=by
    split
    . rename_i e;subst e;cases cs with
      |nil=>simp at hsl
      |cons c cs=>simpa using h1 c (by simp)
    . rfl
   refine⟨?_,fun e he=>?_⟩
   . simp only[dG,Qq,hd,q1];rw[Qs,Nat.add_comm,RP,List.take_add]
   . simp only[dG,PY] at he;rcases he with rfl|he
     . rw[hd,P8];omega
     . exact q2 e he
theorem sX (h:u.cell=true):u.cells=[u]:=by cases u<;>first|rfl|(simp[V.cell] at h)
theorem wM (h:cs.all V.dat=true):cs.map V.bare=cs:=by
 rw[PJ] at h;have:∀u∈cs,V.bare u=u:=fun u hu=>by
  have:=h u hu;rw[aX];cases u<;>first|rfl|skip
  rename_i nl sz es tok;cases tok<;>first|rfl|(simp[V.dat] at this)
 rw[RR this,List.map_id']
theorem mV (hE:EnvX E pm) (h:Rel E n pm m0 w0 m β st a w) {d:Option Tmp} (hfz:E.fzO d=true) (hd:∀k,d=some k->k<n) {x:Operand} {st':St} (hx:kX E st d (ev E st x)=some st'):∃m',Rel E n pm m0 w0 m' β st' (a.put d (a.eval x)) w:=by
 have hXY:∀x∈pm.X,x∈pm.Y:=by
  rcases hE.fz with h1|h1
  . cases d with
    |none=>cases hfz
    |some d=>rw[show E.fzO (some d)=E.fz d from rfl,h1] at hfz;cases hfz
  . exact h1
 have hv:=aA h x;unfold kX at hx;split at hx
 . rename_i d s sz len he;rw[he] at hv;split at hx
   case h_2=>cases hx
   rename_i cs hs;split at hx
   case isFalse=>cases hx
   rename_i hc;cases hx;obtain⟨hz,hmb,hdat,hone⟩:=hc;obtain⟨i,rfl,hi⟩:=lz h he;obtain⟨hb,hge⟩:=h.boxes s cs hs;obtain⟨hfit,cap,cur,ty,hval,hh,hsz⟩:=h.own i s sz len cs hi hs;refine⟨_,(h.letgo (hge.imp id (hXY _)) (.inl ⟨cs,hs⟩)).put (d:=some d) hd (u:= .sl false sz (sI sz len cs) none) (.of ?_) (fun sz es s' e=>by cases e) (fun s sz len cs e=>by cases e) (fun s ks vs e=>by cases e)⟩;have hval:a.eval (.tmp i)=_:=hval;obtain⟨_,vals,ty',xs,rest,hh',hxs,hr⟩:=hb;rw[hh] at hh';have hcv:cur=vals:=by injection hh' with hh';injection hh'
   have hlr:=hr.length;have hcl:len<=cap:=by
    obtain⟨cap',hv1,hv2⟩:=hv.row;rw[hval] at hv1;injection hv1 with _ _ e3
    omega
   rw[hval,wC];have hlc:(dG sz len cs).length=len:=lD sz len cs;obtain⟨hf1,hf2⟩:=kz sz hz len cs hfit (fun u hu=>sX (PJ.1 hone u hu));have hflat:Flat (aw m (β s) none) w (xs.take (len*sz)) sz (dG sz len cs):=dX _ _ hf2 (by rw[hf1];exact(hr.mono (Ext.freeze _ _ _)).take _);have:=Rd.of_flat hflat (g:=β s) (cap:=cap) (cur:=cur) hh (fun j x hj=>by
    rw[P9] at hj;split at hj
    . rw[<-PN,hcv,hxs,PT (PE.1 hj).1];exact hj
    . cases hj) (by rw[hlc];exact hcl) (fun fr hf=>by rw[aa] at hf;cases hf) none
   rwa [hlc] at this
 . rename_i d s ks vs he;rw[he] at hv;cases hx;obtain⟨i,rfl,hi⟩:=nB h he;obtain⟨hm,hge⟩:=h.maps.holds i s ks vs hi;refine⟨_,(h.letgo (hge.imp id (hXY _)) (.inr ⟨i,ks,vs,hi⟩)).put (d:=some d) hd (u:= .fm ks vs) (.of ?_) (fun sz es s' e=>by cases e) (fun s sz len cs e=>by cases e) (fun s ks vs e=>by cases e)⟩;rw[hv.mp];exact hm.freeze (Ext.freeze _ _ _) (aa _ _ _)
 . rename_i d s he;rw[he] at hv;split at hx
   case h_2=>cases hx
   rename_i cs hs;split at hx
   case isFalse=>cases hx
   rename_i hc;cases hx;obtain⟨hb,hge⟩:=h.boxes s cs hs;refine⟨_,(h.letgo (hge.imp id (hXY _)) (.inl ⟨cs,hs⟩)).put (d:=some d) hd (u:= .ip cs) (.of ?_) (fun sz es s' e=>by cases e) (fun s sz len cs e=>by cases e) (fun s ks vs e=>by cases e)⟩;rw[hv.ptr];have:=hb.ip
   rwa [wM hc.2] at this
 . cases hx
theorem pQ (hE:EnvX E pm) (h:Rel E n pm m0 w0 m β st a w) {o:Oper} {st':St} (hx:ee E o st=some st') (hd:∀k,o.dst=some k->k<n)
 {K:Act->World->Prop} {Q:Exit->Act->World->Prop} (hK:∀a' w' m' β',Rel E n pm m0 w0 m' β' st' a' w'->K a' w'):o.wp E.P a w K Q:=by
 unfold Oper.wp;unfold ee at hx;split at hx
 . rename_i t ho;split at hx
   . rename_i z hz;split at hx
     case isFalse=>simp at hx
     rename_i hmb;obtain⟨zv,hzr,hzd⟩:=eY (w:=w) (m:=m) hz;obtain⟨m',β',hrel⟩:=lx h hd hx hmb (ty:=t) hzd;have hrun:(execOp a.eval o).run E.P w= .ok (.value (.pointer (some ⟨w.heap.size,0,none⟩))) (w.alloc (.cells zv.cells t)):=by simp only[execOp,ho,Instr.alloc,Sem.run_bind,hzr,Result.andThen_ok,newVar,newRow,run_newObj,Sem.run_pure];rfl
     rw[hrun];exact hK _ _ _ _ hrel
   . simp at hx
 . rename_i t x ho;split at hx
   . rename_i hdat;obtain⟨hdat,hmb⟩:=hdat;obtain⟨m',β',hrel⟩:=lx h hd hx hmb (ty:=t) (nA ((aA h x).bare.dat hdat) hdat);have hrun:(execOp a.eval o).run E.P w= .ok (.value (.pointer (some ⟨w.heap.size,0,none⟩))) (w.alloc (.cells (a.eval x).cells t)):=by simp only[execOp,ho,Instr.box,Sem.run_bind,Result.andThen_ok,newVar,newRow,run_newObj,Sem.run_pure];rfl
     rw[hrun];exact hK _ _ _ _ hrel
   . simp at hx
 . rename_i t p x ho;split at hx
   . rename_i hdst;obtain⟨w',hr,hrel⟩:=oy h (aA h p) (aA h x) (fun sz es s' he=>by obtain⟨i,rfl,hi⟩:=sO he;rw[he];exact .inl ⟨i,hi,rfl⟩) hx
     have hrun:(execOp a.eval o).run E.P w= .ok .skip w':=by simp only[execOp,ho,Sem.run_bind,hr,Result.andThen_ok,Sem.run_pure]
     rw[hrun];refine hK _ _ m β ?_;rw[Option.isNone_iff_eq_none.1 hdst];exact hrel
   . simp at hx
 . rename_i t p ho;split at hx
   . rename_i u hu;cases hx;have hu:=(en hu).1;obtain⟨v,hr,hv⟩:=ku h (aA h p) hu;have hrun:(execOp a.eval o).run E.P w= .ok (.value v) w:=by simp only[execOp,ho,Sem.run_bind,hr,Result.andThen_ok,Sem.run_pure]
     rw[hrun];refine hK _ _ m β ?_;unfold Env.keepL;split
     . rename_i hM;refine h.put hd (.of hv) (fun sz es s he=>?_) (fun s sz len cs e=>(e▸hv).not_row.elim) (fun s ks vs e=>(e▸hv).not_mp.elim);have hp:=aA h p;generalize ev E st p=q at hM hu hp;cases q with
       | ptr s0 off=>
         have hM:E.MB s0=true:=hM;simp only[jc] at hu;split at hu
         . rename_i cs hcs;rw[he] at hu⊢;exact wL h hcs hM hp.ptr hu hr
         . cases hu
       |_=>cases hM
     . exact h.put hd (.of hv.bare) (dV _) (fun s sz len cs e=>by have e:u.bare=_:=e;exact(e▸hv.bare).not_row.elim) (fun s ks vs e=>by have e:u.bare=_:=e;exact(e▸hv.bare).not_mp.elim)
   . cases hx
 . rename_i args argTypes ho;split at hx
   . rename_i x y t t' ha ht;have hargs:args= #[x,y]:=by apply Qe.1;simpa using ha
     have hts:argTypes= #[t,t']:=by apply Qe.1;simpa using ht
     subst hargs hts;split at hx
     . rename_i el htt hu;simp only[Qa] at htt;subst htt;have hy:=aA h y;obtain⟨v,w',m',β',hr,hrel⟩:=kw (sy:=y) (t:=t) (t':=t) (ty:=o.type) h hd (fun i nl sz es tok hyv hi hs=>zD hu hi ((hyv▸hy:Rs m w β _ (.sl nl sz es tok)).rd (by intros;simp)) hs) hx;have hrun:(execOp a.eval o).run E.P w= .ok (.value v) w':=by simp only[execOp,ho,resolve,Sem.run_bind,Sem.run_pure,Result.andThen_ok,invoke,builtin];simp[hr]
       rw[hrun];exact hK _ _ _ _ hrel
     . rename_i el htt hu;split at hx
       . rename_i s hu' hs;have hy:=(hs▸aA h y:Rs m w β _ (.x (.string s))).x;obtain⟨v,w',m',β',hr,hrel⟩:=kw (sy:=y) (t:=t) (t':=t') (ty:=o.type) h hd (fun i nl sz es tok hyv hi hs'=>by cases hyv;rw[hy];exact DA hu hu' hi hs') hx
         have hrun:(execOp a.eval o).run E.P w= .ok (.value v) w':=by simp only[execOp,ho,resolve,Sem.run_bind,Sem.run_pure,Result.andThen_ok,invoke,builtin];simp[hr]
         rw[hrun];exact hK _ _ _ _ hrel
       . cases hx
     . simp at hx
   . simp at hx
 . rename_i t r ho;split at hx
   . rename_i kt et d hu hds hq;split at hx
     . rename_i hn;cases hx;have hrun:(execOp a.eval o).run E.P w= .ok (.value (.map (some w.heap.size))) (w.alloc (.map #[] 0)):=by
        cases r with
        |none=>simp only[execOp,ho,QR,Instr.makeMap,Sem.run_bind,Sem.run_pure,Result.andThen_ok,run_newObj];rfl
        | some x=>
          obtain⟨k,i,hx⟩:∃k i,ev E st x= .x (.int k i):=by
           rw[Qd] at hq;unfold vH at hq;split at hq
           . rename_i he;cases he
           . rename_i k i he;exact⟨k,i,QE he⟩
           . cases hq
          have hxe:a.eval x= .int k i:=(hx▸aA h x:Rs m w β _ (.x (.int k i))).x;simp only[execOp,ho,Qd,Instr.makeMap,Sem.run_bind,Sem.run_pure,Result.andThen_ok,run_newObj,av hu,hxe,asInt,asIntOf];rfl
       rw[hrun];show K (a.put o.dst (.map (some w.heap.size))) _;rw[hds];exact hK _ _ _ _ (h.newMap (hd d hds) hn)
     . cases hx
   . cases hx
 . rename_i t x k v ho;split at hx
   . rename_i s ks vs hds hmp;split at hx
     . rename_i ks' vs' hput;cases hx;obtain⟨i0,rfl,hi0⟩:=nB h hmp;have hmx:a.eval (.tmp i0)= .map (some (β s)):=(hmp▸aA h (.tmp i0):Rs m w β _ (.mp s ks vs)).mp;have hdat:(ev E st v).bare.dat=true∧dF E.P (match E.P.underlying t with|some (.map kt _)=>kt|_=>0) (ev E st k).bare=true:=by
        unfold putM at hput;split at hput
        . rename_i kt et hu;split at hput
          . rename_i hc;rw[hu];exact⟨hc.2,hc.1⟩
          . cases hput
        . cases hput
       have hkr:Rd m w (a.eval k) (ev E st k).bare:=(aA h k).bare.rd (pP hdat.2);obtain⟨ents,clock,hr,hm,_⟩:=lr (h.maps.holds i0 s ks vs hi0).1 hkr ((aA h v).bare.dat hdat.1) hput;have hrun:(execOp a.eval o).run E.P w= .ok .skip {w with heap:=w.heap.setIfInBounds (β s) (.map ents clock)}:=by simp only[execOp,ho,hmx,Sem.run_bind,hr,Result.andThen_ok,Sem.run_pure]
       rw[hrun];refine hK _ _ m β ?_;rw[hds];exact h.setMap hi0 hm
     . cases hx
   . cases hx
 . rename_i t x k ok ho;split at hx
   . rename_i u hu;cases hx;obtain⟨ks,vs,hkv⟩:∃ks vs,(ev E st x).kv=some (ks,vs):=by
      unfold ed at hu;split at hu
      . rename_i h1;exact⟨_,_,h1⟩
      . cases hu
     have hkr:Rd m w (a.eval k) (ev E st k).bare:=(aA h k).bare.rd (zF hu);obtain⟨g,hmx,hmg⟩:∃g,a.eval x= .map (some g)∧∃ents clock,w.heap[g]?=some (.map ents clock)∧MapRd m w ents.toList ks vs:=by
      rcases II hkv with⟨s,hmp⟩|hmp
      . obtain⟨ents,clock,hh,hrd,_⟩:=sP h hmp;exact⟨β s,(hmp▸aA h x:Rs m w β _ (.mp s ks vs)).mp,ents,clock,hh,hrd⟩
      . obtain⟨g,ents,clock,e,hh,hrd,_⟩:=((hmp▸aA h x:Rs m w β _ (.fm ks vs)).rd rfl).fm_at;exact⟨g,e,ents,clock,hh,hrd⟩
     obtain⟨v,hr,hv⟩:=ko hkv hmg hkr hu;have hrun:(execOp a.eval o).run E.P w= .ok (.value v) w:=by simp only[execOp,ho,hmx,Sem.run_bind,hr,Result.andThen_ok,Sem.run_pure]
     rw[hrun];refine hK _ _ m β ?_;exact h.put hd (.of hv.bare) (dV _) (fun s sz len cs e=>by have e:u.bare=_:=e;exact(e▸hv.bare).not_row.elim) (fun s ks vs e=>by have e:u.bare=_:=e;exact(e▸hv.bare).not_mp.elim)
   . cases hx
 . rename_i t l c ho;split at hx
   . rename_i el hu;split at hx
     . obtain⟨v,w',m',β',hr,hrel⟩:=pK h hd (aA h l) (aA h c) hu hx;have hrun:(execOp a.eval o).run E.P w= .ok (.value v) w':=by simp only[execOp,ho,Sem.run_bind,hr,Result.andThen_ok,Sem.run_pure]
       rw[hrun];exact hK _ _ _ _ hrel
     . obtain⟨v,w',m',hr,hrel⟩:=pJ h hd (aA h l) (aA h c) hu hx;have hrun:(execOp a.eval o).run E.P w= .ok (.value v) w':=by simp only[execOp,ho,Sem.run_bind,hr,Result.andThen_ok,Sem.run_pure]
       rw[hrun];exact hK _ _ _ _ hrel
   . simp at hx
 . rename_i t len parts ho;have hvs:∀(i:Nat) (x:Nat×Value) (u:Nat×V),(parts.toList.map fun p=>(p.1,a.eval p.2))[i]?=some x->(parts.toList.map fun p=>(p.1,(ev E st p.2).bare))[i]?=some u->Rs m w β x.2 u.2:=by intro i x u hx hu';simp only[PF,PK] at hx hu';obtain⟨p,hp,rfl⟩:=hx;obtain⟨q,hq,rfl⟩:=hu';rw[hp] at hq;cases hq;exact(aA h _).bare
   have hpa:(parts.map fun(i,x)=>(i,a.eval x))=(parts.toList.map fun p=>(p.1,a.eval p.2)).toArray:=by apply Qe.1;simp
   split at hx
   . split at hx
     . obtain⟨v,w',hr,hk⟩:=sV hE h hd (vs:=parts.toList.map fun p=>(p.1,a.eval p.2)) (by simp) hvs hx hK;have hrun:(execOp a.eval o).run E.P w= .ok (.value v) w':=by simp only[execOp,ho,Sem.run_bind];rw[hpa,hr];simp
       rw[hrun];exact hk
     . split at hx
       case isFalse=>cases hx
       rename_i hmb;obtain⟨v,w',m',β',hr,hrel⟩:=sQ h hd (hmb:=hmb) (vs:=parts.toList.map fun p=>(p.1,a.eval p.2)) (by simp) hvs hx;have hrun:(execOp a.eval o).run E.P w= .ok (.value v) w':=by simp only[execOp,ho,Sem.run_bind];rw[hpa,hr];simp
       rw[hrun];exact hK _ _ _ _ hrel
   . split at hx
     . rename_i u hu;cases hx;simp only[dU] at hu;obtain⟨v,w',m',hr,hv,hb,hm⟩:=sT (m:=m) (w:=w) (P:=E.P) (vs:=parts.toList.map fun p=>(p.1,a.eval p.2)) (by simp) hvs hu;have hrun:(execOp a.eval o).run E.P w= .ok (.value v) w':=by simp only[execOp,ho,Sem.run_bind];rw[hpa,hr];simp
       rw[hrun];refine hK _ _ m' β ?_;rw[cT];exact(h.call hb hm).put hd (.of hv.bare) (dV _) (fun s sz len cs e=>by have e:u.bare=_:=e;exact(e▸hv.bare).not_row.elim) (fun s ks vs e=>by have e:u.bare=_:=e;exact(e▸hv.bare).not_mp.elim)
     . cases hx
 . rename_i t1 t2 x ho;split at hx
   . obtain⟨v,w',m',β',hr,hrel⟩:=pN h hd (aA h x) (fun s sz len cs he hb=>by obtain⟨i,rfl,hi⟩:=lz h he;exact h.own i s sz len cs hi hb) hx
     have hrun:(execOp a.eval o).run E.P w= .ok (.value v) w':=by simp only[execOp,ho,Sem.run_bind,hr,Result.andThen_ok,Sem.run_pure]
     rw[hrun];exact hK _ _ _ _ hrel
   . split at hx
     . rename_i u hu;cases hx;have hu:aH E (.convert t1 t2 x) (ev E st)=some u:=hu;obtain⟨x0,rfl⟩:∃x0,u= .x x0:=by
        simp only[aH] at hu
        repeat' split at hu
        all_goals first|(cases hu;exact⟨_,rfl⟩)|cases hu
       rw[<-ho] at hu;obtain⟨v,hr,hv⟩:=kr (ρ:=a.eval) (fun x=>aA h x) (fun x s ks vs e=>sP h e) hu;rw[hr];refine hK _ _ m β ?_;rw[cT];refine h.put hd hv.bare (dV _) (fun s sz len cs e=>?_) (fun s ks vs e=>?_)
       . have e:(V.x x0).bare=_:=e;rw[aX] at e;cases e
       . have e:(V.x x0).bare=_:=e;rw[aX] at e;cases e
     . cases hx
 . rename_i c args ts ho;split at hx
   . rename_i F hF;exact sW hE h ho hF hx hd hK
   split at hx
   case h_2=>simp at hx
   rename_i f hf;have hc:a.eval c= .func (.func f) #[] #[]:=(vF hf▸aA h c).x;split at hx
   . rename_i F hF;obtain⟨hcall,hfun⟩:=hE.fnM f F hF;have hrun:(execOp a.eval o).run E.P w= .ok (.enter f (args.map a.eval)) w:=by simp only[execOp,ho,resolve,Sem.run_bind,hc,Deferred.ofValue,Sem.run_pure,Result.andThen_ok,invoke];rw[hcall];simp
     rw[hrun];unfold zx at hx;split at hx
     case h_2=>cases hx
     rename_i d hds hdat;split at hx
     case h_2=>cases hx
     rename_i ks rs hr;split at hx
     case isFalse=>cases hx
     rename_i hn;cases hx;have:=hfun m w (args.map a.eval) _ _ _ hr hdat (by simpa using gV h args.toList hdat) (hE.keep _ _ _ h.par.2.2 h.j h.below) h.glob;refine this.mono ?_;rintro e w' ⟨g,m',rfl,hg,hM,hb,hm⟩;show K (a.put o.dst (.map (some g))) w';rw[hds];exact hK _ _ m' _ (h.newMapAt (hd d hds) hn hb hm hg hM)
   split at hx
   . rename_i F hF;obtain⟨hcall,hfun⟩:=hE.fnP f F hF;have hrun:(execOp a.eval o).run E.P w= .ok (.enter f (args.map a.eval)) w:=by simp only[execOp,ho,resolve,Sem.run_bind,hc,Deferred.ofValue,Sem.run_pure,Result.andThen_ok,invoke];rw[hcall];simp
     rw[hrun];obtain⟨ρ,hrw⟩:=h.rows;have hx0:=hx;unfold callP at hx0;split at hx0
     case isFalse=>cases hx0
     rename_i hcond;obtain⟨gs,hargs,hdom,hgn,hgm⟩:=sU h hrw (hE.high _ h.j) args.toList hcond.1 hcond.2.2.1;obtain⟨r,outs,hr,hnd,hhn,hfin⟩:=ky hE h hd hrw hx hdom hgn hgm (oC h args.toList) hK;have:=hfun m w (args.map a.eval) _ _ gs _ r outs hr (by simpa using hargs) hnd hhn (hE.keep _ _ _ h.par.2.2 h.j h.below) h.glob;refine this.mono ?_;rintro e w' ⟨v,m',rfl,hv,hb,hext,hm,ho,hown⟩;exact hfin v w' m' hv hb hext hm ho hown
   . split at hx
     . rename_i u hu;cases hx;simp only[dU,hf] at hu;split at hu
       . rename_i F hF;split at hu
         . rename_i hdat;have hr:=(en hu).1;obtain⟨hcall,hfun⟩:=hE.fn f F hF;have hrun:(execOp a.eval o).run E.P w= .ok (.enter f (args.map a.eval)) w:=by simp only[execOp,ho,resolve,Sem.run_bind,hc,Deferred.ofValue,Sem.run_pure,Result.andThen_ok,invoke];rw[hcall];simp
           rw[hrun];have:=hfun m w (args.map a.eval) _ _ hr hdat (by simpa using gV h args.toList hdat) (hE.keep _ _ _ h.par.2.2 h.j h.below) h.glob;refine this.mono ?_;rintro e w' ⟨v,m',rfl,hv,hb,hm⟩;refine hK _ _ m' β ?_;rw[cT];exact(h.call hb hm).put hd (.of hv.bare) (dV _) (fun s sz len cs e=>by have e:u.bare=_:=e;exact(e▸hv.bare).not_row.elim) (fun s ks vs e=>by have e:u.bare=_:=e;exact(e▸hv.bare).not_mp.elim)
         . simp at hu
       . simp at hu
     . cases hx
 . rename_i hnl _ _ _ _ _ hnb _ hnc;split at hx
   . rename_i u hu;cases hx;unfold dU at hu;split at hu
     . rename_i t p ho;exact absurd ho (hnl t p)
     . rename_i c args ts ho;exact absurd ho (hnc c args ts)
     . rename_i t len parts ho;exact absurd ho (hnb t len parts)
     . by_cases hmv:gp o.op=true
       . obtain⟨x,hr,rfl⟩:=sH (P:=E.P) (ρ:=a.eval) (w:=w) (fun x=>aA h x) hmv hu;rw[hr];refine hK _ _ m β ?_;simp only[cT,hmv,cond_true];refine h.put hd (aA h x) (fun sz es s he=>?_) (fun s sz len cs he hb=>?_) (fun s ks vs he=>?_)
         . cases x with
           |tmp k=>exact .inl ⟨k,rfl,rfl⟩
           |const v=>simp only[ev,dy] at he;split at he<;>cases he
           |global g=>simp only[ev,aX] at he;generalize E.G g=u at he;cases u<;>cases he
           |func f=>cases he
         . obtain⟨i,rfl,hi⟩:=lz h he;exact h.own i s sz len cs hi hb
         . obtain⟨i,_,hi⟩:=nB h he;exact⟨i,hi⟩
       . simp only[Bool.not_eq_true] at hmv;by_cases hrw:∃s sz len,u= .row s sz len
         . obtain⟨s,sz,len,rfl⟩:=hrw;obtain⟨v,hr,hv,ho⟩:=wJ h hmv hu;rw[hr];refine hK _ _ m β ?_;rw[ns];exact h.put hd hv (fun sz es s he=>by cases he) (fun s sz len cs he hb=>by cases he;exact ho cs hb) (fun s ks vs e=>by cases e)
         . obtain⟨v,hr,hv⟩:=kr (ρ:=a.eval) (fun x=>aA h x) (fun x s ks vs e=>sP h e) hu;rw[hr];refine hK _ _ m β ?_;simp only[cT];rw[hmv];refine h.put hd hv.bare (dV _) (fun s sz len cs e=>?_) (fun s ks vs e=>?_)
           . exfalso;have e:u.bare=_:=e;rw[aX] at e;cases u<;>first|exact hrw ⟨_,_,_,rfl⟩|cases e
           . exfalso;have e:u.bare=_:=e;rw[aX] at e;cases u<;>first|exact sR hmv hu|cases e
   . simp at hx
theorem kA (hE:EnvX E pm) (h:Rel E n pm m0 w0 m β st a w) {o:Oper} {st':St} (hx:dc E o st=some st') (hd:∀k,o.dst=some k->k<n)
 {K:Act->World->Prop} {Q:Exit->Act->World->Prop} (hK:∀a' w' m' β',Rel E n pm m0 w0 m' β' st' a' w'->K a' w'):o.wp E.P a w K Q:=by
 unfold dc at hx;split at hx
 . rename_i hfz;split at hx
   case h_2=>cases hx
   rename_i x hmv;obtain⟨m',hrel⟩:=mV hE h hfz hd hx;have hrun:(execOp a.eval o).run E.P w= .ok (.value (a.eval x)) w:=by
    unfold Dy at hmv;split at hmv
    . rename_i x' ho;cases hmv;simp[execOp,ho]
    . rename_i x' ho;cases hmv;simp[execOp,ho]
    . cases hmv
   unfold Oper.wp;rw[hrun];exact hK _ _ _ _ hrel
 . exact pQ hE h hx hd hK
end
end Go.Proofs.Ytldnpcolhdnkdaa
