/- MPG -/
import Derived.Test.YtiepfeebmnfbdaaGreatMPA
import Derived.Laws.CopyRow
import Derived.Laws.CopyOwn
import Derived.Lib.AppendStr
import Derived.Lib.ConvBytes
import Derived.Laws.BytesString
namespace Go.Proofs.YtiepfeebmnfbdaaGreat
noncomputable section
set_option linter.unusedSimpArgs false
open Go Go.RowKit
theorem wE{P:Prop}(h:P:=by split at h<;>(try split at h)<;>simp at h):P:=h
theorem vy{P:Prop}(h:P:=by refine hK _ _ m' β ?_;rw[dZ];exact(h.call hb hm).put hd (.of hv.bare) (fD _) (fun s sz len cs e=>by have e:u.bare=_:=e;exact(e▸hv.bare).not_row.elim) (fun s ks vs e=>by have e:u.bare=_:=e;exact(e▸hv.bare).not_mp.elim)):P:=h
theorem u4{P:Prop}(h:P:=by exact h.put hd (.of hv.bare) (fD _) (fun s sz len cs e=>by have e:u.bare=_:=e;exact(e▸hv.bare).not_row.elim) (fun s ks vs e=>by have e:u.bare=_:=e;exact(e▸hv.bare).not_mp.elim)):P:=h
theorem u5{P:Prop}(h:P:=by split at h<;>simp at h):P:=h
theorem rH{P:Prop}(h:P:=by rw[hrun];exact hK _ _ _ _ hrel):P:=h
theorem pO{P:Prop}(h:P:=by rename_i e;rw[adq e];exact .inl ⟨i,hi,rfl⟩):P:=h
theorem mo{P:Prop}(h:P:=by exact((h.tmps i).mono he).beta (fun s' hs'=>ah _ _ (fun e=>hn i (by rw[hs',e])))):P:=h
theorem Zz{P:Prop}(h:P:=by obtain⟨⟨i',hi'⟩,hb⟩:=ht i s ks vs hi;obtain⟨⟨j',hj'⟩,hb'⟩:=ht j s' ks' vs' hj;rw[hb,hb'] at e;exact h.inj _ _ _ _ _ _ _ _ hi' hj' e):P:=h
theorem Zy{P:Prop}(h:P:=by simp only[upd] at hf;rw[adq (aer hb)] at hf;exact⟨fr,hf,adp _⟩):P:=h
theorem Zx{P:Prop}(h:P:=by obtain⟨q1,q2⟩:=hsz hi;obtain⟨q3,q4⟩:=hsz hj;rw[ah _ _ q1,ah _ _ q3] at e;exact h.maps.inj _ _ _ _ _ _ _ _ hi hj e):P:=h
theorem Zw{P:Prop}(h:P:=by obtain⟨q1,q2⟩:=hb' h1;obtain⟨q3,q4⟩:=hb' h2;rw[ah _ _ q1,ah _ _ q3] at heq;exact h.inj _ _ _ _ q2 q4 heq):P:=h
theorem Zs{P:Prop}(h:P:=by simp only[h0,adw,Gc,hzr,Gd,Ge,this,hcs',newRow,run_newObj];rfl):P:=h
theorem Zr{P:Prop}(h:P:=by exact plain (fun s e=>by cases e) (fun nl sz es k e=>by cases e) (fun s ks vs e=>by cases e) rfl):P:=h
theorem Zq{P:Prop}(h:P:=by exact⟨[],Flat.nil sz,rfl,run_firstCells_some w sz 0 _ _ _ [] A0k A0k,fun h=>absurd rfl h⟩):P:=h
theorem Zp{P:Prop}(h:P:=by have:=(f9 h).2;simp[V.notPtr] at this):P:=h
theorem Zo{P:Prop}(h:P:=by simp only[h0,adB,Gc,Gd,Ge,e0,hcs',newRow,run_newObj];rfl):P:=h
theorem Zn{P:Prop}(h:P:=by exact⟨⟨by rw[h2];exact hl,vals,ty,xs,rest,by rw[h1];exact hh,hx,hr.mono he⟩,hge⟩):P:=h
theorem Zm{P:Prop}(h:P:=by exact h.mold.1 blk hb hy):P:=h
theorem Zl{P:Prop}(h:P:=by exact .inr ⟨k,c,j,h1,h2,h3,h4⟩):P:=h
theorem Zk{P:Prop}(h:P:=by simp only[ev,eO] at he;split at he<;>cases he):P:=h
theorem Zd{P:Prop}(h:P:=by obtain⟨⟨_,_,hh2,_⟩,_⟩:=h.maps.holds _ _ _ _ hi;rw[e,hh2] at hh;cases hh):P:=h
theorem ZZ{P:Prop}(h:P:=by rw[cell_setRow_other w _ _ _ hne];exact hc):P:=h
theorem ZX{P:Prop}(h:P:=by obtain⟨q1,q2⟩:=hb' hk;rw[ah _ _ q1];exact hr.box _ _ _ _ _ _ hi q2):P:=h
def V.cell:V->Bool
 | .undef=>false
 | .ptr .. =>false
 | .row .. =>false
 | .bx _=>false
 | .mp .. =>false
 | .x (.agg _)=>false
 | .x (.tuple _)=>false
 | .agg _=>false
 | .tup _=>false
 |_=>true
def noPtrTo(s:Nat)(t:Nat->V):Prop:=∀i,(t i).nm≠some s
def mw(E:Env)(b:Nat->Option U)(t:TypeId)(p:V):Option V:=
 match p with
 | .ptr s off=>match b s with
   | some cs=>match E.MB s,aR E.P t with
     |true,some true=>dp E.P t (cs.map V.pc) off
     |_,_=>dp E.P t cs off
   |none=>none
 | .ip cs=>dp E.P t cs 0
 |_=>none
def iG(E:Env)(st:St)(t:TypeId)(p u:V):Option St:=
 match p with
 | .ptr s off=>match st.b s with
   | some cs=>
     if u.bare.dat=true∧u.bare.cells.all V.cell=true∧bo E.P t=some u.bare.cells.length∧E.okS s u=true∧off+u.bare.cells.length<=cs.length then
      some ⟨st.t,upd st.b s (some (cs.take off++(E.kept s u).cells++cs.drop (off+u.bare.cells.length)))⟩
     else none
   |none=>none
 |_=>none
def gF(st:St)(d:Option Tmp)(cs:U):Option St:=
 match d with
 |some s=>open Classical in if noPtrTo s st.t then some ⟨upd st.t s (.ptr s 0),upd st.b s (some cs)⟩ else none
 |none=>none
def Ic(P:Program)(t:TypeId)(len:Nat)(parts:List (Nat×V)):Option V:=
 match P.underlying t with
 | some (.slice el)=>match bo P el,aB P el with
   |some n,some _=>if parts.map (·.1)=List.range len∧len*n<=16777216∧(parts.all fun p=>p.2.dat&&decide (p.2.cells.length=n))=true then some (.sl false n (parts.map (·.2)) none) else none
   |_,_=>none
 |_=>none
def Env.own(E:Env):Option Tmp->Bool
 |some d=>E.M d
 |none=>false
def M3(P:Program)(st:St)(d:Option Tmp)(t:TypeId)(len:Nat)(parts:List (Nat×V)):Option St:=
 match d,P.underlying t with
 | some s,some (.slice el)=>match bo P el,aB P el with
   |some n,some _=>open Classical in if noPtrTo s st.t∧parts.map (·.1)=List.range len∧len*n<=16777216∧(parts.all fun p=>p.2.dat&&decide (p.2.cells.length=n))=true then
    some ⟨upd st.t s (.row s n len),upd st.b s (some (parts.flatMap fun p=>p.2.cells))⟩ else none
   |_,_=>none
 |_,_=>none
def Env.litD(E:Env):Option Tmp->Bool
 |some d=>E.lit d
 |none=>false
def fO(s:ByteArray):U:=s.data.toList.map fun b=> .x (.int .u8 b.toNat)
def bt(E:Env)(st:St)(d:Option Tmp)(el:TypeId)(a b:V):Option St:=
 match d,bo E.P el,bY E.P el,aB E.P el with
 | some d,some n,some by',some z=>
   match a,b with
   | .sl true _ [] tk,.sl _ sz' es' _=>
     if n≠0∧z.length=n∧(sz'=n∨es'=[])∧(es'.all fun u=>u.cells.all V.cell)=true∧es'.length*by'<=140737488355328∧es'.length<=9223372036854775807 then
      some ⟨upd (nn tk (strip d st.t)) d (.sl es'.isEmpty n es' (some d)),tJ E tk (aG E d st.b)⟩
     else none
   | .sl false sz es (some k),.sl _ sz' es' _=>
     if n≠0∧z.length=n∧sz=n∧(sz'=n∨es'=[])∧(es'.all fun u=>u.cells.all V.cell)=true∧(es.length+es'.length)*by'<=140737488355328∧es.length+es'.length<=9223372036854775807 then
      some ⟨upd (strip k (strip d st.t)) d (.sl false n (es++es') (some d)),aG E k (aG E d st.b)⟩
     else none
   | .row s sz len,.sl _ sz' es' _=>match st.b s with
     | some cs=>
       if n≠0∧z.length=n∧sz=n∧(sz'=n∨es'=[])∧(es'.all fun u=>u.cells.all V.cell)=true∧(len+es'.length)*by'<=140737488355328∧len+es'.length<=9223372036854775807∧E.MB d=false then
        some ⟨upd (kill s (kill d st.t)) d (.row d n (len+es'.length)),upd (upd st.b s none) d (some (cs.take (len*n)++es'.flatMap V.cells))⟩
       else none
     |none=>none
   |_,_=>none
 |_,_,_,_=>none
def Dm(E:Env)(st:St)(d:Option Tmp)(el:TypeId)(l c:V):Option St:=
 match d,bo E.P el,bY E.P el,aB E.P el with
 | some d,some n,some by',some z=>
   match l,c with
   | .x (.int _ l),.x (.int _ c)=>
     if z.length=n∧l=0∧0<=c∧(by':Int)*c<=281474976710656∧c<=9223372036854775807 then some ⟨upd (strip d st.t) d (.sl false n [] (some d)),aG E d st.b⟩ else none
   |_,_=>none
 |_,_,_,_=>none
def Dn(E:Env)(st:St)(d:Option Tmp)(el:TypeId)(l c:V):Option St:=
 match d,bo E.P el,bY E.P el,aB E.P el with
 | some d,some n,some by',some z=>
   match l,c with
   | .x (.int _ l),.x (.int _ c)=>
     open Classical in if noPtrTo d st.t∧z.length=n∧l=c∧0<=c∧(by':Int)*c<=281474976710656∧c<=9223372036854775807∧E.okN (some d) (List.replicate c.toNat z).flatten=true then
      some ⟨upd st.t d (.row d n c.toNat),upd st.b d (some (List.replicate c.toNat z).flatten)⟩ else none
   |_,_=>none
 |_,_,_,_=>none
def eU(sz:Nat):Nat->U->U
 |0,_=>[]
 |k+1,cs=>(if sz=1 then (cs[0]?).getD (.agg (cs.take sz)) else .agg (cs.take sz))::eU sz k (cs.drop sz)
theorem vK:∃f:Nat->Nat->U->U,∀sz k cs,f sz k cs=eU sz k cs:=⟨eU,fun _ _ _=>rfl⟩
def tK:Nat->Nat->U->U:=Classical.choose vK
theorem sh(sz k:Nat)(cs:U):tK sz k cs=eU sz k cs:=ad7 vK sz k cs
def Env.fzO(E:Env):Option Tmp->Bool
 |some d=>E.fz d
 |none=>false
def oQ(E:Env)(st:St)(d:Option Tmp)(u:V):Option St:=
 match d,u with
 | some d,.row s sz len=>match st.b s with
   |some cs=>if sz≠0∧E.MB s=false∧cs.all V.dat=true∧cs.all V.cell=true then some ⟨upd (kill s st.t) d (.sl false sz (tK sz len cs) none),upd st.b s none⟩ else none
   |none=>none
 |some d,.mp s ks vs=>some ⟨upd (kill s st.t) d (.fm ks vs),upd st.b s none⟩
 | some d,.ptr s 0=>match st.b s with
   |some cs=>if E.MB s=false∧cs.all V.dat=true then some ⟨upd (kill s st.t) d (.ip cs),upd st.b s none⟩ else none
   |none=>none
 |_,_=>none
def Al:V->Option FuncId
 | .x (.func (.func f) ⟨[]⟩ ⟨[]⟩)=>some f
 |_=>none
theorem EU(f:FuncId):Al (.x (.func (.func f) #[] #[]))=some f:=rfl
variable{u:V}
theorem Dp{f:FuncId}(h:Al u=some f):u= .x (.func (.func f) #[] #[]):=by
 unfold Al at h;split at h
 . cases h;rfl
 . cases h
def fC(E:Env)(op:Op)(e:Operand->V)(b:Nat->Option U):Option V:=
 match op with
 | .load t p=>np (mw E b t (e p))
 | .call {callee:= .value c,args,..}=>match Al (e c) with
   | some f=>match E.F f with
     | some F=>if (args.toList.map fun x=>(e x).bare).all V.dat=true then
      np (F (args.toList.map fun x=>(e x).bare))
       else none
     |none=>none
   |none=>none
 | .buildSlice t len parts=>Ic E.P t len (parts.toList.map fun p=>(p.1,(e p.2).bare))
 |op=>aW E op e
def Am:Bool->Nat->U->Option Nat->V
 |true,_,_,_=> .sl true 0 [] (some 0)
 |false,sz,es,none=> .sl false sz es none
 |false,sz,es,some _=> .sl false sz es (some 0)
def gG(b:Nat->Option U):V->V
 | .ptr s 0=>match b s with
   |some cs=> .bx cs
   |none=> .undef
 | .sl nl sz es tok=>Am nl sz es tok
 | .mp _ ks vs=> .mp 0 ks vs
 |u=>u.bare
def dI:U->List Nat
 |[]=>[]
 | .mp s _ _::l=>s::dI l
 |_::l=>dI l
def bO:U->List Nat
 |[]=>[]
 | .ptr s 0::l=>s::bO l
 |_::l=>bO l
def bB:U->List Nat
 |[]=>[]
 | .sl _ _ _ (some k)::l=>k::bB l
 |_::l=>bB l
def V.datP:V->Bool
 | .bx _=>true
 | .sl _ _ _ (some _)=>true
 | .mp .. =>true
 |u=>u.dat
def vL:(Nat->Option U)->List Nat->List U->Option ((Nat->Option U)×List U)
 |b,[],cs=>some (b,cs)
 |b,s::ss,c::cs=>vL (upd b s (some c)) ss cs
 |_,_,_=>none
def si:(Nat->V)->List Nat->List U->Option (Nat->V)
 |t,[],[]=>some t
 |t,s::ss,[.mp _ ks vs]::cs=>si (rD s ks vs t) ss cs
 |_,_,_=>none
def tL(ss:List Nat):V->V
 | .row s z l=>if ss.contains s=true then .undef else .row s z l
 |v=>v
theorem vM:∃f:List Nat->V->V,∀s u,f s u=tL s u:=⟨tL,fun _ _=>rfl⟩
def cC:List Nat->V->V:=Classical.choose vM
theorem cP(s:List Nat)(u:V):cC s u=tL s u:=ad7 vM s u
def iH(ss:List Nat)(t:Nat->V):Nat->V:=fun i=>cC ss (t i)
theorem gq(ss:List Nat)(u:V):cC ss u=u∧(∀s z l,u= .row s z l->s∉ss)∨cC ss u= .undef:=by
 rw[cP];cases u<;>try exact .inl ⟨rfl,fun _ _ _ h=>by cases h⟩
 rename_i s z l;simp only[tL];by_cases h:ss.contains s=true
 . rw[adl h];exact .inr rfl
 . rw[adq h];refine .inl ⟨rfl,fun s' z' l' e=>?_⟩;cases e;intro hm;exact h (ae4.2 hm)
def stripL:List Nat->(Nat->V)->(Nat->V)
 |[],t=>t
 |k::ks,t=>strip k (stripL ks t)
def eI(E:Env):List Nat->(Nat->Option U)->(Nat->Option U)
 |[],b=>b
 |k::ks,b=>aG E k (eI E ks b)
def kW(E:Env)(st:St)(d:Option Tmp)(r:V):St:=
 match d,r with
 |some d,.sl nl sz es (some _)=>⟨upd (strip d st.t) d (.sl nl sz es (some d)),aG E d st.b⟩
 |d,r=>st.put d r.bare
def T7:Bool->Option U->Bool
 |true,some c=>c.all V.unm
 |_,_=>true
def Ie(E:Env)(b:Nat->Option U):List Nat->Bool
 |[]=>true
 | s::ss=>match T7 (E.MB s) (b s) with
   |true=>Ie E b ss
   |false=>false
theorem Dq{E:Env}{b:Nat->Option U}:∀{ss:List Nat},Ie E b ss=true->∀s∈ss,E.MB s=true->∀c,b s=some c->c.all V.unm=true
 | s ::ss,h,k,hk,hm,c,hc=>by
   unfold Ie at h;split at h
   . rename_i h1;rcases adA.1 hk with rfl|hk
     . rw[hm,hc] at h1;exact h1
     . exact Dq h k hk hm c hc
   . cases h
def callP(E:Env)(st:St)(d:Option Tmp)(F:U->Option (V×List U))(vs:U):Option St:=
 if (vs.map (gG st.b)).all V.datP=true∧(bO vs).Nodup∧(bB vs).Nodup∧(dI vs).Nodup then
  match F (vs.map (gG st.b)) with
  | some (r,outs)=>match r.notPtr,vL (eI E (bB vs) st.b) (bO vs) outs with
    | true,some (b',rest)=>match Ie E b' (bO vs),si (iH (bO vs) (stripL (bB vs) st.t)) (dI vs) rest with
      |true,some t'=>some (kW E ⟨t',b'⟩ d r)
      |_,_=>none
    |_,_=>none
  |none=>none
 else none
def jP(E:Env):V->Option (U->Option (V×List U))
 | .x (.func (.func f) ⟨[]⟩ ⟨lb⟩)=>E.X f lb
 |_=>none
def M4(E:Env)(st:St)(d:Option Tmp)(t:TypeId)(len:Nat)(parts:List (Nat×V)):Option St:=
 match d,E.P.underlying t with
 | some s,some (.slice el)=>match bo E.P el,aB E.P el with
   |some n,some _=>if parts.map (·.1)=List.range len∧len*n<=16777216∧(parts.all fun p=>p.2.dat&&decide (p.2.cells.length=n))=true then
    some (kW E st (some s) (.sl false n (parts.map (·.2)) (some 0))) else none
   |_,_=>none
 |_,_=>none
def If(st:St)(d:Option Tmp)(F:U->Option (U×U))(vs:U):Option St:=
 match d,vs.all V.dat with
 | some d,true=>match F vs with
   |some (ks,us)=>open Classical in if noPtrTo d st.t then some ⟨upd st.t d (.mp d ks us),upd st.b d none⟩ else none
   |none=>none
 |_,_=>none
def Dr:Option V->Bool
 |none=>true
 |some (.x (.int _ _))=>true
 |_=>false
def fX(E:Env)(o:Oper)(st:St):Option St:=
 match o.op with
 | .alloc t=>match aB E.P t with
   |some z=>if E.okN o.dst z=true then gF st o.dst z else none
   |none=>none
 | .box _ x=>if (ev E st x).bare.dat=true∧E.okN o.dst (ev E st x).bare.cells=true then gF st o.dst (ev E st x).bare.cells else none
 | .store t p x=>if o.dst.isNone=true then iG E st t (ev E st p) (ev E st x) else none
 | .load t p=>match np (mw E st.b t (ev E st p)) with
   |some u=>some (st.put o.dst (E.keepL (ev E st p) u))
   |none=>none
 | .call {callee:= .builtin .append,args,argTypes}=>match args.toList,argTypes.toList with
   | [x,y],[t,t']=>match decide (t=t'),E.P.underlying t with
     |true,some (.slice el)=>bt E st o.dst el (ev E st x) (ev E st y)
     | false,some (.slice el)=>match E.P.underlying t',ev E st y with
       |some .string,.x (.string s)=>bt E st o.dst el (ev E st x) (.l 1 (fO s))
       |_,_=>none
     |_,_=>none
   |_,_=>none
 | .makeMap t r=>match E.P.underlying t,o.dst,Dr (r.map (ev E st)) with
   |some (.map _ _),some d,true=>open Classical in if noPtrTo d st.t then some ⟨upd st.t d (.mp d [] []),upd st.b d none⟩ else none
   |_,_,_=>none
 | .mapUpdate t x k v=>match o.dst,ev E st x with
   | none,.mp s ks vs=>match ns E.P t ks vs (ev E st k).bare (ev E st v).bare with
     |some (ks',vs')=>some ⟨rD s ks' vs' st.t,st.b⟩
     |none=>none
   |_,_=>none
 | .lookup t x k ok=>match ia E.P t (ev E st x) (ev E st k).bare ok with
   |some u=>some (st.put o.dst u.bare)
   |none=>none
 | .makeSlice t l c=>match E.P.underlying t with
   | some (.slice el)=>match E.own o.dst with
     |true=>Dn E st o.dst el (ev E st l) (ev E st c)
     |false=>Dm E st o.dst el (ev E st l) (ev E st c)
   |_=>none
 | .buildSlice t len parts=>match E.own o.dst with
   | true=>match E.litD o.dst with
     |true=>M4 E st o.dst t len (parts.toList.map fun p=>(p.1,(ev E st p.2).bare))
     |false=>if E.okN o.dst ((parts.toList.map fun p=>(p.1,(ev E st p.2).bare)).flatMap fun p=>p.2.cells)=true then M3 E.P st o.dst t len (parts.toList.map fun p=>(p.1,(ev E st p.2).bare)) else none
   | false=>match fC E (.buildSlice t len parts) (ev E st) st.b with
     |some u=>some (st.put o.dst (dG (.buildSlice t len parts) u))
     |none=>none
 | .convert t1 t2 x=>match E.own o.dst with
   |true=>none
   | false=>match fC E (.convert t1 t2 x) (ev E st) st.b with
     |some u=>some (st.put o.dst (dG (.convert t1 t2 x) u))
     |none=>none
 | .call { callee:= .value c,args,argTypes}=>match jP E (ev E st c) with
   |some F=>callP E st o.dst F (args.toList.map (ev E st)++[.ptr E.xk 0])
   | none=>match Al (ev E st c) with
     | some f=>match E.FM f with
       |some F=>If st o.dst F (args.toList.map fun x=>(ev E st x).bare)
       | none=>match E.FP f with
         |some F=>callP E st o.dst F (args.toList.map (ev E st))
         | none=>match fC E (.call {callee:= .value c,args,argTypes}) (ev E st) st.b with
           |some u=>some (st.put o.dst (dG (.call {callee:= .value c,args,argTypes}) u))
           |none=>none
     |none=>none
 | op=>match fC E op (ev E st) st.b with
   |some u=>some (st.put o.dst (dG op u))
   |none=>none
def M5:Op->Option Operand
 | .move x=>some x
 | .assign x=>some x
 |_=>none
def dt(E:Env)(o:Oper)(st:St):Option St:=
 match E.fzO o.dst with
 | true=>match M5 o.op with
   |some x=>oQ E st o.dst (ev E st x)
   |none=>none
 |false=>fX E o st
structure Bel (X:List Nat) (w0 w:World):Prop where
 os:w.os=w0.os
 tape:w.tape=w0.tape
 output:w.output=w0.output
 size:w0.heap.size<=w.heap.size
 block:∀k,k<w0.heap.size->k∉X->w.heap[k]?=w0.heap[k]?
theorem Bel.refl(X:List Nat)(w:World):Bel X w w:=⟨rfl,rfl,rfl,adp _,fun _ _ _=>rfl⟩
variable{X:List Nat}{a:World}
theorem Bel.trans{B:Nat}{b c:World}(h:Bel X a b)(k:Below B b c)(hB:a.heap.size<=B):Bel X a c:=
 ⟨k.os.trans h.os,k.tape.trans h.tape,k.output.trans h.output,adJ h.size k.size,fun i hi hx=>(k.block i (ad1 hi hB)).trans (h.block i hi hx)⟩
variable{w:World}
theorem Bel.drew(h:Bel X a w):Bel X a w.drew:=⟨h.os,h.tape,h.output,h.size,h.block⟩
theorem Bel.alloc(h:Bel X a w)(hB:a.heap.size<=w.heap.size)(o:Obj):Bel X a (w.alloc o):=
 ⟨h.os,h.tape,h.output,A0F,fun k hk hx=>(Below.heap_alloc _ _ _ A0b).trans (h.block k hk hx)⟩
variable{g:Nat}
theorem Bel.setRow(h:Bel X a w)(hg:a.heap.size<=g∨g∈X)(cs:Array Value):Bel X a (w.setRow g cs):=
 ⟨h.os,h.tape,h.output,by have:=h.size;simp only[World.setRow];simpa using this,fun k hk hx=>(setRow_other w g k cs (by rintro rfl;rcases hg with hg|hg;exact absurd hk (ad0.2 hg);exact hx hg)).trans (h.block k hk hx)⟩
variable{w0:World}
theorem Bel.below(h:Bel [] w0 w):Below w0.heap.size w0 w:=⟨h.os,h.tape,h.output,h.size,fun k hk=>h.block k hk A0k ⟩
theorem Bel.step{X Y:List Nat}{a w w':World}(h:Bel X a w)(k:Bel Y w w')(hY:∀y∈Y,a.heap.size<=y∨y∈X):Bel X a w':=
 ⟨k.os.trans h.os,k.tape.trans h.tape,k.output.trans h.output,adJ h.size k.size,fun i hi hx=>(k.block i (ad1 hi h.size) (fun hy=>by rcases hY i hy with h1|h1;exact absurd hi (ad0.2 h1);exact hx h1)).trans (h.block i hi hx)⟩
structure Pm where
 X:List Nat
 b:Nat->Nat
 Y:List Nat
 D:List Deferred
structure TyAt (n:Nat) where
 ty:TypeId
 fz:Nat×Nat
 ok:fz.2=0∨n<=fz.1
def TyAt.plain{n:Nat}(ty:TypeId):TyAt n:=⟨ty,(0,0),.inl rfl⟩
def TyAt.to{n n':Nat}(t:TyAt n)(h:n'=n):TyAt n':=⟨t.ty,t.fz,by rw[h];exact t.ok⟩
structure BoxAt (m:Lim) (w:World) (blk:Nat) (cs:U):Prop where
 lim:m blk=some 0
 is:∃(vals:Array Value) (ty:TyAt vals.size) (xs rest:List Value),w.heap[blk]?=some (.cells vals ty.ty ty.fz)∧vals.toList=xs++rest∧RdL m w xs cs
structure RowAt (m:Lim) (pm:Pm) (w0 w:World) (v:Value) (g sz len:Nat):Prop where
 lo:w0.heap.size<=g∨g∈pm.Y
 lim:m g=some (len*sz)
 is:∃cap cur ty,v= .s g len cap∧w.heap[g]?=some (.cells cur ty (0,0))∧len<=cap∧cur.size=cap*sz
def Bear(E:Env)(w:World)(β:Nat->Nat)(st:St)(tm:Nat->Value)(v:Value)(u:V):Prop:=
 (∃i,st.t i=u∧tm i=v)∨∃k cs j,E.MB k=true∧st.b k=some cs∧cs[j]?=some u∧w.cell? ⟨β k,j,none⟩=some v
structure Rows (E:Env) (m:Lim) (pm:Pm) (w0 w:World) (β:Nat->Nat) (st:St) (tm:Nat->Value) (ρ:Nat->Nat):Prop where
 row:∀v sz es s,Bear E w β st tm v (.sl false sz es (some s))->RowAt m pm w0 w v (ρ s) sz es.length
 sep:∀v sz es s v' sz' es' s',Bear E w β st tm v (.sl false sz es (some s))->Bear E w β st tm v' (.sl false sz' es' (some s'))->ρ s=ρ s'->s=s'
 box:∀v sz es s k cs,Bear E w β st tm v (.sl false sz es (some s))->st.b k=some cs->β k≠ρ s
structure OwnAt (w:World) (β:Nat->Nat) (v:Value) (s sz len:Nat) (cs:U):Prop where
 fit:len*sz<=cs.length
 is:∃(cap:Nat) (cur:Array Value) (ty:TyAt cur.size),v= .slice (some ⟨β s,0,none⟩) len cap∧w.heap[β s]?=some (.cells cur ty.ty ty.fz)∧cur.size=cap*sz
def Own(w:World)(β:Nat->Nat)(st:St)(tm:Nat->Value):Prop:=
 ∀i s sz len cs,st.t i= .row s sz len->st.b s=some cs->OwnAt w β (tm i) s sz len cs
variable{w':World}{β β':Nat->Nat}{st':St}{tm tm':Nat->Value}
theorem Own.sub{st:St}(h:Own w β st tm)
 (ht:∀i s sz len cs',st'.t i= .row s sz len->st'.b s=some cs'->∃j cs,st.t j= .row s sz len∧tm j=tm' i∧st.b s=some cs∧cs.length<=cs'.length∧β' s=β s∧
  ∀(cur:Array Value) (ty:TyAt cur.size),w.heap[β s]?=some (.cells cur ty.ty ty.fz)->∃(cur':Array Value) (ty':TyAt cur'.size),w'.heap[β s]?=some (.cells cur' ty'.ty ty'.fz)∧cur'.size=cur.size):Own w' β' st' tm':=by
 intro i s sz len cs' hi hb;obtain⟨j,cs,h1,h2,h3,h4,h5,h6⟩:=ht i s sz len cs' hi hb;obtain⟨hl,cap,cur,ty,hv,hh,hs⟩:=h j s sz len cs h1 h3;obtain⟨cur',ty',h7,h8⟩:=h6 cur ty hh;exact⟨adJ hl h4,cap,cur',ty',by rw[<-h2,hv,h5],by rw[h5];exact h7,by rw[h8];exact hs⟩
structure Maps (pm:Pm) (m:Lim) (w0 w:World) (β:Nat->Nat) (t:Nat->V):Prop where
 holds:∀i s ks vs,t i= .mp s ks vs->MapAt m w (β s) ks vs∧(w0.heap.size<=β s∨β s∈pm.X)
 inj:∀i j s s' ks vs ks' vs',t i= .mp s ks vs->t j= .mp s' ks' vs'->β s=β s'->s=s'
variable{pm:Pm}{m m':Lim}{t':Nat->V}
theorem Maps.to{t:Nat->V}(h:Maps pm m w0 w β t)(ht:∀i s ks vs,t' i= .mp s ks vs->(∃j,t j= .mp s ks vs)∧β' s=β s)(he:Ext m w m' w')
 (hw:∀g e c,w.heap[g]?=some (.map e c)->(w0.heap.size<=g∨g∈pm.X)->w'.heap[g]?=some (.map e c)∧m' g=m g):Maps pm m' w0 w' β' t':=by
 refine⟨fun i s ks vs hi=>?_,fun i j s s' ks vs ks' vs' hi hj e=>?_⟩
 . obtain⟨⟨j,hj⟩,hb⟩:=ht i s ks vs hi;obtain⟨⟨ents,clock,hh,hrd,h1,h2,hlim⟩,h3⟩:=h.holds j s ks vs hj;rw[hb];exact⟨⟨ents,clock,(hw _ _ _ hh h3).1,hrd.mono he,h1,h2,by rw[(hw _ _ _ hh h3).2];exact hlim⟩,h3⟩
 . exact Zz
theorem Maps.on{t:Nat->V}(h:Maps pm m w0 w β t)(ht:∀i s ks vs,t' i= .mp s ks vs->(∃j,t j= .mp s ks vs)∧β' s=β s)(he:Ext m w m' w')
 (hw:∀i s ks vs,t i= .mp s ks vs->∀e c,w.heap[β s]?=some (.map e c)->w'.heap[β s]?=some (.map e c)∧m' (β s)=m (β s)):Maps pm m' w0 w' β' t':=by
 refine⟨fun i s ks vs hi=>?_,fun i j s s' ks vs ks' vs' hi hj e=>?_⟩
 . obtain⟨⟨j,hj⟩,hb⟩:=ht i s ks vs hi;obtain⟨⟨ents,clock,hh,hrd,h1,h2,hlim⟩,h3⟩:=h.holds j s ks vs hj;rw[hb];exact⟨⟨ents,clock,(hw _ _ _ _ hj _ _ hh).1,hrd.mono he,h1,h2,by rw[(hw _ _ _ _ hj _ _ hh).2];exact hlim⟩,h3⟩
 . exact Zz
structure Rel (E:Env) (n:Nat) (pm:Pm) (m0:Lim) (w0:World) (m:Lim) (β:Nat->Nat) (st:St) (a:Act) (w:World):Prop where
 tmps:∀i,Rs m w β (a.tmps.getD i undef) (st.t i)
 size:a.tmps.size=n
 boxes:∀s cs,st.b s=some cs->BoxAt m w (β s) cs∧(w0.heap.size<=β s∨β s∈pm.X)
 inj:∀s s' cs cs',st.b s=some cs->st.b s'=some cs'->β s=β s'->s=s'
 below:Bel pm.X w0 w
 par:n<=1000∧(∀s,1000<=s->β s=pm.b s)∧∀x∈pm.X,E.K<=x
 mold:(∀blk,blk<w0.heap.size->blk∉pm.Y->m blk=m0 blk)∧Ext m0 w0 m w∧∀y∈pm.Y,y∈pm.X
 rows:∃ρ,Rows E m pm w0 w β st (fun i=>a.tmps.getD i undef) ρ
 own:Own w β st fun i=>a.tmps.getD i undef
 defers:a.defers=pm.D
 glob:∀g,Rd m w (.p g) (E.G g)
 j:E.J w0
 maps:Maps pm m w0 w β st.t
def Fun(E:Env)(f:FuncId)(F:U->Option V):Prop:=
 (∀args w,(callFunc f args).run E.P w= .ok (.enter f args) w)∧
 ∀ (m:Lim) (w:World) (vs:Array Value) (us:U) (r:V),F us=some r->us.all V.dat=true->RdL m w vs.toList us->E.J w->(∀g,Rd m w (.p g) (E.G g))->
   Calls E.P f vs w fun e w'=>∃v m',e= .returned v∧Rd m' w' v r∧Below w.heap.size w w'∧∀blk,blk<w.heap.size->m' blk=m blk
structure RowIs (m:Lim) (w:World) (v:Value) (g sz len:Nat):Prop where
 lim:m g=some (len*sz)
 is:∃cap cur ty,v= .s g len cap∧w.heap[g]?=some (.cells cur ty (0,0))∧len<=cap∧cur.size=cap*sz
inductive ArgsP (m:Lim) (w:World) (K:Nat):List Value->U->List Nat->List Nat->List Nat->Prop
 |nil:ArgsP m w K [] [] [] [] []
 |bx {b:Nat} {cs:U} {vs:List Value} {us:U} {bs gs hs:List Nat} (hb:BoxAt m w b cs) (hK:K<=b) (h:ArgsP m w K vs us bs gs hs):ArgsP m w K (.p b::vs) (.bx cs::us) (b::bs) gs hs
 |row {v:Value} {sz g:Nat} {es:U} {vs:List Value} {us:U} {bs gs hs:List Nat} (hr:Rd m w v (.sl false sz es (some 0))) (hi:RowIs m w v g sz es.length) (hK:K<=g) (h:ArgsP m w K vs us bs gs hs):ArgsP m w K (v::vs) (.sl false sz es (some 0)::us) bs (g::gs) hs
 |no {vs:List Value} {us:U} {bs gs hs:List Nat} (h:ArgsP m w K vs us bs gs hs):ArgsP m w K (.slice none 0 0::vs) (.sl true 0 [] (some 0)::us) bs gs hs
 |mp {g:Nat} {ks us':U} {vs:List Value} {us:U} {bs gs hs:List Nat} (hm:MapAt m w g ks us') (hK:K<=g) (h:ArgsP m w K vs us bs gs hs):ArgsP m w K (.map (some g)::vs) (.mp 0 ks us'::us) bs gs (g::hs)
 |dat {v:Value} {u:V} {vs:List Value} {us:U} {bs gs hs:List Nat} (hr:Rd m w v u) (hd:u.dat=true) (h:ArgsP m w K vs us bs gs hs):ArgsP m w K (v::vs) (u::us) bs gs hs
def OutsM(m:Lim)(w:World):List Nat->List U->Prop
 |[],[]=>True
 |g::hs,c::cs=>(∃k ks vs,c=[.mp k ks vs]∧MapAt m w g ks vs)∧OutsM m w hs cs
 |_,_=>False
theorem OutsM.get{m:Lim}{w:World}:∀{hs:List Nat} {cs:List U},OutsM m w hs cs->∀(i g k:Nat) (ks vs:U),hs[i]?=some g->cs[i]?=some [.mp k ks vs]->MapAt m w g ks vs
 |[],[],_,i,g,k,ks,vs,hg,_=>by simp at hg
 |g0::hs,c0::cs,h,0,g,k,ks,vs,hg,hc=>by simp at hg hc;subst hg;obtain⟨_,_,_,e,h1⟩:=h.1;rw[hc] at e;cases e;exact h1
 |g0::hs,c0::cs,h,i+1,g,k,ks,vs,hg,hc=>OutsM.get h.2 i g k ks vs (by simpa using hg) (by simpa using hc)
def OutsP(m:Lim)(w:World):List Nat->List U->Prop
 |[],[]=>True
 |b::bs,c::cs=>BoxAt m w b c∧OutsP m w bs cs
 |_,_=>False
theorem OutsP.get{m:Lim}{w:World}:∀{bs:List Nat} {cs:List U},OutsP m w bs cs->∀(i b:Nat) (c:U),bs[i]?=some b->cs[i]?=some c->BoxAt m w b c
 |[],[],_,i,b,c,hb,_=>by simp at hb
 |b0::bs,c0::cs,h,0,b,c,hb,hc=>by simp at hb hc;subst hb hc;exact h.1
 |b0::bs,c0::cs,h,i+1,b,c,hb,hc=>OutsP.get h.2 i b c (by simpa using hb) (by simpa using hc)
def FunP(E:Env)(f:FuncId)(F:U->Option (V×List U)):Prop:=
 (∀args w,(callFunc f args).run E.P w= .ok (.enter f args) w)∧
 ∀ (m:Lim) (w:World) (vs:Array Value) (us:U) (bs gs hs:List Nat) (r:V) (outs:List U),F us=some (r,outs)->ArgsP m w E.K vs.toList us bs gs hs->(bs++gs).Nodup->hs.Nodup->E.J w->(∀g,Rd m w (.p g) (E.G g))->
   Calls E.P f vs w fun e w'=>∃v m',e= .returned v∧Rd m' w' v r∧Bel (bs++(gs++hs)) w w'∧Ext m w m' w'∧(∀blk,blk<w.heap.size->blk∉gs->m' blk=m blk)∧(∃o1 o2,outs=o1++o2∧OutsP m' w' bs o1∧OutsM m' w' hs o2)∧
    ∀sz es k,r= .sl false sz es (some k)->∃g,RowIs m' w' v g sz es.length∧(w.heap.size<=g∨g∈gs)
def Re(P:Program)(f:FuncId)(args:Array Value)(w:World)(R:Value->World->Prop):Prop:=
 ((callFunc f args).run P w= .ok (.enter f args) w∧Calls P f args w fun e w'=>∃v,e= .returned v∧R v w')∨∃v w',(callFunc f args).run P w= .ok (.value v) w'∧R v w'
def FunX(E:Env)(bk:Nat)(f:FuncId)(lb:List Value)(F:U->Option (V×List U)):Prop:=
 ∀ (m:Lim) (w:World) (vs:Array Value) (us:U) (bs gs hs:List Nat) (r:V) (outs:List U),F us=some (r,outs)->ArgsP m w E.K (vs.toList++[.p bk]) us bs gs hs->(bs++gs).Nodup->hs.Nodup->E.J w->(∀g,Rd m w (.p g) (E.G g))->
   Re E.P f (vs++⟨lb⟩) w fun v w'=>∃m',Rd m' w' v r∧Bel (bs++(gs++hs)) w w'∧Ext m w m' w'∧(∀blk,blk<w.heap.size->blk∉gs->m' blk=m blk)∧(∃o1 o2,outs=o1++o2∧OutsP m' w' bs o1∧OutsM m' w' hs o2)∧
    ∀sz es k,r= .sl false sz es (some k)->∃g,RowIs m' w' v g sz es.length∧(w.heap.size<=g∨g∈gs)
def FunM(E:Env)(f:FuncId)(F:U->Option (U×U)):Prop:=
 (∀args w,(callFunc f args).run E.P w= .ok (.enter f args) w)∧
 ∀ (m:Lim) (w:World) (vs:Array Value) (us ks rs:U),F us=some (ks,rs)->us.all V.dat=true->RdL m w vs.toList us->E.J w->(∀g,Rd m w (.p g) (E.G g))->
   Calls E.P f vs w fun e w'=>∃g m',e= .returned (.map (some g))∧w.heap.size<=g∧MapAt m' w' g ks rs∧Below w.heap.size w w'∧∀blk,blk<w.heap.size->m' blk=m blk
structure EnvOK (E:Env):Prop where
 fn:∀f F,E.F f=some F->Fun E f F
 fnP:∀f F,E.FP f=some F->FunP E f F
 keep:∀X w w',(∀x∈X,E.K<=x)->E.J w->Bel X w w'->E.J w'
 high:∀w,E.J w->E.K<=w.heap.size
 noX:∀f lb,E.X f lb=none
 fnM:∀f F,E.FM f=some F->FunM E f F
structure EnvX (E:Env) (pm:Pm):Prop where
 fn:∀f F,E.F f=some F->Fun E f F
 fnP:∀f F,E.FP f=some F->FunP E f F
 keep:∀X w w',(∀x∈X,E.K<=x)->E.J w->Bel X w w'->E.J w'
 high:∀w,E.J w->E.K<=w.heap.size
 fx:∀f lb F,E.X f lb=some F->1000<=E.xk∧FunX E (pm.b E.xk) f lb F
 fz:(∀d,E.fz d=false)∨∀x∈pm.X,x∈pm.Y
 fnM:∀f F,E.FM f=some F->FunM E f F
theorem EnvOK.x{E:Env}(h:EnvOK E){pm:Pm}(hz:(∀d,E.fz d=false)∨∀x∈pm.X,x∈pm.Y):EnvX E pm:=⟨h.fn,h.fnP,h.keep,h.high,(fun f lb F e=>by rw[h.noX] at e;cases e),hz,h.fnM⟩
section
variable{E:Env}{n:Nat}{pm:Pm}{m0 m:Lim}{w0 w:World}{β:Nat->Nat}{st:St}{a:Act}
theorem Rs.mono(he:Ext m w m' w'){v:Value}{u:V}(h:Rs m w β v u):Rs m' w' β v u:=h.imp (Rd.mono he) id
variable{E':Env}
theorem Rows.to{ρ:Nat->Nat}(h:Rows E m pm w0 w β st tm ρ){m':Lim}{w':World}{β':Nat->Nat}{st':St}
 (hB:∀v sz es s,Bear E' w' β' st' tm' v (.sl false sz es (some s))->Bear E w β st tm v (.sl false sz es (some s)))
 (hw:∀v sz es s,Bear E w β st tm v (.sl false sz es (some s))->w'.heap[ρ s]?=w.heap[ρ s]?∧m' (ρ s)=m (ρ s))
 (hb:∀v sz es s k cs',Bear E w β st tm v (.sl false sz es (some s))->st'.b k=some cs'->β' k≠ρ s):Rows E' m' pm w0 w' β' st' tm' ρ:=by
 refine⟨fun v sz es s hi=>?_,fun v sz es s v' sz' es' s' hi hi' hr=>h.sep _ _ _ _ _ _ _ _ (hB _ _ _ _ hi) (hB _ _ _ _ hi') hr,fun v sz es s k cs hi hk=>hb _ _ _ _ _ _ (hB _ _ _ _ hi) hk⟩;obtain⟨lo,lim,cap,cur,ty,hv,hh,hc,hs⟩:=h.row v sz es s (hB _ _ _ _ hi);obtain⟨h1,h2⟩:=hw v sz es s (hB _ _ _ _ hi);exact⟨lo,by rw[h2];exact lim,cap,cur,ty,hv,by rw[h1];exact hh,hc,hs⟩
theorem Bear.slot{i:Nat}(h:st.t i=u):Bear E w β st tm (tm i) u:= .inl ⟨i,h,rfl⟩
variable{v:Value}
theorem Bear.from(h:Bear E' w' β' st' tm' v u)
 (ht:∀i,st'.t i=u->Bear E w β st tm (tm' i) u) (hb:∀k cs' j,E'.MB k=true->st'.b k=some cs'->cs'[j]?=some u->w'.cell? ⟨β' k,j,none⟩=some v->Bear E w β st tm v u):Bear E w β st tm v u:=by
 rcases h with⟨i,h1,h2⟩|⟨k,cs,j,h1,h2,h3,h4⟩
 . rw[<-h2];exact ht i h1
 . exact hb k cs j h1 h2 h3 h4
theorem bc{j:Nat}(h:w'.heap[g]?=w.heap[g]?):w'.cell? ⟨g,j,none⟩=w.cell? ⟨g,j,none⟩:=by simp[World.cell?,h]
theorem bG(t:Array Value)(d i:Nat)(v:Value)(hd:d<t.size):(t.setIfInBounds d v).getD i undef=if i=d then v else t.getD i undef:=by
 simp only[adC,afx];by_cases h:d=i
 . subst h;simp[hd]
 . simp[h,aeM h]
theorem Rel.put(h:Rel E n pm m0 w0 m β st a w){d:Option Tmp}(hd:∀k,d=some k->k<n){v:Value}{u:V}(hv:Rs m w β v u)
 (hk:∀sz es s,u= .sl false sz es (some s)->Bear E w β st (fun i=>a.tmps.getD i undef) v u)
 (ho:∀s sz len cs,u= .row s sz len->st.b s=some cs->OwnAt w β v s sz len cs) (hmp:∀s ks vs,u= .mp s ks vs->∃j,st.t j= .mp s ks vs):Rel E n pm m0 w0 m β (st.put d u) (a.put d v) w:=by
 cases d with
 |none=>exact h
 | some d=>
   have hlt:d<a.tmps.size:=by rw[h.size];exact hd d rfl
   refine⟨fun i=>?_,by simp[Act.put,h.size],h.boxes,h.inj,h.below,h.par,h.mold,?_,fun i s sz len cs hi hb=>?_,h.defers,h.glob,h.j,h.maps.to (fun i s ks vs hi=>⟨(by simp only[St.put,aJ] at hi;split at hi;exact hmp _ _ _ hi;exact⟨i,hi⟩),rfl⟩) (Ext.refl _ _) (fun _ _ _ h _=>⟨h,rfl⟩)⟩
   . simp only[Act.put,St.put,upd,bG _ _ _ _ hlt];split
     . exact hv
     . exact h.tmps i
   rotate_left
   . simp only[Act.put,St.put,aJ,bG _ _ _ _ hlt] at hi hb⊢;split
     . rename_i e;rw[adl e] at hi;exact ho s sz len cs hi hb
     . rename_i e;rw[adq e] at hi;exact h.own i s sz len cs hi hb
   . obtain⟨ρ,hr⟩:=h.rows;refine⟨ρ,hr.to (fun v' sz es s hi=>hi.from (fun i hi=>?_) (fun k cs j h1 h2 h3 h4=> .inr ⟨k,cs,j,h1,h2,h3,h4⟩)) (fun _ _ _ _ _=>⟨rfl,rfl⟩) hr.box⟩;simp only[Act.put,St.put,aJ,bG _ _ _ _ hlt] at hi⊢;split at hi
     . rename_i e;rw[adl e,<-hi];exact hk sz es s hi
     . exact pO
theorem Rel.ext(h:Rel E n pm m0 w0 m β st a w){m':Lim}{w':World}(he:Ext m w m' w')(hb:∀g o,w.heap[g]?=some o->(w0.heap.size<=g∨g∈pm.X)->w'.heap[g]?=w.heap[g]?∧m' g=m g)
 (hbel:Bel pm.X w0 w') (hm:∀blk,blk<w0.heap.size->blk∉pm.Y->m' blk=m0 blk):Rel E n pm m0 w0 m' β st a w':=by
 refine⟨fun i=>(h.tmps i).mono he,h.size,fun s cs hs=>?_,h.inj,hbel,h.par,⟨hm,h.mold.2.1.trans he,h.mold.2.2⟩,?_,h.own.sub (fun i s sz len cs hi hs=>⟨i,cs,hi,rfl,hs,adp _,rfl,fun cur ty hh=>?_⟩),h.defers,fun g=>(h.glob g).mono he,h.j,h.maps.to (fun i s ks vs hi=>⟨⟨i,hi⟩,rfl⟩) he (fun g e c hg ho=>⟨by rw[(hb g _ hg ho).1];exact hg,(hb g _ hg ho).2⟩)⟩
 rotate_right
 . obtain⟨_,hge⟩:=h.boxes s cs hs;exact⟨cur,ty,by rw[(hb _ _ hh hge).1];exact hh,rfl⟩
 . obtain⟨⟨hl,vals,ty,xs,rest,hh,hx,hr⟩,hge⟩:=h.boxes s cs hs;obtain⟨h1,h2⟩:=hb _ _ hh hge;exact Zn
 . obtain⟨ρ,hr⟩:=h.rows;refine⟨ρ,hr.to (fun v sz es s hi=>hi.from (fun i hi=> .inl ⟨i,hi,rfl⟩) (fun k cs j h1 h2 h3 h4=>?_)) (fun v sz es s hi=>?_) hr.box⟩
   . obtain⟨⟨_,vals,ty,xs,rest,hh,_,_⟩,hge⟩:=h.boxes k cs h2;rw[bc (hb _ _ hh hge).1] at h4;exact .inr ⟨k,cs,j,h1,h2,h3,h4⟩
   . obtain⟨lo,_,cap,cur,ty,_,hh,_⟩:=hr.row v sz es s hi;exact hb _ _ hh (lo.imp id (h.mold.2.2 _))
variable{k:Nat}
theorem ag{o:Obj}(h:w.heap[k]?=some o):k<w.heap.size:=by
 rcases aeb k w.heap.size with h'|h'
 . exact h'
 . simp[afh h'] at h
theorem Rel.call(h:Rel E n pm m0 w0 m β st a w){m':Lim}{w':World}(hb:Below w.heap.size w w')(hm:∀blk,blk<w.heap.size->m' blk=m blk):Rel E n pm m0 w0 m' β st a w':=by
 refine h.ext (Ext.of_below hb hm) (fun g o hh _=>?_) (h.below.trans hb h.below.size) (fun blk hlt hy=>?_)
 . exact⟨hb.block _ (ag hh),hm _ (ag hh)⟩
 . rw[hm blk (ad1 hlt h.below.size),h.mold.1 blk hlt hy]
theorem my:∀{ss:List Nat} {outs rest:List U} {b b':Nat->Option U},vL b ss outs=some (b',rest)->∀(s':Nat) (c':U),b' s'=some c'->(s'∉ss∧b s'=some c')∨∃i:Nat,ss[i]?=some s'∧outs[i]?=some c'
 |[],_,_,b,b',h,s',c',hs=>by cases h;exact .inl ⟨A0k,hs⟩
 | s ::ss,c::outs,rest,b,b',h,s',c',hs=>by
   have h0:vL (upd b s (some c)) ss outs=some (b',rest):=h;rcases my h0 s' c' hs with⟨h1,h2⟩|⟨i,h1,h2⟩
   . by_cases e:s'=s
     . subst e;rw[aj] at h2;cases h2;exact .inr ⟨0,rfl,rfl⟩
     . rw[ah _ _ e] at h2;exact .inl ⟨by simp[e,h1],h2⟩
   . exact .inr ⟨i+1,by simpa using h1,by simpa using h2⟩
 |_::_,[],_,b,b',h,_,_,_=>by cases h
theorem sj:∀{ss:List Nat} {outs rest:List U} {b b':Nat->Option U},vL b ss outs=some (b',rest)->∃o,outs=o++rest∧o.length=ss.length
 |[],_,_,b,b',h=>by cases h;exact⟨[],rfl,rfl⟩
 |s::ss,c::outs,rest,b,b',h=>by have h0:vL (upd b s (some c)) ss outs=some (b',rest):=h;obtain⟨o,rfl,h2⟩:=sj h0;exact⟨c::o,rfl,by simp[h2]⟩
 |_::_,[],_,b,b',h=>by cases h
theorem OutsP.len{m:Lim}{w:World}:∀{bs:List Nat} {cs:List U},OutsP m w bs cs->cs.length=bs.length
 |[],[],_=>rfl
 |_::_,_::_,h=>by simp[OutsP.len h.2]
theorem Rs.killR{ss:List Nat}(h:Rs m w β v u):Rs m w β v (cC ss u):=by
 rcases gq ss u with⟨e,_⟩|e
 . rw[e];exact h
 . rw[e];exact .of (.undef _)
theorem Rel.callP(h:Rel E n pm m0 w0 m β st a w){ρ:Nat->Nat}(hrw:Rows E m pm w0 w β st (fun i=>a.tmps.getD i undef) ρ){ss gs ms:List Nat}{outs rest o1:List U}{b':Nat->Option U}{m':Lim}{w':World}(hdom:∀s∈ss,∃cs,st.b s=some cs)(hb:Bel (ss.map β++(gs++ms)) w w')
 (he:Ext m w m' w') (hm:∀blk,blk<w.heap.size->blk∉gs->m' blk=m blk) (ho:OutsP m' w' (ss.map β) o1) (ho1:∀i c,outs[i]?=some c->i<ss.length->o1[i]?=some c) (hp:vL st.b ss outs=some (b',rest)) (hmb:∀s∈ss,E.MB s=true->∀c,b' s=some c->c.all V.unm=true)
 (hfree:∀v sz es s,Bear E w β st (fun i=>a.tmps.getD i undef) v (.sl false sz es (some s))->ρ s∉gs) (hboxg:∀s cs,st.b s=some cs->β s∉gs) (hgY:∀g∈gs,w0.heap.size<=g∨g∈pm.Y) (hgc:∀g∈gs,∃cur ty fr,w.heap[g]?=some (.cells cur ty fr))
 (hhX:∀g∈ms,w0.heap.size<=g∨g∈pm.X) (hhm:∀g∈ms,∃e c,w.heap[g]?=some (.map e c)) (hmk:∀i s ks vs,st.t i= .mp s ks vs->β s∉ms):
 Rel E n pm m0 w0 m' β ⟨iH ss st.t,b'⟩ a w'∧Rows E m' pm w0 w' β ⟨iH ss st.t,b'⟩ (fun i=>a.tmps.getD i undef) ρ∧
  (∀v sz es s,Bear E w' β ⟨iH ss st.t,b'⟩ (fun i=>a.tmps.getD i undef) v (.sl false sz es (some s))->Bear E w β st (fun i=>a.tmps.getD i undef) v (.sl false sz es (some s)))∧∀s cs,b' s=some cs->∃cs0,st.b s=some cs0:=by
 have hblk:∀{s:Nat} {cs:U},st.b s=some cs->β s<w.heap.size:=fun hs=>by obtain⟨⟨_,_,_,_,_,hh,_⟩,_⟩:=h.boxes _ _ hs;exact ag hh
 have hnot:∀{s':Nat} {c':U},st.b s'=some c'->s'∉ss->β s'∉ss.map β++(gs++ms):=fun {s' c'} hs hn hm'=>by
  rcases adv.1 hm' with hm'|hm'
  . obtain⟨s,h1,h2⟩:=ads.1 hm';obtain⟨cs,h3⟩:=hdom s h1;exact hn (h.inj _ _ _ _ h3 hs h2▸h1)
  . rcases adv.1 hm' with hm'|hm'
    . exact hboxg _ _ hs hm'
    . obtain⟨_,_,hh2⟩:=hhm _ hm';obtain⟨⟨_,_,_,_,_,hh,_⟩,_⟩:=h.boxes _ _ hs;rw[hh2] at hh;cases hh
 have hmB:∀{s:Nat} {cs:U},st.b s=some cs->m' (β s)=m (β s):=fun hs=>hm _ (hblk hs) (hboxg _ _ hs)
 have hold:∀{s':Nat} {c':U},b' s'=some c'->∃c,st.b s'=some c:=fun {s' c'} hs=>by
  rcases my hp s' c' hs with⟨_,h2⟩|⟨i,h1,_⟩
  . exact⟨_,h2⟩
  . exact hdom _ (adg h1)
 have hbear:∀v sz es s,Bear E w' β ⟨iH ss st.t,b'⟩ (fun i=>a.tmps.getD i undef) v (.sl false sz es (some s))->Bear E w β st (fun i=>a.tmps.getD i undef) v (.sl false sz es (some s)):=fun v sz es s hi=>hi.from (fun i hi=>by
  have hi:cC ss (st.t i)=_:=hi;rcases gq ss (st.t i) with⟨e,_⟩|e
  . rw[e] at hi;exact .inl ⟨i,hi,rfl⟩
  . rw[e] at hi;cases hi) (fun k c j h1 h2 h3 h4=>by
  have hns:k∉ss:=fun hm'=>by have:=adr.1 (hmb k hm' h1 c h2) _ (adg h3);cases this
  rcases my hp k c h2 with⟨_,h5⟩|⟨i,h5,_⟩
  . obtain⟨⟨_,vals,ty,xs,rest,hh,_,_⟩,_⟩:=h.boxes k c h5;rw[bc (hb.block _ (ag hh) (hnot h5 hns))] at h4;exact .inr ⟨k,c,j,h1,h5,h3,h4⟩
  . exact absurd (adg h5) hns)
 have hrows:Rows E m' pm w0 w' β ⟨iH ss st.t,b'⟩ (fun i=>a.tmps.getD i undef) ρ:=hrw.to hbear (fun v sz es s hi=>by
  obtain⟨_,_,_,_,_,_,hh,_⟩:=hrw.row v sz es s hi;refine⟨hb.block _ (ag hh) (fun hx=>?_),hm _ (ag hh) (hfree _ _ _ _ hi)⟩;rcases adv.1 hx with hx|hx
  . obtain⟨s2,h1,h2⟩:=ads.1 hx;obtain⟨cs,h3⟩:=hdom s2 h1;exact hrw.box _ _ _ _ _ _ hi h3 h2
  . rcases adv.1 hx with hx|hx
    . exact hfree _ _ _ _ hi hx
    . obtain⟨_,_,hh2⟩:=hhm _ hx;rw[hh2] at hh;cases hh) (fun v sz es s k cs hi hk=>by
  obtain⟨c0,hc0⟩:=hold hk;exact hrw.box _ _ _ _ _ _ hi hc0)
 refine⟨⟨fun i=>((h.tmps i).mono he).killR,h.size,fun s' c' hs'=>?_,fun s1 s2 c1 c2 h1 h2 heq=>?_,h.below.step hb (fun y hy=>?_),h.par,⟨fun blk hlt hy=>?_,h.mold.2.1.trans he,h.mold.2.2⟩,⟨ρ,hrows⟩,fun i s sz len c' hi hs=>?_,h.defers,fun g=>(h.glob g).mono he,h.j,h.maps.on (fun i s ks vs hi=>⟨⟨i,by have hi:cC ss (st.t i)=_:=hi;rcases gq ss (st.t i) with⟨e,_⟩|e;rw[<-e];exact hi;rw[e] at hi;cases hi⟩,rfl⟩) he (fun i s ks vs hi e c hg=>by
  refine⟨?_,hm _ (ag hg) (fun hx=>by obtain⟨_,_,_,hh⟩:=hgc _ hx;rw[hh] at hg;cases hg)⟩;rw[hb.block _ (ag hg) (fun hx=>?_)]
  . exact hg
  . rcases adv.1 hx with hx|hx
    . obtain⟨s2,h1,h2⟩:=ads.1 hx;obtain⟨cs,h3⟩:=hdom s2 h1;obtain⟨⟨_,_,_,_,_,hh,_⟩,_⟩:=h.boxes _ _ h3;rw[h2,hg] at hh;cases hh
    . rcases adv.1 hx with hx|hx
      . obtain⟨_,_,_,hh⟩:=hgc _ hx;rw[hh] at hg;cases hg
      . exact hmk _ _ _ _ hi hx)⟩,hrows,hbear,fun s cs hs=>hold hs⟩
 . obtain⟨c,hc⟩:=hold hs';refine⟨?_,(h.boxes s' c hc).2⟩;rcases my hp s' c' hs' with⟨h1,h2⟩|⟨i,h1,h2⟩
   . obtain⟨⟨hl,vals,ty,xs,rest,hh,hx,hr⟩,_⟩:=h.boxes s' c' h2;exact⟨by rw[hmB h2];exact hl,vals,ty,xs,rest,by rw[hb.block _ (ag hh) (hnot h2 h1)];exact hh,hx,hr.mono he⟩
   . exact ho.get i (β s') c' (by rw[ac9,h1];rfl) (ho1 i c' h2 (by rcases aeb i ss.length with h4|h4;exact h4;rw[adM h4] at h1;cases h1))
 . obtain⟨c1',h3⟩:=hold h1;obtain⟨c2',h4⟩:=hold h2;exact h.inj _ _ _ _ h3 h4 heq
 . rcases adv.1 hy with hy|hy
   . obtain⟨s,h1,rfl⟩:=ads.1 hy;obtain⟨cs,h3⟩:=hdom s h1;exact(h.boxes _ _ h3).2
   . rcases adv.1 hy with hy|hy
     . exact(hgY y hy).imp id (h.mold.2.2 y)
     . exact hhX y hy
 . rw[hm blk (ad1 hlt h.below.size) (fun hg=>by rcases hgY blk hg with h1|h1;omega;exact hy h1),h.mold.1 blk hlt hy]
 . have hi:cC ss (st.t i)=_:=hi;rcases gq ss (st.t i) with⟨e,hn⟩|e
   . rw[e] at hi;have hns:=hn _ _ _ hi;rcases my hp s c' hs with⟨_,h2⟩|⟨j,h1,_⟩
     . obtain⟨hl,cap,cur,ty,hv,hh,hsz⟩:=h.own i s sz len c' hi h2;exact⟨hl,cap,cur,ty,hv,by rw[hb.block _ (ag hh) (hnot h2 hns)];exact hh,hsz⟩
     . exact absurd (adg h1) hns
   . rw[e] at hi;cases hi
def ju(ss:List Nat):V->V
 | .mp s ks vs=>if s∈ss then .undef else .mp s ks vs
 |v=>v
theorem kB(ss:List Nat)(u:V):ju ss u=u∧(∀s ks vs,u= .mp s ks vs->s∉ss)∨ju ss u= .undef∧∃s ks vs,u= .mp s ks vs∧s∈ss:=by
 cases u<;>try exact .inl ⟨rfl,fun _ _ _ h=>by cases h⟩
 rename_i s ks vs;by_cases h:s∈ss
 . exact .inr ⟨adl h,s,ks,vs,rfl,h⟩
 . exact .inl ⟨adq h,fun s' k' v' e=>by cases e;exact h⟩
theorem Rel.unmap(h:Rel E n pm m0 w0 m β st a w)(ss:List Nat):Rel E n pm m0 w0 m β ⟨fun i=>ju ss (st.t i),st.b⟩ a w∧
 (∀v sz es s,Bear E w β ⟨fun i=>ju ss (st.t i),st.b⟩ (fun i=>a.tmps.getD i undef) v (.sl false sz es (some s))->Bear E w β st (fun i=>a.tmps.getD i undef) v (.sl false sz es (some s))):=by
 have hkeep:∀{i:Nat} {u:V},ju ss (st.t i)=u->u≠ .undef->st.t i=u:=fun {i u} hi hu=>by
  rcases kB ss (st.t i) with⟨e,_⟩|⟨e,_⟩
  . rw[<-e];exact hi
  . exact absurd (hi.symm.trans e) hu
 have hbear:∀v sz es s,Bear E w β ⟨fun i=>ju ss (st.t i),st.b⟩ (fun i=>a.tmps.getD i undef) v (.sl false sz es (some s))->Bear E w β st (fun i=>a.tmps.getD i undef) v (.sl false sz es (some s)):=fun v sz es s hi=>
  hi.from (fun i hi=> .inl ⟨i,hkeep hi A0I,rfl⟩) (fun k c j h1 h2 h3 h4=> .inr ⟨k,c,j,h1,h2,h3,h4⟩)
 refine⟨⟨fun i=>?_,h.size,h.boxes,h.inj,h.below,h.par,h.mold,?_,fun i s sz len c hi hs=>h.own i s sz len c (hkeep hi A0I) hs,h.defers,h.glob,h.j,h.maps.to (fun i s ks vs hi=>⟨⟨i,hkeep hi A0I ⟩,rfl⟩) (Ext.refl m w) (fun g e c hg _=>⟨hg,rfl⟩)⟩,hbear⟩
 . show Rs m w β _ (ju ss (st.t i));rcases kB ss (st.t i) with⟨e,_⟩|⟨e,_⟩
   . rw[e];exact h.tmps i
   . rw[e];exact .of (.undef _)
 . obtain⟨ρ,hr⟩:=h.rows;exact⟨ρ,hr.to hbear (fun v sz es s hi=>⟨rfl,rfl⟩) (fun v sz es s k c hi hk=>hr.box _ _ _ _ _ _ hi hk)⟩
theorem Rel.remap(h:Rel E n pm m0 w0 m β st a w){ρ:Nat->Nat}(hr:Rows E m pm w0 w β st (fun i=>a.tmps.getD i undef) ρ){t2:Nat->V}
 (ht:∀i,t2 i=st.t i∨∃s ks vs,t2 i= .mp s ks vs∧a.tmps.getD i undef= .map (some (β s))∧MapAt m w (β s) ks vs∧(w0.heap.size<=β s∨β s∈pm.X))
 (hinj:∀i j s s' ks vs ks' vs',t2 i= .mp s ks vs->t2 j= .mp s' ks' vs'->β s=β s'->s=s'):
 Rel E n pm m0 w0 m β ⟨t2,st.b⟩ a w∧Rows E m pm w0 w β ⟨t2,st.b⟩ (fun i=>a.tmps.getD i undef) ρ∧
  (∀v sz es s,Bear E w β ⟨t2,st.b⟩ (fun i=>a.tmps.getD i undef) v (.sl false sz es (some s))->Bear E w β st (fun i=>a.tmps.getD i undef) v (.sl false sz es (some s))):=by
 have hkeep:∀{i:Nat} {u:V},t2 i=u->(∀s ks vs,u≠ .mp s ks vs)->st.t i=u:=fun {i u} hi hu=>by
  rcases ht i with e|⟨s,ks,vs,e,_⟩
  . rw[<-e];exact hi
  . exact absurd (hi.symm.trans e) (hu _ _ _)
 have hbear:∀v sz es s,Bear E w β ⟨t2,st.b⟩ (fun i=>a.tmps.getD i undef) v (.sl false sz es (some s))->Bear E w β st (fun i=>a.tmps.getD i undef) v (.sl false sz es (some s)):=fun v sz es s hi=>
  hi.from (fun i hi=> .inl ⟨i,hkeep hi (by intro _ _ _ e;cases e),rfl⟩) (fun k c j h1 h2 h3 h4=> .inr ⟨k,c,j,h1,h2,h3,h4⟩)
 have hrows:Rows E m pm w0 w β ⟨t2,st.b⟩ (fun i=>a.tmps.getD i undef) ρ:=hr.to hbear (fun v sz es s hi=>⟨rfl,rfl⟩) (fun v sz es s k c hi hk=>hr.box _ _ _ _ _ _ hi hk);refine⟨⟨fun i=>?_,h.size,h.boxes,h.inj,h.below,h.par,h.mold,⟨ρ,hrows⟩,fun i s sz len c hi hs=>h.own i s sz len c (hkeep hi (by intro _ _ _ e;cases e)) hs,h.defers,h.glob,h.j,⟨fun i s ks vs hi=>?_,hinj⟩⟩,hrows,hbear⟩
 . show Rs m w β _ (t2 i);rcases ht i with e|⟨s,ks,vs,e,hv,_⟩
   . rw[e];exact h.tmps i
   . rw[e,hv];exact .ofMp _ _ _
 . have hi:t2 i=_:=hi;rcases ht i with e|⟨s',ks',vs',e,_,q1,q2⟩
   . exact h.maps.holds i s ks vs (e▸hi)
   . rw[e] at hi;cases hi;exact⟨q1,q2⟩
theorem World.heap_new(w:World)(o:Obj):(w.alloc o).heap[w.heap.size]?=some o:=by show(w.heap.push o)[w.heap.size]?=some o;simp
theorem Rel.newG(h:Rel E n pm m0 w0 m β st a w){s:Nat}(hs:s<n)(hn:noPtrTo s st.t){vals:Array Value}{ty:TypeId}{cs:U}(hr:RdL m w vals.toList cs){u:V}{v:Value}
 (hmb:E.okN (some s) cs=true) (hu:(u= .ptr s 0∧v= .pointer (some ⟨w.heap.size,0,none⟩))∨∃sz len,u= .row s sz len∧v= .slice (some ⟨w.heap.size,0,none⟩) len len∧cs.length=len*sz):
 Rel E n pm m0 w0 (upd m w.heap.size (some 0)) (upd β s w.heap.size) ⟨upd st.t s u,upd st.b s (some cs)⟩ (a.put (some s) v) (w.alloc (.cells vals ty)):=by
 have he:Ext m w (upd m w.heap.size (some 0)) (w.alloc (.cells vals ty)):=by
  refine⟨A0k,fun blk off v hb _ hc=>?_,fun blk hb fr hf=>?_,fun blk es c _ hc=>by rw[Below.heap_alloc w _ blk (eA hc)];exact hc⟩
  . rw[World.cell?_alloc_lt _ _ _ hb];exact hc
  . exact Zy
 have hold:∀k o,w.heap[k]?=some o->(w.alloc (.cells vals ty)).heap[k]?=some o:=fun k o hk=>by rw[Below.heap_alloc w _ k (ag hk)];exact hk
 have hlt:s<a.tmps.size:=by rw[h.size];exact hs
 have hus:∀nl sz es k,u≠ .sl nl sz es k:=by rcases hu with⟨rfl,_⟩|⟨_,_,rfl,_⟩<;>intros<;>simp
 refine⟨fun i=>?_,by simp[Act.put,h.size],fun s' cs' hs'=>?_,fun s1 s2 c1 c2 h1 h2 heq=>?_,h.below.alloc h.below.size _,⟨h.par.1,fun s' hs'=>(ah _ _ (by have:=h.par.1;omega)).trans (h.par.2.1 s' hs'),h.par.2.2⟩,⟨fun blk hb hy=>?_,h.mold.2.1.trans he,h.mold.2.2⟩,?_,fun i s' sz len cs' hi hb=>?_,h.defers,fun g=>(h.glob g).mono he,h.j,h.maps.to (fun i s' ks vs hi=>(by
  simp only[aJ st.t] at hi;split at hi
  . rcases hu with⟨rfl,_⟩|⟨_,_,rfl,_⟩<;>cases hi
  . exact⟨⟨i,hi⟩,ah _ _ (fun e=>hn i A1y)⟩)) he (fun g e c hg _=>⟨hold _ _ hg,ah _ _ (aer (eA hg))⟩)⟩
 rotate_right
 . simp only[Act.put,bG _ _ _ _ hlt,aJ st.t,aJ st.b] at hi hb⊢;split at hi
   . rename_i e;rw[adl e];rcases hu with⟨rfl,_⟩|⟨iI,len0,rfl,rfl,hl⟩
     . cases hi
     . cases hi;rw[adl rfl] at hb;cases hb;have hsz:=hr.length;refine⟨A0b,len,vals,.plain ty,by rw[aj],by rw[aj];exact World.heap_new w _,?_⟩;rw[<-hl,<-hsz];simp
   . rename_i e;rw[adq e];have hne:s'≠s:=fun e'=>hn i (by rw[hi,e'];rfl)
     rw[adq hne] at hb;obtain⟨hl,cap,cur,ty',hv,hh,hsz⟩:=h.own i s' sz len cs' hi hb;exact⟨hl,cap,cur,ty',by rw[ah _ _ hne];exact hv,by rw[ah _ _ hne];exact hold _ _ hh,hsz⟩
 . simp only[Act.put,bG _ _ _ _ hlt,aJ st.t];split
   . rcases hu with⟨rfl,rfl⟩|⟨iI,len0,rfl,rfl,_⟩
     . have:=Rs.ofPtr (m:=upd m w.heap.size (some 0)) (w:=w.alloc (.cells vals ty)) (β:=upd β s w.heap.size) s 0
       rwa [aj] at this
     . have:=Rs.ofRow (m:=upd m w.heap.size (some 0)) (w:=w.alloc (.cells vals ty)) (β:=upd β s w.heap.size) s iI (adp len0)
       rwa [aj] at this
   . exact mo
 . simp only[aJ st.b] at hs';split at hs'
   . rename_i e;cases hs';subst e;rw[aj];exact⟨⟨aj _ _ _,vals,.plain ty,vals.toList,[],World.heap_new w _,A0k,hr.mono he⟩,.inl h.below.size⟩
   . rename_i e;rw[ah _ _ e];obtain⟨⟨hl,vals',ty',xs,rest,hh,hx,hr'⟩,hge⟩:=h.boxes s' cs' hs';exact⟨⟨by rw[ah _ _ (aer (ag hh))];exact hl,vals',ty',xs,rest,hold _ _ hh,hx,hr'.mono he⟩,hge⟩
 . simp only[aJ] at h1 h2 heq;split at h1<;>split at h2
   . rename_i e1 e2;rw[e1,e2]
   . rename_i e1 e2;rw[adl e1,adq e2] at heq;obtain⟨⟨_,_,_,_,_,hh,_⟩,_⟩:=h.boxes s2 c2 h2;have:=ag hh;omega
   . rename_i e1 e2;rw[adq e1,adl e2] at heq;obtain⟨⟨_,_,_,_,_,hh,_⟩,_⟩:=h.boxes s1 c1 h1;have:=ag hh;omega
   . rename_i e1 e2;rw[adq e1,adq e2] at heq;exact h.inj s1 s2 c1 c2 h1 h2 heq
 . rw[ah _ _ (by have:=h.below.size;omega)];exact Zm
 . obtain⟨ρ,hrw⟩:=h.rows;have hlt':∀v sz es s',Bear E w β st (fun i=>a.tmps.getD i undef) v (.sl false sz es (some s'))->ρ s'<w.heap.size:=fun v sz es s' hi=>by obtain⟨_,_,_,_,_,_,hh,_⟩:=hrw.row v sz es s' hi;exact ag hh
   refine⟨ρ,hrw.to (fun v' sz es s' hi=>hi.from (fun i hi=>?_) (fun k c j h1 h2 h3 h4=>?_)) (fun v' sz es s' hi=>?_) (fun v' sz es s' k c hi hk=>?_)⟩
   . simp only[aJ] at hi;simp only[Act.put,bG _ _ _ _ hlt];split at hi
     . exact absurd hi (hus _ _ _ _)
     . exact pO
   . have h2:upd st.b s (some cs) k=some c:=h2;by_cases e:k=s
     . subst e;rw[aj] at h2;cases h2;simp only[Env.okN,h1,afc,afG] at hmb;have:=adr.1 hmb _ (adg h3);cases this
     . rw[ah _ _ e] at h2 h4;obtain⟨⟨_,vals',ty',xs,rest,hh,_,_⟩,_⟩:=h.boxes k c h2;rw[bc (Below.heap_alloc w _ _ (ag hh))] at h4;exact Zl
   . obtain⟨_,_,_,_,_,_,hh,_⟩:=hrw.row v' sz es s' hi;exact⟨Below.heap_alloc w _ _ (ag hh),ah _ _ (aer (ag hh))⟩
   . have hk:upd st.b s (some cs) k=some c:=hk;by_cases e:k=s
     . subst e;rw[aj];have:=hlt' _ _ _ _ hi;omega
     . rw[ah _ _ e] at hk⊢;exact hrw.box _ _ _ _ _ _ hi hk
theorem Rel.new(h:Rel E n pm m0 w0 m β st a w){s:Nat}(hs:s<n)(hn:noPtrTo s st.t){vals:Array Value}{ty:TypeId}{cs:U}(hr:RdL m w vals.toList cs)(hmb:E.okN (some s) cs=true):
 Rel E n pm m0 w0 (upd m w.heap.size (some 0)) (upd β s w.heap.size) ⟨upd st.t s (.ptr s 0),upd st.b s (some cs)⟩ (a.put (some s) (.pointer (some ⟨w.heap.size,0,none⟩))) (w.alloc (.cells vals ty)):=
 h.newG hs hn hr hmb (.inl ⟨rfl,rfl⟩)
theorem aQ(h:Rel E n pm m0 w0 m β st a w)(x:Operand):Rs m w β (a.eval x) (ev E st x):=by
 cases x with
 |tmp t=>exact h.tmps t
 |const v=>exact .of (jT v)
 |global g=>exact .of (h.glob g).bare
 |func f=>exact .of (.x _)
variable{P:Program}{off:Nat}{cs:U}
theorem jv{blk:Nat}{vals:List Value}(hc:∀(k:Nat) (v:Value),vals[k]?=some v->w.cell? ⟨blk,off+k,none⟩=some v)(hr:RdL m w vals cs)
 {t:TypeId} {u:V} (h:dp P t cs 0=some u):∃v,(Instr.loadAt t (.pointer (some ⟨blk,off,none⟩))).run P w= .ok v w∧Rd m w v u:=by
 have hlen:=hr.length;unfold dp at h;cases ha:aR P t with
 |none=>simp[ha] at h
 | some b =>
   cases hs:bo P t with
   |none=>cases b<;>simp[ha,hs] at h
   | some k=>
     cases b with
     | true=>
       simp only[ha,hs] at h;split at h
       . rename_i hle;cases h;have:=run_loadCells_list (P:=P) w ⟨blk,off,none⟩ (vals.take k) (fun j v hj=>by
          rw[aP];rw[ad6] at hj;split at hj
          . exact hc j v hj
          . simp at hj)
         have hk:(vals.take k).length=k:=A0F
         rw[hk] at this;refine⟨.agg (vals.take k).toArray,?_,Rd.agg_iff.2 ⟨_,rfl,by simpa using hr.take k⟩⟩;simp only[Instr.loadAt,Instr.sureAddr,loadVar,Gc,Gd,Ge,gE ha,adB,bN hs,this]
       . simp at h
     | false=>
       simp only[ha,hs] at h;have hlt:0<vals.length:=by
        rcases aft vals.length with h'|h'
        . rw[hlen] at h';simp[adM (Nat.le_of_eq h')] at h
        . exact h'
       have hv:vals[0]?=some vals[0]:=io hlt;refine⟨vals[0],?_,hr.get 0 _ u hv h⟩;have:=hc 0 _ hv;simp only[aeq] at this;simp only[Instr.loadAt,Instr.sureAddr,loadVar,Gc,Gd,Ge,gE ha,adI,adw,run_load,this]
variable{t:TypeId}
theorem EV:dp P t cs off=dp P t (cs.drop off) 0∨dp P t cs off=none:=by
 unfold dp;cases aR P t with
 |none=>simp
 | some b=>cases bo P t with
   |none=>cases b<;>simp
   | some k=>
     cases b
     . left;simp
     . simp only;by_cases h:off+k<=cs.length
       . left;rw[adl h,adl A0F];simp
       . right;rw[adq h]
variable{vals:Array Value}{ty:TypeId}{fr:Nat×Nat}
theorem Box.cell{blk:Nat}(hh:w.heap[blk]?=some (.cells vals ty fr))(k:Nat):w.cell? ⟨blk,k,none⟩=vals[k]?:=by simp[World.cell?,hh]
theorem _root_.Go.Proofs.YtiepfeebmnfbdaaGreat.RdL.bareL:∀{vs:List Value} {us:U},RdL m w vs us->RdL m w vs (us.map V.bare)
 |[],[],_=>trivial
 |_::_,_::_,h=>⟨h.1.bare,RdL.bareL h.2⟩
theorem _root_.Go.Proofs.YtiepfeebmnfbdaaGreat.RdL.pcL:∀{vs:List Value} {us:U},RdL m w vs us->RdL m w vs (us.map V.pc)
 |[],[],_=>trivial
 |_::_,_::_,h=>⟨h.1.pc,RdL.pcL h.2⟩
theorem od(h:Rel E n pm m0 w0 m β st a w){t:TypeId}{p:Value}{q u:V}(hp:Rs m w β p q)(hl:mw E st.b t q=some u):
 ∃v,(Instr.loadAt t p).run E.P w= .ok v w∧Rd m w v u:=by
 unfold mw at hl;split at hl
 . rename_i s off;split at hl
   . rename_i cs0 hcs;obtain rfl:=hp.ptr
     . obtain⟨⟨_,vals,ty,xs,rest,hh,hvs,hr0⟩,_⟩:=h.boxes _ _ hcs;obtain⟨cs,hl,hr⟩:∃cs,dp E.P t cs off=some u∧RdL m w xs cs:=by
        split at hl
        . exact⟨_,hl,hr0.pcL⟩
        . exact⟨_,hl,hr0⟩
       rcases EV (P:=E.P) (t:=t) (cs:=cs) (off:=off) with he|he
       . rw[he] at hl;refine jv (vals:=xs.drop off) (fun k v hk=>?_) (hr.drop off) hl;rw[Box.cell hh,<-adF,hvs];rw[aeA] at hk;have hlt:off+k<xs.length:=by
          rcases aeb (off+k) xs.length with h'|h'
          . exact h'
          . simp[adM h'] at hk
         rw[adu hlt];exact hk
       . rw[he] at hl;simp at hl
   . simp at hl
 . rename_i cs;have hp:=hp.rd A1p;cases hp with
   | ip blk off _ c hb hc hm hr=>
     refine jv (vals:=(List.range cs.length).map c) (fun k v hk=>?_) (RdL.of_get A0k (fun k v d hk hd=>?_)) hl
     . simp only[ac9,adn] at hk;obtain⟨i,hi,rfl⟩:=hk;have hlt:k<cs.length:=by
        rcases aeb k cs.length with h'|h'
        . exact h'
        . simp[h'] at hi
       rw[aeD hlt] at hi;cases hi;exact hc k hlt
     . simp only[ac9,adn] at hk;obtain⟨i,hi,rfl⟩:=hk;have hlt:k<cs.length:=by
        rcases aeb k cs.length with h'|h'
        . exact h'
        . simp[h'] at hi
       rw[aeD hlt] at hi;cases hi;exact hr k d hd
 . simp at hl
end
section
variable{E:Env}{n:Nat}{pm:Pm}{m0 m:Lim}{w0 w:World}{β:Nat->Nat}{st:St}{a:Act}
variable{v:Value}
theorem pj(h:Rd m w v u)(hu:u.cell=true):v.oneCell'=true:=by
 cases h with
 |undef v=>simp[V.cell] at hu
 |x v=>cases v<;>first|rfl|(simp[V.cell] at hu)
 |agg cs Cs hl h=>simp[V.cell] at hu
 |tup cs Cs hl h=>simp[V.cell] at hu
 |nil sz tok=>rfl
 |emp a cap sz=>rfl
 |dyn t v=>rfl
 |sl blk off cap sz es tok c hb hcap hsz hc hm hr=>rfl
 |ip blk off cs c hb hc hm hr=>rfl
 |fm blk ks vs ents clock hb hh hm hk hv hkey hbn hd hr=>rfl
theorem sk:∀{vs:List Value} {us:U},RdL m w vs us->us.all V.cell=true->∀v∈vs,v.oneCell'=true
 |[],[],_,_,v,hv=>by simp at hv
 | v0::vs,u0::us,h,hu,v,hv=>by
   simp only[aeo,ado] at hu;cases hv with
   |head=>exact pj h.1 hu.1
   |tail _ hm=>exact sk h.2 hu.2 v hm
theorem so(h:Rd m w v u)(hu:u.dat=true):RdL m w v.cells.toList u.cells:=
 h.cells (by rintro rfl;simp[V.dat] at hu) (by rintro a rfl;simp[V.dat] at hu)
theorem de(P:Program)(g o:Nat)(t:TypeId)(fz:Nat×Nat):∀(vs:List Value) (i:Nat) (cur:Array Value) (w:World),w.heap[g]?=some (.cells cur t fz)->(fz.2=0∨cur.size<=fz.1)->o+i+vs.length<=cur.size->(∀v∈vs,v.oneCell'=true)->
 (storeCells ⟨g,o,none⟩ vs i).run P w= .ok () (w.setRow g (cur.toList.take (o+i)++vs++cur.toList.drop (o+i+vs.length)).toArray)
 |[],i,cur,w,hg,_,_,_=>by simp only[storeCells,aep,adT,aeq,afq,Array.toArray_toList];rw[setRow_self w g cur t fz hg];rfl
 | v::rest,i,cur,w,hg,hfz,hl,h1=>by
   have hi:o+i<cur.size:=by simp at hl;omega
   have hcell:w.cell? ⟨g,o+i,none⟩=some cur[o+i]:=by simp[World.cell?,hg,hi]
   have hfro:w.frozen? ⟨g,o+i,none⟩=false:=by
    simp only[World.frozen?,hg,Bool.and_eq_false_iff,decide_eq_false_iff_not];rcases hfz with h2|h2
    . right;omega
    . left;omega
   have hst:(store ((⟨g,o,none⟩:Addr).add i) v).run P w= .ok () (w.setRow g (cur.setIfInBounds (o+i) v)):=by rw[aP,run_store P w _ v _ (h1 v A0k),hcell];simp[hfro,setCell_eq_setRow w g (o+i) cur t fz v hg]
   have ih:=de P g o t fz rest (i+1) (cur.setIfInBounds (o+i) v) (w.setRow g (cur.setIfInBounds (o+i) v)) (setRow_heap w g cur _ t _ hg) (by simpa using hfz) (by simp at hl⊢;omega) (fun x hx=>h1 x (by simp[hx]));simp only[storeCells,Gc,hst,Ge,ih,setRow_setRow];congr 3;have e:=list_seg_step cur.toList (o+i) v rest (by simp at hl⊢;omega);simpa[af6,afR] using e
theorem Rel.store(h:Rel E n pm m0 w0 m β st a w){s:Nat}{cs cs':U}{vals vals':Array Value}{ty:TyAt vals.size}(hs:st.b s=some cs)
 (hh:w.heap[β s]?=some (.cells vals ty.ty ty.fz)) {xs' rest':List Value} (hx':vals'.toList=xs'++rest') (hr:RdL m w xs' cs') (hlen:cs.length<=cs'.length) (hsize:vals'.size=vals.size)
 (hbear:∀(j sz:Nat) (es:U) (s':Nat) (v:Value),E.MB s=true->cs'[j]?=some (.sl false sz es (some s'))->vals'[j]?=some v->Bear E w β st (fun i=>a.tmps.getD i undef) v (.sl false sz es (some s'))):
 Rel E n pm m0 w0 m β ⟨st.t,upd st.b s (some cs')⟩ a (w.setRow (β s) vals'):=by
 obtain⟨⟨hl,_⟩,hge⟩:=h.boxes s cs hs;have he:Ext m w m (w.setRow (β s) vals'):=by
  refine⟨A0k,fun blk off v hb hm hc=>?_,fun blk hb fr hf=>⟨fr,hf,adp _⟩,fun blk es c hm hc=>by rw[setRow_other w _ _ _ (fun e=>by rw[e,hl] at hm;cases hm)];exact hc⟩;have hne:blk≠β s:=by rintro rfl;have:=hm 0 hl;omega
  exact ZZ
 refine⟨fun i=>(h.tmps i).mono he,h.size,fun s' c' hs'=>?_,fun s1 s2 c1 c2 h1 h2 heq=>?_,h.below.setRow hge _,h.par,⟨h.mold.1,h.mold.2.1.trans he,h.mold.2.2⟩,?_,h.own.sub (fun i s' sz len c' hi hs'=>?_),h.defers,fun g=>(h.glob g).mono he,h.j,h.maps.to (fun i s ks vs hi=>⟨⟨i,hi⟩,rfl⟩) he (fun g e c hg _=>⟨by rw[setRow_other w _ _ _ (fun hb=>by subst hb;rw[hh] at hg;cases hg)];exact hg,rfl⟩)⟩
 rotate_right
 . simp only[aJ] at hs';split at hs'
   . rename_i e;cases hs';subst e;exact⟨i,cs,hi,rfl,hs,hlen,rfl,fun cur ty' hc=>by
      rw[hh] at hc;obtain rfl:vals=cur:=by injection hc with hc;injection hc
      exact⟨vals',ty.to hsize,setRow_heap w _ _ _ _ _ hh,hsize⟩⟩
   . rename_i e;exact⟨i,c',hi,rfl,hs',adp _,rfl,fun cur ty' hc=>⟨cur,ty',by rw[setRow_other w _ _ _ (fun hb=>e (h.inj s' s c' cs hs' hs hb))];exact hc,rfl⟩⟩
 . simp only[aJ] at hs';split at hs'
   . rename_i e;cases hs';subst e;exact⟨⟨hl,vals',ty.to hsize,xs',rest',setRow_heap w _ _ _ _ _ hh,hx',hr.mono he⟩,hge⟩
   . rename_i e;obtain⟨⟨hl',v',ty',xs1,rest1,hh',hx1,hr'⟩,hge'⟩:=h.boxes s' c' hs';refine⟨⟨hl',v',ty',xs1,rest1,?_,hx1,hr'.mono he⟩,hge'⟩;rw[setRow_other w _ _ _ (fun hb=>e (h.inj s' s c' cs hs' hs hb))];exact hh'
 . simp only[aJ] at h1 h2;split at h1<;>split at h2
   . rename_i e1 e2;rw[e1,e2]
   . rename_i e1 e2;subst e1;exact h.inj _ _ _ _ hs h2 heq
   . rename_i e1 e2;subst e2;exact h.inj _ _ _ _ h1 hs heq
   . exact h.inj _ _ _ _ h1 h2 heq
 . obtain⟨ρ,hrw⟩:=h.rows;refine⟨ρ,hrw.to (fun v sz es s' hi=>hi.from (fun i hi=> .inl ⟨i,hi,rfl⟩) (fun k c j h1 h2 h3 h4=>?_)) (fun v sz es s' hi=>⟨setRow_other w _ _ _ (fun e=>hrw.box _ _ _ _ _ _ hi hs e.symm),rfl⟩) (fun v sz es s' k c hi hk=>?_)⟩
   . have h2:upd st.b s (some cs') k=some c:=h2;by_cases e:k=s
     . subst e;rw[aj] at h2;cases h2;rw[Box.cell (setRow_heap w _ _ _ _ _ hh)] at h4;exact hbear j sz es s' v h1 h3 h4
     . rw[ah _ _ e] at h2;have hne:β k≠β s:=fun hb=>e (h.inj _ _ _ _ h2 hs hb)
       rw[cell_setRow_other w _ _ _ hne] at h4;exact Zl
   . have hk:upd st.b s (some cs') k=some c:=hk;by_cases e:k=s
     . subst e;exact hrw.box _ _ _ _ _ _ hi hs
     . rw[ah _ _ e] at hk;exact hrw.box _ _ _ _ _ _ hi hk
variable{off:Nat}
theorem gH{α:Type}{l q:List α}(h:off+q.length<=l.length)(j:Nat):(l.take off++q++l.drop (off+q.length))[j]?=if j<off then l[j]? else if j<off+q.length then q[j-off]? else l[j]?:=by
 have h1:(l.take off).length=off:=A0K
 by_cases c1:j<off
 . rw[adl c1,aef,adu A0b,ad6,adl c1]
 . rw[adq c1];by_cases c2:j<off+q.length
   . rw[adl c2,adu (by rw[adh];omega),adH A0b,h1]
   . rw[adq c2,adH (by rw[adh];omega),aeA,adh,h1];congr 1;omega
theorem Ig(h:u.bare.dat=true):u.nm=none∧u≠ .undef∧∀a,u≠ .x (.agg a):=by rw[bA] at h;cases u<;>first|(simp[sa,V.dat] at h;done)|(refine⟨rfl,A0k,?_⟩;intro a e;first|(cases e;simp[sa,V.dat] at h;done)|cases e)
theorem mz(h:Rel E n pm m0 w0 m β st a w){t:TypeId}{p v:Value}{q u:V}{st':St}(hp:Rs m w β p q)(hv:Rs m w β v u)
 (hk:∀sz es s',u= .sl false sz es (some s')->Bear E w β st (fun i=>a.tmps.getD i undef) v u) (hx:iG E st t q u=some st'):
 ∃w',(Instr.storeAt t p v).run E.P w= .ok () w'∧Rel E n pm m0 w0 m β st' a w':=by
 unfold iG at hx;split at hx
 . rename_i s off;split at hx
   . rename_i cs hcs;split at hx
     . rename_i hc;obtain⟨hd,hone,hsz,hok,hle⟩:=hc;cases hx;obtain rfl:=hp.ptr
       . obtain ⟨⟨_, vals,ty,xs,rest,hh,hvs,hr⟩,_⟩:=h.boxes _ _ hcs;have hrd:=so (hv.bare.dat hd) hd;obtain⟨hnm,hnu,hna⟩:=Ig hd;have hrk:RdL m w v.cells.toList (E.kept s u).cells:=by
          unfold Env.kept;split
          . exact(hv.rd hnm).cells hnu hna
          . exact hrd
         have hlen:=hrd.length;have hlenk:=hrk.length;have hlen2:=hr.length;simp only[adD] at hlen hlenk;have hvl:vals.size=xs.length+rest.length:=by rw[<-adD,hvs,adh]
         have hst:=de E.P (β s) off ty.ty ty.fz v.cells.toList 0 vals w hh ty.ok A0F (sk hrd hone);have hvc:v.cells.toList.length=u.bare.cells.length:=by simpa using hlen
         have hkc:(E.kept s u).cells.length=u.bare.cells.length:=A0b
         refine⟨_,?_,h.store (vals':=(vals.toList.take (off+0)++v.cells.toList++vals.toList.drop (off+0+v.cells.toList.length)).toArray) (xs':=xs.take off++v.cells.toList++xs.drop (off+u.bare.cells.length)) (rest':=rest) hcs hh ?_ ?_ ?_ ?_ ?_⟩
         . simp only[Instr.storeAt,Instr.sureAddr,storeVar,Gc,Gd,Ge,bN hsz];rw[adq A0b];exact hst
         . simp only[aeq,hvc,hvs];rw[ael A0b,List.drop_append_of_le_length A0b];simp only[aef]
         . exact((hr.take off).append hrk).append (hr.drop (off+u.bare.cells.length))
         . simp only[adh,adz,aeE];omega
         . simp only[aeR,adh,adz,aeE,hvc,adD,aeq];omega
         . intro j sz es s' x hM hu hx;rw[<-hkc,gH A0b] at hu;rw[aew,aeq,gH (by have:=adD (xs:=vals);omega)] at hx
           have hold:∀(hu:cs[j]?=some (.sl false sz es (some s'))) (hx:vals.toList[j]?=some x),Bear E w β st (fun i=>a.tmps.getD i undef) x (.sl false sz es (some s')):=fun hu hx=>
            .inr ⟨s,cs,j,hM,hcs,hu,by rw[Box.cell hh];simpa using hx⟩
           split at hu
           . rename_i c1;rw[adl c1] at hx;exact hold hu hx
           . rename_i c1;rw[adq c1] at hx;split at hu
             . rename_i c2;rw[adl A0b] at hx;simp only[Env.kept,hM,adB] at hu;simp only[Env.okS,hM,afc,afG,aeK] at hok;rcases hok with hsl|hall
               . cases u with
                 | sl nl' sz' es' tok'=>
                   simp only[V.cells,List.getElem?_singleton] at hu;split at hu
                   . rename_i e0;have hu:=afo hu;obtain⟨ad,cap,rfl,_,_⟩:=hv.sl;rw[e0] at hx;have hx:some (Value.slice ad es'.length cap)=some x:=by simpa[Value.cells] using hx
                     cases hx;rw[hu] at hk;exact hk sz es s' rfl
                   . cases hu
                 |_=>cases hsl
               . have:=adr.1 hall _ (adg hu);cases this
             . rename_i c2;rw[adq A0b] at hx;exact hold hu hx
     . simp at hx
   . simp at hx
 . simp at hx
theorem kC(h:Rel E n pm m0 w0 m β st a w):∀(l:List Operand),(l.map fun x=>(ev E st x).bare).all V.dat=true->RdL m w (l.map a.eval) (l.map fun x=>(ev E st x).bare)
 |[],_=>trivial
 |x::l,hd=>by simp only[adL,aeo,ado] at hd;exact⟨(aQ h x).bare.dat hd.1,kC h l hd.2⟩
theorem pk(h:Rel E n pm m0 w0 m β st a w){o:Oper}(hd:∀k,o.dst=some k->k<n){cs:U}{st':St}(hx:gF st o.dst cs=some st')(hmb:E.okN o.dst cs=true)
 {vals:Array Value} {ty:TypeId} (hr:RdL m w vals.toList cs):∃m' β',Rel E n pm m0 w0 m' β' st' (a.put o.dst (.pointer (some ⟨w.heap.size,0,none⟩))) (w.alloc (.cells vals ty)):=by
 unfold gF at hx;split at hx
 . rename_i s hs;split at hx
   . rename_i hn;cases hx;rw[hs];exact⟨_,_,h.new (hd s hs) hn hr (hs▸hmb)⟩
   . simp at hx
 . simp at hx
theorem fD(u:V)(sz:Nat)(es:U)(s:Nat)(h:u.bare= .sl false sz es (some s)):Bear E w β st (fun i=>a.tmps.getD i undef) v u.bare:=by rw[bA] at h;cases u<;>cases h
structure Flat (m:Lim) (w:World) (cs:List Value) (sz:Nat) (es:U):Prop where
 len:cs.length=es.length*sz
 each:∀(i:Nat) (e:V),es[i]?=some e->e.cells.length=sz∧∀(j:Nat) (d:V),e.cells[j]?=some d->∃x,cs[i*sz+j]?=some x∧Rd m w x d
theorem aZ{α:Type}{l:List α}{i:Nat}{x:α}(h:l[i]?=some x):i<l.length:=by
 rcases aeb i l.length with h'|h'
 . exact h'
 . simp[adM h'] at h
theorem Flat.nil(sz:Nat):Flat m w [] sz []:=⟨A0k,fun i e h=>by simp at h⟩
theorem Flat.mono(he:Ext m w m' w'){cs:List Value}{sz:Nat}{es:U}(h:Flat m w cs sz es):Flat m' w' cs sz es:=
 ⟨h.len,fun i e hi=>⟨(h.each i e hi).1,fun j d hd=>by obtain⟨x,hx,hr⟩:=(h.each i e hi).2 j d hd;exact⟨x,hx,hr.mono he⟩⟩⟩
variable{k sz:Nat}
theorem Ds{i j:Nat}(hi:i<k)(hj:j<sz):i*sz+j<k*sz:=by have:(i+1)*sz<=k*sz:=ad9 _ hi;rw[aek,afu] at this;omega
variable{es:U}
theorem Flat.append{cs cs':List Value}{es':U}(h:Flat m w cs sz es)(h':Flat m w cs' sz es'):Flat m w (cs++cs') sz (es++es'):=by
 refine⟨by simp[h.len,h'.len,aek],fun i e hi=>?_⟩;rcases aeb i es.length with hlt|hge
 . rw[adu hlt] at hi;obtain⟨h1,h2⟩:=h.each i e hi;refine⟨h1,fun j d hd=>?_⟩;obtain⟨x,hx,hr⟩:=h2 j d hd;exact⟨x,by rw[adu (aZ hx)];exact hx,hr⟩
 . rw[adH hge] at hi;obtain⟨h1,h2⟩:=h'.each _ e hi;refine⟨h1,fun j d hd=>?_⟩;obtain⟨x,hx,hr⟩:=h2 j d hd;have e1:(i-es.length)*sz+es.length*sz=i*sz:=by rw[<-aek];congr 1;omega
   refine⟨x,?_,hr⟩;rw[adH (by rw[h.len];omega),h.len,<-hx];congr 1;omega
theorem Flat.one{cs:List Value}(h:Flat m w cs sz es)(ho:(es.all fun u=>u.cells.all V.cell)=true):∀v∈cs,v.oneCell'=true:=by
 intro v hv;obtain⟨q,hq⟩:=aen hv;have hlt:=aZ hq;rw[h.len] at hlt;have hsz:0<sz:=by
  rcases aft sz with h0|h0
  . subst h0;simp at hlt
  . exact h0
 have hi:q/sz<es.length:=(afZ hsz).2 hlt;have he:es[q/sz]?=some es[q/sz]:=io hi;obtain⟨h1,h2⟩:=h.each _ _ he;have hj:q%sz<(es[q/sz]).cells.length:=by rw[h1];exact agC _ hsz
 obtain⟨x,hx,hr⟩:=h2 (q%sz) _ (io hj);have hqq:q/sz*sz+q%sz=q:=by rw[afQ];exact Nat.div_add_mod q sz
 rw[hqq,hq] at hx;cases hx;refine pj hr ?_;have:=adr.1 ho _ (adg he);exact adr.1 this _ (adR hj)
theorem Rd.of_flat{cs:List Value}(h:Flat m w cs sz es){g cap:Nat}{cur:Array Value}{ty:TypeId}{fr:Nat×Nat}(hh:w.heap[g]?=some (.cells cur ty fr))
 (hp:∀(j:Nat) (x:Value),cs[j]?=some x->cur[j]?=some x) (hcap:es.length<=cap) (hm:∀fr,m g=some fr->es.length*sz<=fr) (tok:Option Nat):Rd m w (.s g es.length cap) (.sl false sz es tok):=by
 refine .sl g 0 cap sz es tok (fun j=>(cs[j]?).getD Go.undef) (ag hh) hcap (fun i e hi=>(h.each i e hi).1) (fun k hk=>?_) (fun fr hf=>by have:=hm fr hf;omega) (fun i e hi j d hd=>?_)
 . have hlt:k<cs.length:=by rw[h.len];exact hk
   have hx:cs[k]?=some cs[k]:=io hlt;rw[adi,Box.cell hh,hp _ _ hx,hx];rfl
 . obtain⟨x,hx,hr⟩:=(h.each i e hi).2 j d hd;rw[hx];exact hr
variable{nl:Bool}{tok:Option Nat}
theorem Rd.flat(h:Rd m w v (.sl nl sz es tok)):
 (nl=true∧v= .slice none 0 0∧es=[])∨(nl=false∧es=[]∧tok=none∧∃a cap,v= .slice (some a) 0 cap)∨∃blk off cap cs,nl=false∧v= .slice (some ⟨blk,off,none⟩) es.length cap∧Flat m w cs sz es∧∀(j:Nat) (x:Value),cs[j]?=some x->w.cell? ⟨blk,off+j,none⟩=some x:=by
 cases h with
 |nil sz tok=>exact .inl ⟨rfl,rfl,rfl⟩
 |emp a cap sz=>exact .inr (.inl ⟨rfl,rfl,rfl,a,cap,rfl⟩)
 | sl blk off cap sz es tok c hb hcap hsz hc hm hr=>
   refine .inr (.inr ⟨blk,off,cap,(List.range (es.length*sz)).map c,rfl,rfl,⟨A0k,fun i e hi=>⟨hsz i e hi,fun j d hd=>?_⟩⟩,fun j x hx=>?_⟩)
   . have hj:=aZ hd;rw[hsz i e hi] at hj;have:=Ds (aZ hi) hj;exact⟨c (i*sz+j),by rw[ac9,aeD this];rfl,hr i e hi j d hd⟩
   . have hlt:=aZ hx;simp at hlt;rw[ac9,aeD hlt] at hx;cases hx;exact hc j hlt
variable{s:Nat}
theorem Ih{i:Nat}{t:Nat->V}(h:strip k t i= .sl nl sz es (some s)):t i= .sl nl sz es (some s)∧s≠k:=by
 unfold strip at h;rw[bj] at h;unfold js at h;split at h
 . rename_i nl' sz' es' s' ht;split at h
   . cases h
   . rename_i hne;cases h;exact⟨ht,hne⟩
 . rename_i hne;exact absurd h (hne _ _ _ _)
theorem EW{i z l:Nat}{t:Nat->V}(h:strip k t i= .row s z l):t i= .row s z l:=by
 unfold strip at h;rw[bj] at h;unfold js at h;split at h
 . split at h<;>cases h
 . exact h
variable{vs:U}
theorem pn{i:Nat}{ks:U}{t:Nat->V}(h:strip k t i= .mp s ks vs):t i= .mp s ks vs:=by
 unfold strip at h;rw[bj] at h;unfold js at h;split at h
 . split at h<;>cases h
 . exact h
theorem kD{i:Nat}{t:Nat->V}(h:(kill k t i).nm=some s):kill k t i=t i∧s≠k:=by
 unfold kill at h⊢;rcases mq k (t i) with⟨e,hn⟩|⟨e,hn⟩
 . refine⟨e,fun e'=>hn ?_⟩;rw[<-e,h,e']
 . rw[e] at h;cases h
theorem tO{i:Nat}{t:Nat->V}{s:Option Nat}(h:kill k t i= .sl nl sz es s):t i= .sl nl sz es s:=by
 unfold kill at h;rcases mq k (t i) with⟨e,hn⟩|⟨e,hn⟩
 . rw[e] at h;exact h
 . rw[e] at h;cases h
theorem ii(k:Nat)(t:Nat->V):strip k (strip k t)=strip k t:=by
 funext i;simp only[strip,bj];generalize t i=v;unfold js;split
 . rename_i nl sz es s' hv;split at hv
   . split at hv
     . cases hv
     . rename_i hne;cases hv;rw[adq hne]
   . rename_i hno;exact absurd hv (hno _ _ _ _)
 . rfl
theorem EY(h:cK k u= .sl nl sz es (some s)):u= .sl nl sz es (some s)∧s≠k:=by
 rw[bj] at h;unfold js at h;split at h
 . split at h
   . cases h
   . rename_i hne;cases h;exact⟨rfl,hne⟩
 . rename_i hne;exact absurd h (hne _ _ _ _)
variable{b:Nat->Option U}
theorem ep{c':U}(h:aG E k b s=some c'):∃c,b s=some c∧c.length=c'.length∧(c'=c∨E.MB s=true∧c'=c.map (cK k)):=by
 unfold aG at h;split at h
 . rename_i hM;obtain⟨c,hc,rfl⟩:=adn.1 h;exact⟨c,hc,A0k,.inr ⟨hM,rfl⟩⟩
 . exact⟨c',h,rfl,.inl rfl⟩
theorem EZ{c:U}(h:b s=some c):∃c',aG E k b s=some c'∧c.length=c'.length:=by
 unfold aG;split
 . exact⟨c.map (cK k),by rw[h];rfl,A0k⟩
 . exact⟨c,h,rfl⟩
theorem RdL.stripL{k:Nat}:∀{vs:List Value} {us:U},RdL m w vs us->RdL m w vs (us.map (cK k))
 |[],[],_=>trivial
 |_::_,_::_,h=>⟨h.1.strip,RdL.stripL h.2⟩
theorem Bear.stripped(h:Bear E w β ⟨strip k st.t,aG E k st.b⟩ tm v (.sl false sz es (some s))):
 Bear E w β st tm v (.sl false sz es (some s))∧s≠k:=by
 rcases h with⟨i,h1,h2⟩|⟨k',c',j,h1,h2,h3,h4⟩
 . obtain⟨h3,h4⟩:=Ih h1;exact⟨.inl ⟨i,h3,h2⟩,h4⟩
 . have h2:aG E k st.b k'=some c':=h2;simp only[aG,h1,adB] at h2;obtain⟨c,hc,rfl⟩:=adn.1 h2;rw[ac9] at h3;obtain⟨u0,hu0,he⟩:=adn.1 h3;obtain⟨rfl,hne⟩:=EY he;exact⟨.inr ⟨k',c,j,h1,hc,hu0,h4⟩,hne⟩
theorem jw(E:Env)(k:Nat)(b:Nat->Option U):aG E k (aG E k b)=aG E k b:=by
 funext s;unfold aG;split
 . rename_i hM;cases b s with
   |none=>rfl
   |some c=>simp only[aea,aes];congr 1;refine aeW (fun u _=>?_);have:=congrFun (ii k (fun _=>u)) 0;exact this
 . rfl
theorem Rel.stripped(h:Rel E n pm m0 w0 m β st a w)(k:Nat):Rel E n pm m0 w0 m β ⟨Go.Proofs.YtiepfeebmnfbdaaGreat.strip k st.t,aG E k st.b⟩ a w:=by
 refine⟨fun i=>(h.tmps i).strip,h.size,fun s c' hs=>?_,fun s s' c c' h1 h2 he=>?_,h.below,h.par,h.mold,?_,fun i s sz len c' hi hs=>?_,h.defers,h.glob,h.j,h.maps.to (fun i s ks vs hi=>⟨⟨i,pn hi⟩,rfl⟩) (Ext.refl _ _) (fun _ _ _ h _=>⟨h,rfl⟩)⟩
 . obtain⟨c,hc,hl,hor⟩:=ep hs;obtain⟨⟨hlim,vals,ty,xs,rest,hh,hx,hr⟩,hge⟩:=h.boxes s c hc;refine⟨⟨hlim,vals,ty,xs,rest,hh,hx,?_⟩,hge⟩;rcases hor with rfl|⟨_,rfl⟩
   . exact hr
   . exact hr.stripL
 . obtain⟨_,hc,_⟩:=ep h1;obtain⟨_,hc',_⟩:=ep h2;exact h.inj _ _ _ _ hc hc' he
 . obtain⟨ρ,hr⟩:=h.rows;refine⟨ρ,hr.to (fun v sz es s hi=>hi.stripped.1) (fun _ _ _ _ _=>⟨rfl,rfl⟩) (fun v sz es s k' c hi hk=>?_)⟩;obtain⟨_,hc,_⟩:=ep hk;exact hr.box _ _ _ _ _ _ hi hc
 . obtain⟨c,hc,hl,_⟩:=ep hs;obtain⟨hf,rest⟩:=h.own i s sz len c (EW hi) hc;exact⟨A0b,rest⟩
theorem Rel.grown(h:Rel E n pm m0 w0 m β st a w){ρ:Nat->Nat}(hrw:Rows E m pm w0 w β st (fun i=>a.tmps.getD i undef) ρ){d k g' sz:Nat}(hd:d<n){v':Value}{es':U}{m':Lim}{w':World}(he:Ext m w m' w')
 (hbel:Bel pm.X w0 w') (hother:∀g,g<w.heap.size->g≠g'->w'.heap[g]?=w.heap[g]?∧m' g=m g) (hrow:RowAt m' pm w0 w' v' g' sz es'.length) (hrd:Rd m' w' v' (.sl false sz es' (some d)))
 (hfree:∀v sz es s,Bear E w β ⟨strip k (strip d st.t),aG E k (aG E d st.b)⟩ (fun i=>a.tmps.getD i undef) v (.sl false sz es (some s))->ρ s≠g') (hbox:∀s cs,st.b s=some cs->β s≠g') (hnm:∀e c,w.heap[g']?≠some (.map e c)):
 Rel E n pm m0 w0 m' β ⟨upd (strip k (strip d st.t)) d (.sl false sz es' (some d)),aG E k (aG E d st.b)⟩ (a.put (some d) v') w':=by
 have hlt:d<a.tmps.size:=by rw[h.size];exact hd
 have hS:=(h.stripped d).stripped k;have hSb:∀{s:Nat} {c':U},aG E k (aG E d st.b) s=some c'->∃c,st.b s=some c∧c.length=c'.length:=fun hs=>by obtain⟨c1,h1,l1,_⟩:=ep hs;obtain⟨c,h2,l2,_⟩:=ep h1;exact⟨c,h2,l2.trans l1⟩
 have hst:∀{v:Value} {iI:Nat} {es0:U} {s:Nat},Bear E w β ⟨strip k (strip d st.t),aG E k (aG E d st.b)⟩ (fun i=>a.tmps.getD i undef) v (.sl false iI es0 (some s))->Bear E w β st (fun i=>a.tmps.getD i undef) v (.sl false iI es0 (some s))∧s≠d:=fun hi=>by obtain⟨h1,_⟩:=hi.stripped (st:=⟨strip d st.t,aG E d st.b⟩);exact h1.stripped
 have key:∀{v:Value} {iI:Nat} {es0:U} {s:Nat},Bear E w' β ⟨upd (strip k (strip d st.t)) d (.sl false sz es' (some d)),aG E k (aG E d st.b)⟩ (fun i=>(a.put (some d) v').tmps.getD i undef) v (.sl false iI es0 (some s))->
  (s=d∧v=v'∧iI=sz∧es0=es')∨Bear E w β ⟨strip k (strip d st.t),aG E k (aG E d st.b)⟩ (fun i=>a.tmps.getD i undef) v (.sl false iI es0 (some s)):=fun {v iI es0 s} hi=>by
  rcases hi with⟨i,h1,h2⟩|⟨k',c',j,h1,h2,h3,h4⟩
  . simp only[aJ] at h1;simp only[Act.put,bG _ _ _ _ hlt] at h2;split at h1
    . rename_i e;rw[adl e] at h2;cases h1;exact .inl ⟨rfl,h2.symm,rfl,rfl⟩
    . rename_i e;rw[adq e] at h2;exact .inr (.inl ⟨i,h1,h2⟩)
  . obtain⟨c,hc,_⟩:=hSb h2;obtain⟨⟨_,vals,ty,xs,rest,hh,_,_⟩,_⟩:=h.boxes _ _ hc;rw[bc (hother _ (ag hh) (hbox _ _ hc)).1] at h4;exact .inr (.inr ⟨k',c',j,h1,h2,h3,h4⟩)
 refine⟨fun i=>?_,by simp[Act.put,h.size],fun s cs hs=>?_,hS.inj,hbel,h.par,⟨fun blk hb hy=>?_,h.mold.2.1.trans he,h.mold.2.2⟩,⟨upd ρ d g',fun v iI es0 s hi=>?_,fun v iI es0 s v1 Ud es1 s' hi hi' hr=>?_,fun v iI es0 s k' cs hi hk'=>?_⟩,hS.own.sub (fun i s iI len cs hi hs=>?_),h.defers,fun g=>(h.glob g).mono he,h.j,h.maps.to (fun i s ks vs hi=>(by
  simp only[aJ] at hi;split at hi
  . cases hi
  . exact⟨⟨i,pn (pn hi)⟩,rfl⟩)) he (fun g e c hg _=>⟨by rw[(hother g (ag hg) (fun e'=>hnm e c (e'▸hg))).1];exact hg,(hother g (ag hg) (fun e'=>hnm e c (e'▸hg))).2⟩)⟩
 rotate_right
 . simp only[aJ] at hi;simp only[Act.put,bG _ _ _ _ hlt];split at hi
   . cases hi
   . rename_i e;obtain⟨c,hc,_⟩:=hSb hs;refine⟨i,cs,hi,by rw[adq e],hs,adp _,trivial,fun cur ty hh=>⟨cur,ty,?_,rfl⟩⟩;rw[(hother _ (ag hh) (hbox s c hc)).1];exact hh
 . simp only[Act.put,bG _ _ _ _ hlt,aJ];split
   . exact .of hrd
   . exact((h.tmps i).mono he).strip.strip
 . obtain⟨c,hc,_⟩:=hSb hs;obtain⟨⟨hl,vals,ty,xs,rest,hh,hx,hr⟩,hge⟩:=hS.boxes s cs hs;obtain⟨h1,h2⟩:=hother _ (ag hh) (hbox s c hc);exact Zn
 . have hlo:=hrow.lo;rw[(hother blk (ad1 hb h.below.size) (fun e=>by rcases hlo with hlo|hlo;omega;exact hy (e▸hlo))).2];exact Zm
 . rcases key hi with⟨rfl,rfl,rfl,rfl⟩|hi
   . rw[aj];exact hrow
   . obtain⟨h1,h2⟩:=hst hi;rw[ah _ _ h2];obtain⟨lo,lim,cap,cur,ty,hv,hh,hc,hs⟩:=hrw.row v iI es0 s h1;obtain⟨h3,h4⟩:=hother _ (ag hh) (hfree _ _ _ _ hi);exact⟨lo,by rw[h4];exact lim,cap,cur,ty,hv,by rw[h3];exact hh,hc,hs⟩
 . have k1:=key hi;have k2:=key hi';clear hi hi';rcases k1 with⟨e1,_⟩|k1
   . rcases k2 with⟨e2,_⟩|k2
     . rw[e1,e2]
     . obtain⟨h1,h2⟩:=hst k2;rw[e1,aj,ah _ _ h2] at hr;exact absurd hr.symm (hfree _ _ _ _ k2)
   . rcases k2 with⟨e2,_⟩|k2
     . obtain⟨h1,h2⟩:=hst k1;rw[e2,aj,ah _ _ h2] at hr;exact absurd hr (hfree _ _ _ _ k1)
     . rw[ah _ _ (hst k1).2,ah _ _ (hst k2).2] at hr;exact hrw.sep _ _ _ _ _ _ _ _ (hst k1).1 (hst k2).1 hr
 . obtain⟨c,hc,_⟩:=hSb hk';rcases key hi with⟨rfl,rfl,rfl,rfl⟩|hi
   . rw[aj];exact hbox _ _ hc
   . rw[ah _ _ (hst hi).2];exact hrw.box _ _ _ _ _ _ (hst hi).1 hc
theorem Rel.regrow(h:Rel E n pm m0 w0 m β st a w){ρ:Nat->Nat}(hrw:Rows E m pm w0 w β st (fun i=>a.tmps.getD i undef) ρ){d s:Nat}(hd:d<n)(hmb:E.MB d=false){cs:U}(_hcs:st.b s=some cs){g' len sz cap:Nat}{cur':Array Value}{ty':TyAt cur'.size}{xs' rest':List Value}{cs':U}{m':Lim}{w':World}
 (he:Ext m w m' w') (hbel:Bel pm.X w0 w') (hother:∀g,g<w.heap.size->g≠g'->w'.heap[g]?=w.heap[g]?∧m' g=m g) (hlo:w0.heap.size<=g'∨g'∈pm.X∧m g'=some 0) (hlim:m' g'=some 0)
 (hh':w'.heap[g']?=some (.cells cur' ty'.ty ty'.fz)) (hx:cur'.toList=xs'++rest') (hr:RdL m' w' xs' cs') (hl:len*sz<=cs'.length) (hcap:len<=cap) (hsz:cur'.size=cap*sz)
 (hfree:∀v sz es s',Bear E w β st (fun i=>a.tmps.getD i undef) v (.sl false sz es (some s'))->ρ s'≠g') (hbox:∀s' c',st.b s'=some c'->s'≠s->β s'≠g') (hnm:∀e c,w.heap[g']?≠some (.map e c)):
 Rel E n pm m0 w0 m' (upd β d g') ⟨upd (kill s (kill d st.t)) d (.row d sz len),upd (upd st.b s none) d (some cs')⟩ (a.put (some d) (.s g' len cap)) w':=by
 have hlt:d<a.tmps.size:=by rw[h.size];exact hd
 have hnm0:∀{i s':Nat},(kill s (kill d st.t) i).nm=some s'->kill s (kill d st.t) i=st.t i∧s'≠s∧s'≠d:=fun {i s'} hi=>by obtain⟨h1,h2⟩:=kD hi;rw[h1] at hi;obtain⟨h3,h4⟩:=kD hi;exact⟨h1.trans h3,h2,h4⟩
 have hb':∀{s':Nat} {c':U},upd (upd st.b s none) d (some cs') s'=some c'->s'≠d->st.b s'=some c'∧s'≠s:=fun {s' c'} hs hne=>by
  rw[ah _ _ hne,aJ] at hs;split at hs
  . cases hs
  . rename_i e;exact⟨hs,e⟩
 refine⟨fun i=>?_,by simp[Act.put,h.size],fun s' c' hs'=>?_,fun s1 s2 c1 c2 h1 h2 heq=>?_,hbel,⟨h.par.1,fun s' hs'=>(ah _ _ (by have:=h.par.1;omega)).trans (h.par.2.1 s' hs'),h.par.2.2⟩,⟨fun blk hb hy=>?_,h.mold.2.1.trans he,h.mold.2.2⟩,⟨ρ,hrw.to (fun v iI es0 s' hi=>hi.from (fun i hi=>?_) (fun k' c' j h1 h2 h3 h4=>?_)) (fun v iI es0 s' hi=>?_) (fun v iI es0 s' k' c' hi hk'=>?_)⟩,fun i s' iI len0 c' hi hs'=>?_,h.defers,fun g=>(h.glob g).mono he,h.j,h.maps.to (fun i s' ks vs hi=>(by
  simp only[aJ (kill s (kill d st.t))] at hi;split at hi
  . cases hi
  . obtain⟨h1,h2,h3⟩:=hnm0 (show(kill s (kill d st.t) i).nm=some s' by rw[hi];rfl);exact⟨⟨i,h1▸hi⟩,ah _ _ h3⟩)) he (fun g e c hg _=>⟨by rw[(hother g (ag hg) (fun e'=>hnm e c (e'▸hg))).1];exact hg,(hother g (ag hg) (fun e'=>hnm e c (e'▸hg))).2⟩)⟩
 . simp only[Act.put,bG _ _ _ _ hlt,aJ (kill s (kill d st.t))];split
   . have:=Rs.ofRow (m:=m') (w:=w') (β:=upd β d g') d sz hcap
     rwa [aj] at this
   . exact(((h.tmps i).mono he).kill.kill).beta (fun s' hs'=>ah _ _ (hnm0 hs').2.2)
 . by_cases hne:s'=d
   . subst hne;have hs':upd (upd st.b s none) s' (some cs') s'=some c':=hs';rw[aj] at hs';cases hs';rw[aj];exact⟨⟨hlim,cur',ty',xs',rest',hh',hx,hr⟩,hlo.imp id And.left⟩
   . obtain⟨h1,h2⟩:=hb' hs' hne;rw[ah _ _ hne];obtain⟨⟨hl',vals,ty,xs,rest,hh,hx',hr'⟩,hge⟩:=h.boxes s' c' h1;obtain⟨h3,h4⟩:=hother _ (ag hh) (hbox s' c' h1 h2);exact⟨⟨by rw[h4];exact hl',vals,ty,xs,rest,by rw[h3];exact hh,hx',hr'.mono he⟩,hge⟩
 . by_cases e1:s1=d<;>by_cases e2:s2=d
   . rw[e1,e2]
   . obtain⟨h3,h4⟩:=hb' h2 e2;rw[e1,aj,ah _ _ e2] at heq;exact absurd heq.symm (hbox _ _ h3 h4)
   . obtain⟨h3,h4⟩:=hb' h1 e1;rw[e2,aj,ah _ _ e1] at heq;exact absurd heq (hbox _ _ h3 h4)
   . rw[ah _ _ e1,ah _ _ e2] at heq;exact h.inj _ _ _ _ (hb' h1 e1).1 (hb' h2 e2).1 heq
 . by_cases hbg:blk=g'
   . rcases hlo with hlo|⟨_,hm0⟩
     . omega
     . rw[hbg,hlim,<-hm0,<-hbg];exact Zm
   . rw[(hother blk (ad1 hb h.below.size) hbg).2];exact Zm
 . simp only[aJ] at hi;simp only[Act.put,bG _ _ _ _ hlt];split at hi
   . cases hi
   . rename_i e;rw[adq e];exact .inl ⟨i,tO (tO hi),rfl⟩
 . have hne:k'≠d:=fun e=>by rw[e,hmb] at h1;cases h1
   obtain⟨h5,h6⟩:=hb' h2 hne;rw[ah _ _ hne] at h4;obtain⟨⟨_,vals,ty,xs,rest,hh,_,_⟩,_⟩:=h.boxes _ _ h5;rw[bc (hother _ (ag hh) (hbox _ _ h5 h6)).1] at h4;exact .inr ⟨k',c',j,h1,h5,h3,h4⟩
 . obtain⟨lo,lim,cap,cur,ty,hv,hh,hc,hs⟩:=hrw.row v iI es0 s' hi;exact hother _ (ag hh) (hfree _ _ _ _ hi)
 . by_cases e:k'=d
   . rw[e,aj];exact(hfree _ _ _ _ hi).symm
   . rw[ah _ _ e];exact hrw.box _ _ _ _ _ _ hi (hb' hk' e).1
 . simp only[aJ (kill s (kill d st.t))] at hi;simp only[Act.put,bG _ _ _ _ hlt];split at hi
   . rename_i e;cases hi;have hs':upd (upd st.b s none) d (some cs') d=some c':=hs';rw[aj] at hs';cases hs';rw[adl e];exact⟨hl,cap,cur',ty',by rw[aj],by rw[aj];exact hh',hsz⟩
   . rename_i e;rw[adq e];obtain⟨h1,h2,h3⟩:=hnm0 (show(kill s (kill d st.t) i).nm=some s' by rw[hi];rfl);obtain⟨h4,_⟩:=hb' hs' h3;obtain⟨hl',cap1,cur,ty,hv,hh,hsz'⟩:=h.own i s' iI len0 c' (h1▸hi) h4;refine⟨hl',cap1,cur,ty,by rw[ah _ _ h3];exact hv,?_,hsz'⟩;rw[ah _ _ h3,(hother _ (ag hh) (hbox _ _ h4 h2)).1];exact hh
theorem Ext.fresh(m:Lim)(w:World)(o:Obj)(x:Option Nat):Ext m w (upd m w.heap.size x) (w.drew.alloc o):=by
 refine⟨A0k,fun blk off v hb _ hc=>?_,fun blk hb fr hf=>?_,fun blk es c _ hc=>by rw[Below.heap_alloc w.drew _ blk (eA hc)];exact hc⟩
 . have:=World.cell?_alloc_lt w.drew o ⟨blk,off,none⟩ hb;rw[this];exact hc
 . exact Zy
theorem Ext.fresh0(m:Lim)(w:World)(o:Obj)(x:Option Nat):Ext m w (upd m w.heap.size x) (w.alloc o):=by
 refine⟨A0k,fun blk off v hb _ hc=>?_,fun blk hb fr hf=>?_,fun blk es c _ hc=>by rw[Below.heap_alloc w _ blk (eA hc)];exact hc⟩
 . rw[World.cell?_alloc_lt _ _ _ hb];exact hc
 . exact Zy
variable{P:Program}
theorem Ii(w:World)(t ty el:TypeId)(i:TypeInfo)(ht:P.underlying t=some (.slice el))(hi:P.info? el=some i)(g sLen sCap:Nat)(cur:Array Value)(ty':TyAt cur.size)
 (hg:w.heap[g]?=some (.cells cur ty'.ty ty'.fz)) (x:Value) (k:Nat) (news:List Value) (hx:(Builtin.lenOf x).run P w= .ok k w) (hf:(Builtin.firstCells i.size k x).run P w= .ok news.toArray w)
 (h1:∀u∈news,u.oneCell'=true) (hroom:sLen+k<=sCap) (hfit:sLen*i.size+news.length<=cur.size):
 (Builtin.append_ #[t,t] ty #[.s g sLen sCap,x]).run P w= .ok (.s g (sLen+k) sCap) (w.setRow g (cur.toList.take (sLen*i.size)++news++cur.toList.drop (sLen*i.size+news.length)).toArray):=by
 have hst:=de P g (sLen*i.size) ty'.ty ty'.fz news 0 cur w hg ty'.ok A0b h1;simp only[aeq] at hst;have hsz:bo P el=some i.size:=by simp[bo,hi]
 simp[Builtin.append_,aC ht,bN hsz,hx,hroom,hf,aP,hst]
variable{t:TypeId}
theorem tP(h:bo P t=some n):∃i,P.info? t=some i∧i.size=n:=by
 unfold bo at h;cases hi:P.info? t with
 |none=>simp[hi] at h
 |some i=>simp[hi] at h;exact⟨i,rfl,h⟩
variable{z:U}
theorem tQ{i:TypeInfo}(hi:P.info? t=some i)(h:aB P t=some z):∃v:Value,i.zero=some v∧v.cells.size=z.length:=by unfold aB at h;simp only[hi,aeL,adn] at h;obtain⟨v,hv,rfl⟩:=h;exact⟨v,hv,A0k⟩
theorem Rf{y:Value}{iI:Nat}(h:Rd m w y (.sl nl iI es tok))(hs:iI=sz∨es=[]):
 ∃ cs,Flat m w cs sz es∧(Builtin.lenOf y).run P w= .ok es.length w∧(Builtin.firstCells sz es.length y).run P w= .ok cs.toArray w∧
   (es≠[]->∃blk off cap,y= .slice (some ⟨blk,off,none⟩) es.length cap∧∀(j:Nat) (x:Value),cs[j]?=some x->w.cell? ((⟨blk,off,none⟩:Addr).add j)=some x):=by
 rcases h.flat with⟨_,rfl,rfl⟩|⟨_,rfl,_,a,cap,rfl⟩|⟨blk,off,cap,cs,_,rfl,hf,hc⟩
 . exact⟨[],Flat.nil sz,rfl,by simpa using run_firstCells_none (P:=P) w sz 0 0 0,fun h=>absurd rfl h⟩
 . exact Zq
 . by_cases he:es=[]
   . subst he;exact Zq
   . obtain rfl:=hs.resolve_right he;have hc':∀(j:Nat) (x:Value),cs[j]?=some x->w.cell? ((⟨blk,off,none⟩:Addr).add j)=some x:=fun j x hx=>by rw[aP];exact hc j x hx
     exact⟨cs,hf,rfl,run_firstCells_some w _ _ _ _ _ cs hf.len hc',fun _=>⟨blk,off,cap,rfl,hc'⟩⟩
structure SrcOf (P:Program) (m:Lim) (w:World) (t t' el:TypeId) (i:TypeInfo) (y:Value) (es:U) (cs:List Value):Prop where
 flat:Flat m w cs i.size es
 nilE:es=[]->∀ty,(Builtin.append_ #[t,t'] ty #[.slice none 0 0,y]).run P w= .ok (.slice none 0 0) w
 nil:es≠[]->∀ty zv,i.zero=some zv->0<es.length->(es.length:Int)<=9223372036854775807->es.length*i.bytes<=281474976710656->
  (Builtin.append_ #[t,t'] ty #[.slice none 0 0,y]).run P w= .ok (.slice (some ⟨w.heap.size,0,none⟩) es.length (grownCap w es.length 0 el)) (w.drew.alloc (.cells (cs.toArray++Builtin.zeroCells zv.cells (grownCap w es.length 0 el-es.length)) el))
 room:∀ty g sLen sCap (cur:Array Value) (ty':TyAt cur.size),w.heap[g]?=some (.cells cur ty'.ty ty'.fz)->(∀u∈cs,u.oneCell'=true)->sLen+es.length<=sCap->sLen*i.size+cs.length<=cur.size->
  (Builtin.append_ #[t,t'] ty #[.s g sLen sCap,y]).run P w= .ok (.s g (sLen+es.length) sCap) (w.setRow g (cur.toList.take (sLen*i.size)++cs++cur.toList.drop (sLen*i.size+cs.length)).toArray)
 grow:es≠[]->∀ty zv (b:Addr) sLen sCap (olds:List Value),i.zero=some zv->olds.length=sLen*i.size->(∀j v,olds[j]?=some v->w.cell? (b.add j)=some v)->sCap<sLen+es.length->((sLen+es.length:Nat):Int)<=9223372036854775807->Builtin.nextslicecap (sLen+es.length) sCap*i.bytes<=281474976710656->
  (Builtin.append_ #[t,t'] ty #[.slice (some b) sLen sCap,y]).run P w= .ok (.slice (some ⟨w.heap.size,0,none⟩) (sLen+es.length) (grownCap w (sLen+es.length) sCap el)) (w.drew.alloc (.cells (olds.toArray++cs.toArray++Builtin.zeroCells zv.cells (grownCap w (sLen+es.length) sCap el-(sLen+es.length))) el))
variable{el:TypeId}
theorem Ij{i:TypeInfo}(hu:P.underlying t=some (.slice el))(hi:P.info? el=some i){y:Value}{nl:Bool}{iI:Nat}{es:U}{tok:Option Nat}(h:Rd m w y (.sl nl iI es tok))(hs:iI=i.size∨es=[]):
 ∃cs,SrcOf P m w t t el i y es cs:=by
 obtain⟨cs,hflat,hlen,hfc,hsrc⟩:=Rf (P:=P) h hs;have hsz:bo P el=some i.size:=by simp[bo,hi]
 refine⟨cs,hflat,fun he ty=>?_,fun he ty zv hzv h1 h2 h3=>?_,fun ty g sLen sCap cur ty' hh h1 h2 h3=>Ii (P:=P) w t ty el i hu hi g sLen sCap cur ty' hh _ es.length cs hlen hfc h1 h2 h3,fun he ty zv b sLen sCap olds hzv h1 h2 h3 h4 h5=>?_⟩
 . subst he;have hcs:cs=[]:=by have:=hflat.len;simpa using this
   subst hcs;simp at hlen hfc;simp[Builtin.append_,aC hu,bN hsz,hlen,hfc]
 . obtain⟨blk,off,cap,hyv,hcell⟩:=hsrc he;rw[hyv];exact run_append_nil (P:=P) w t ty el i zv hu hi hzv _ es.length cap cs hflat.len hcell h1 h2 h3
 . obtain⟨blk,off,cap,hyv,hcell⟩:=hsrc he;rw[hyv];exact run_append_grow (P:=P) w t ty el i zv hu hi hzv b sLen sCap olds h1 h2 _ es.length cap cs hflat.len hcell h3 h4 h5
theorem An(s:ByteArray)(j:Nat):(Lib.strCells s)[j]?=(s.data.toList[j]?).map fun b=>Value.int .u8 b.toNat:=by unfold Lib.strCells;rw[ac9]
theorem vO{s:ByteArray}(hs:1=sz∨fO s=[]):Flat m w (Lib.strCells s) sz (fO s):=by
 rcases hs with rfl|hs
 . refine⟨by simp[Lib.strCells,fO],fun i e hi=>?_⟩;simp only[fO,ac9,adn] at hi;obtain⟨b,hb,rfl⟩:=hi;refine⟨rfl,fun j d hd=>?_⟩;cases j with
   |zero=>cases hd;exact⟨.int .u8 b.toNat,by rw[adx,aeq,An,hb];rfl,.x _⟩
   |succ j=>cases hd
 . rw[hs];have:Lib.strCells s=[]:=by unfold fO at hs;rw[agd] at hs;unfold Lib.strCells;rw[hs];rfl
   rw[this];exact Flat.nil _
theorem Ao(s:ByteArray):(fO s).length=s.size:=by unfold fO;rw[eq,adD];rfl
theorem M6{t':TypeId}{i:TypeInfo}(hu:P.underlying t=some (.slice el))(hu':P.underlying t'=some .string)(hi:P.info? el=some i){s:ByteArray}(hs:1=i.size∨fO s=[]):
 ∃cs,SrcOf P m w t t' el i (.string s) (fO s) cs:=by
 have hflat:=vO (m:=m) (w:=w) hs;have hsz:bo P el=some i.size:=by simp[bo,hi]
 have hlen:=Ao s;have hfc:=Lib.run_firstCells_string (P:=P) w i.size s;refine⟨Lib.strCells s,hflat,fun he ty=>?_,fun he ty zv hzv h1 h2 h3=>?_,fun ty g sLen sCap cur ty' hh h1 h2 h3=>?_,fun he ty zv b sLen sCap olds hzv h1 h2 h3 h4 h5=>?_⟩
 . have h0:s.size=0:=by rw[<-hlen,he];rfl
   rw[h0] at hfc;simp[Builtin.append_,aC hu,aC hu',bN hsz,Builtin.lenOf,h0,hfc]
 . rw[hlen] at h1 h2 h3⊢;have hr:=run_append_nil_string (P:=P) w t t' ty el i zv hu hu' hi hzv s h1 h2 h3;have e1:(s.data.map fun b=>Value.int .u8 b.toNat)=(Lib.strCells s).toArray:=by apply Array.ext';simp[Lib.strCells]
   rw[e1] at hr;exact hr
 . rw[hlen] at h2⊢;have hst:=de P g (sLen*i.size) ty'.ty ty'.fz (Lib.strCells s) 0 cur w hh ty'.ok A0b h1;simp only[aeq] at hst;simp[Builtin.append_,aC hu,aC hu',bN hsz,Builtin.lenOf,h2,hfc,aP,hst]
 . rw[hlen] at h3 h4 h5⊢;exact Lib.run_append_grow_string (P:=P) w t t' ty el i zv hu hu' hi hzv b sLen sCap olds h1 h2 s h3 h4 h5
theorem Ap{sx:Operand}(h:ev E st sx= .sl nl sz es (some k)):∃i,sx= .tmp i∧st.t i= .sl nl sz es (some k):=by
 cases sx with
 |tmp i=>exact⟨i,rfl,h⟩
 |const v=>simp only[ev,eO] at h;split at h<;>cases h
 |global g=>simp only[ev,bA] at h;generalize E.G g=u at h;cases u<;>cases h
 |func f=>cases h
theorem po(h:Rel E n pm m0 w0 m β st a w){sx:Operand}{s sz len:Nat}(he:ev E st sx= .row s sz len):∃i,sx= .tmp i∧st.t i= .row s sz len:=by
 cases sx with
 |tmp i=>exact⟨i,rfl,he⟩
 |const v=>exact Zk
 |global g=>simp only[ev,bA] at he;have:=h.glob g;generalize E.G g=u at he this;cases u<;>first|exact this.not_row.elim|cases he
 |func f=>cases he
theorem sr(h:Rel E n pm m0 w0 m β st a w){sx:Operand}{s:Nat}{ks vs:U}(he:ev E st sx= .mp s ks vs):∃i,sx= .tmp i∧st.t i= .mp s ks vs:=by
 cases sx with
 |tmp i=>exact⟨i,rfl,he⟩
 |const v=>exact Zk
 |global g=>simp only[ev,bA] at he;have:=h.glob g;generalize E.G g=u at he this;cases u<;>first|exact this.not_mp.elim|cases he
 |func f=>cases he
theorem Aq(h:Rel E n pm m0 w0 m β st a w){sx:Operand}{s:Nat}{ks vs:U}(he:ev E st sx= .mp s ks vs):MapAt m w (β s) ks vs:=by obtain⟨i,_,hi⟩:=sr h he;exact(h.maps.holds i s ks vs hi).1
theorem fE(s:Nat)(ks vs:U)(u:V):dW s ks vs u=u∨(∃ks' vs',u= .mp s ks' vs')∧dW s ks vs u= .mp s ks vs:=by
 rw[dc];cases u<;>try exact .inl rfl
 rename_i s' ks' vs';simp only[vE];by_cases e:s'=s
 . subst e;rw[adl rfl];exact .inr ⟨⟨_,_,rfl⟩,rfl⟩
 . rw[adq e];exact .inl rfl
theorem Rel.newMap(h:Rel E n pm m0 w0 m β st a w){s:Nat}(hs:s<n)(hn:noPtrTo s st.t):
 Rel E n pm m0 w0 (upd m w.heap.size (some 0)) (upd β s w.heap.size) ⟨upd st.t s (.mp s [] []),upd st.b s none⟩ (a.put (some s) (.map (some w.heap.size))) (w.alloc (.map #[] 0)):=by
 have he:Ext m w (upd m w.heap.size (some 0)) (w.alloc (.map #[] 0)):=Ext.fresh0 m w _ _;have hml:∀k o,w.heap[k]?=some o->upd m w.heap.size (some 0) k=m k:=fun k o hk=>ah _ _ (aer (ag hk))
 have hold:∀k o,w.heap[k]?=some o->(w.alloc (.map #[] 0)).heap[k]?=some o:=fun k o hk=>by rw[Below.heap_alloc w _ k (ag hk)];exact hk
 have hlt:s<a.tmps.size:=by rw[h.size];exact hs
 have hb':∀{s':Nat} {c:U},upd st.b s none s'=some c->s'≠s∧st.b s'=some c:=fun {s' c} hc=>by
  rw[aJ] at hc;split at hc
  . cases hc
  . rename_i e;exact⟨e,hc⟩
 refine⟨fun i=>?_,by simp[Act.put,h.size],fun s' c' hs'=>?_,fun s1 s2 c1 c2 h1 h2 heq=>?_,h.below.alloc h.below.size _,⟨h.par.1,fun s' hs'=>(ah _ _ (by have:=h.par.1;omega)).trans (h.par.2.1 s' hs'),h.par.2.2⟩,⟨fun blk hb hy=>by rw[ah _ _ (by have:=h.below.size;omega)];exact h.mold.1 blk hb hy,h.mold.2.1.trans he,h.mold.2.2⟩,?_,fun i s' sz len c' hi hc=>?_,h.defers,fun g=>(h.glob g).mono he,h.j,⟨fun i s' ks vs hi=>?_,fun i j s1 s2 ks vs ks' vs' hi hj e=>?_⟩⟩
 . simp only[Act.put,bG _ _ _ _ hlt,aJ st.t];split
   . have:=Rs.ofMp (m:=upd m w.heap.size (some 0)) (w:=w.alloc (.map #[] 0)) (β:=upd β s w.heap.size) s [] []
     rwa [aj] at this
   . exact mo
 . obtain⟨h1,h2⟩:=hb' hs';rw[ah _ _ h1];obtain⟨⟨hl,vals,ty,xs,rest,hh,hx,hr⟩,hge⟩:=h.boxes s' c' h2;exact⟨⟨by rw[hml _ _ hh];exact hl,vals,ty,xs,rest,hold _ _ hh,hx,hr.mono he⟩,hge⟩
 . exact Zw
 . obtain⟨ρ,hr⟩:=h.rows;refine⟨ρ,hr.to (fun v sz es s' hi=>hi.from (fun i hi=>?_) (fun k c j h1 h2 h3 h4=>?_)) (fun v sz es s' hi=>?_) (fun v sz es s' k c hi hk=>?_)⟩
   . simp only[aJ st.t] at hi;simp only[Act.put,bG _ _ _ _ hlt];split at hi
     . cases hi
     . exact pO
   . obtain⟨q1,q2⟩:=hb' h2;rw[ah _ _ q1] at h4;obtain⟨⟨_,vals,ty,xs,rest,hh,_,_⟩,_⟩:=h.boxes _ _ q2;rw[bc (Below.heap_alloc w _ _ (ag hh))] at h4;exact .inr ⟨k,c,j,h1,q2,h3,h4⟩
   . obtain⟨_,_,_,_,_,_,hh,_⟩:=hr.row v sz es s' hi;exact⟨Below.heap_alloc w _ _ (ag hh),hml _ _ hh⟩
   . exact ZX
 . obtain⟨q1,q2⟩:=hb' hc;simp only[aJ st.t] at hi;simp only[Act.put,bG _ _ _ _ hlt];split at hi
   . cases hi
   . rename_i e;rw[adq e];obtain⟨hl,cap,cur,ty,hv,hh,hsz⟩:=h.own i s' sz len c' hi q2;exact⟨hl,cap,cur,ty,by rw[ah _ _ q1];exact hv,by rw[ah _ _ q1];exact hold _ _ hh,hsz⟩
 . simp only[aJ st.t] at hi;split at hi
   . cases hi;rw[aj];exact⟨⟨#[],0,World.heap_new w _,trivial,(fun e he=>by cases he),ad3,aj _ _ _⟩,.inl h.below.size⟩
   . have hne:s'≠s:=fun e=>hn i A1y
     rw[ah _ _ hne];obtain⟨⟨ents,clock,hh,hrd,q1,q2,q4⟩,q3⟩:=h.maps.holds i s' ks vs hi;exact⟨⟨ents,clock,hold _ _ hh,hrd.mono he,q1,q2,by rw[hml _ _ hh];exact q4⟩,q3⟩
 . simp only[aJ st.t] at hi hj;have hsz:∀{k s':Nat} {ks vs:U},st.t k= .mp s' ks vs->s'≠s∧β s'<w.heap.size:=fun {k s' ks vs} hk=>by obtain⟨⟨ents,clock,hh,_⟩,_⟩:=h.maps.holds _ _ _ _ hk;exact⟨fun e=>hn k (by rw[hk,e];rfl),ag hh⟩
   split at hi<;>split at hj
   . cases hi;cases hj;rfl
   . cases hi;obtain⟨q1,q2⟩:=hsz hj;rw[aj,ah _ _ q1] at e;omega
   . cases hj;obtain⟨q1,q2⟩:=hsz hi;rw[aj,ah _ _ q1] at e;omega
   . exact Zx
theorem Rel.newMapAt(h:Rel E n pm m0 w0 m β st a w){s g:Nat}{ks vs:U}{m':Lim}{w':World}(hs:s<n)(hn:noPtrTo s st.t)(hb:Below w.heap.size w w')(hm:∀blk,blk<w.heap.size->m' blk=m blk)(hg:w.heap.size<=g)(hM:MapAt m' w' g ks vs):
 Rel E n pm m0 w0 m' (upd β s g) ⟨upd st.t s (.mp s ks vs),upd st.b s none⟩ (a.put (some s) (.map (some g))) w':=by
 have h':=h.call hb hm;have hlt:s<a.tmps.size:=by rw[h.size];exact hs
 have hb':∀{s':Nat} {c:U},upd st.b s none s'=some c->s'≠s∧st.b s'=some c:=fun {s' c} hc=>by
  rw[aJ] at hc;split at hc
  . cases hc
  . rename_i e;exact⟨e,hc⟩
 refine⟨fun i=>?_,by simp[Act.put,h.size],fun s' c' hs'=>?_,fun s1 s2 c1 c2 h1 h2 heq=>?_,h'.below,⟨h.par.1,fun s' hs'=>(ah _ _ (by have:=h.par.1;omega)).trans (h.par.2.1 s' hs'),h.par.2.2⟩,h'.mold,?_,fun i s' sz len c' hi hc=>?_,h.defers,h'.glob,h.j,⟨fun i s' ks' vs' hi=>?_,fun i j s1 s2 ks1 vs1 ks2 vs2 hi hj e=>?_⟩⟩
 . simp only[Act.put,bG _ _ _ _ hlt,aJ st.t];split
   . have:=Rs.ofMp (m:=m') (w:=w') (β:=upd β s g) s ks vs
     rwa [aj] at this
   . exact(h'.tmps i).beta (fun s' hs'=>ah _ _ (fun e=>hn i (by rw[hs',e])))
 . obtain⟨h1,h2⟩:=hb' hs';rw[ah _ _ h1];exact h'.boxes s' c' h2
 . exact Zw
 . obtain⟨ρ,hr⟩:=h'.rows;refine⟨ρ,hr.to (fun v sz es s' hi=>hi.from (fun i hi=>?_) (fun k c j h1 h2 h3 h4=>?_)) (fun v sz es s' hi=>⟨rfl,rfl⟩) (fun v sz es s' k c hi hk=>?_)⟩
   . simp only[aJ st.t] at hi;simp only[Act.put,bG _ _ _ _ hlt];split at hi
     . cases hi
     . exact pO
   . obtain⟨q1,q2⟩:=hb' h2;rw[ah _ _ q1] at h4;exact .inr ⟨k,c,j,h1,q2,h3,h4⟩
   . exact ZX
 . obtain⟨q1,q2⟩:=hb' hc;simp only[aJ st.t] at hi;simp only[Act.put,bG _ _ _ _ hlt];split at hi
   . cases hi
   . rename_i e;rw[adq e];obtain⟨hl,cap,cur,ty,hv,hh,hsz⟩:=h'.own i s' sz len c' hi q2;exact⟨hl,cap,cur,ty,by rw[ah _ _ q1];exact hv,by rw[ah _ _ q1];exact hh,hsz⟩
 . simp only[aJ st.t] at hi;split at hi
   . cases hi;rw[aj];exact⟨hM,.inl (adJ h.below.size hg)⟩
   . have hne:s'≠s:=fun e=>hn i A1y
     rw[ah _ _ hne];exact h'.maps.holds i s' ks' vs' hi
 . simp only[aJ st.t] at hi hj;have hsz:∀{k s':Nat} {ks vs:U},st.t k= .mp s' ks vs->s'≠s∧β s'<w.heap.size:=fun {k s' ks vs} hk=>by obtain⟨⟨ents,clock,hh,_⟩,_⟩:=h.maps.holds _ _ _ _ hk;exact⟨fun e=>hn k (by rw[hk,e];rfl),ag hh⟩
   split at hi<;>split at hj
   . cases hi;cases hj;rfl
   . cases hi;obtain⟨q1,q2⟩:=hsz hj;rw[aj,ah _ _ q1] at e;omega
   . cases hj;obtain⟨q1,q2⟩:=hsz hi;rw[aj,ah _ _ q1] at e;omega
   . exact Zx
theorem Rel.setMap(h:Rel E n pm m0 w0 m β st a w){s i0:Nat}{ks vs ks' vs':U}(h0:st.t i0= .mp s ks vs){ents:Array MapEntry}{clock:Nat}
 (hm:MapAt m {w with heap:=w.heap.setIfInBounds (β s) (.map ents clock)} (β s) ks' vs'):Rel E n pm m0 w0 m β ⟨rD s ks' vs' st.t,st.b⟩ a {w with heap:=w.heap.setIfInBounds (β s) (.map ents clock)}:=by
 obtain⟨⟨e0,c0,hh0,_,_,_,hlim0⟩,hown⟩:=h.maps.holds i0 s ks vs h0;have he:=lF (m:=m) (ents':=ents) (clock':=clock) hh0 hlim0;have hoth:=(MapKept.heap_set (o':= .map ents clock) hh0).2;have hcell:∀{g:Nat} {cur:Array Value} {ty:TypeId} {fr:Nat×Nat},w.heap[g]?=some (.cells cur ty fr)->g≠β s:=fun {g cur ty fr} hg e=>by subst e;rw[hh0] at hg;cases hg
 have hsl:∀{i sz s':Nat} {nl:Bool} {es:U},rD s ks' vs' st.t i= .sl nl sz es (some s')->st.t i= .sl nl sz es (some s'):=fun {i sz s' nl es} hi=>by
  have hi:dW s ks' vs' (st.t i)=_:=hi;rcases fE s ks' vs' (st.t i) with e|⟨_,e⟩
  . rw[e] at hi;exact hi
  . rw[e] at hi;cases hi
 refine⟨fun i=>?_,h.size,fun s' c' hs'=>?_,h.inj,⟨h.below.os,h.below.tape,h.below.output,by simpa using h.below.size,fun k hk hx=>?_⟩,h.par,⟨h.mold.1,h.mold.2.1.trans he,h.mold.2.2⟩,?_,fun i s' sz len c' hi hc=>?_,h.defers,fun g=>(h.glob g).mono he,h.j,⟨fun i s' ks1 vs1 hi=>?_,fun i j s1 s2 ks1 vs1 ks2 vs2 hi hj e=>?_⟩⟩
 . show Rs m _ β _ (dW s ks' vs' (st.t i));have:=(h.tmps i).mono he;rcases fE s ks' vs' (st.t i) with e|⟨⟨k1,v1,e1⟩,e⟩
   . rw[e];exact this
   . rw[e];rw[e1] at this;rw[this.mp];exact .ofMp _ _ _
 . obtain⟨⟨hl,vals,ty,xs,rest,hh,hx,hr⟩,hge⟩:=h.boxes s' c' hs';exact⟨⟨hl,vals,ty,xs,rest,by show(w.heap.setIfInBounds _ _)[_]?=_;rw[hoth _ (hcell hh)];exact hh,hx,hr.mono he⟩,hge⟩
 . show(w.heap.setIfInBounds _ _)[k]?=_;rw[hoth k (fun e=>by subst e;rcases hown with h1|h1;omega;exact hx h1)];exact h.below.block k hk hx
 . obtain⟨ρ,hr⟩:=h.rows;refine⟨ρ,hr.to (fun v sz es s' hi=>hi.from (fun i hi=> .inl ⟨i,hsl hi,rfl⟩) (fun k c j h1 h2 h3 h4=>?_)) (fun v sz es s' hi=>?_) (fun v sz es s' k c hi hk=>hr.box _ _ _ _ _ _ hi hk)⟩
   . obtain⟨⟨_,vals,ty,xs,rest,hh,_,_⟩,_⟩:=h.boxes _ _ h2;rw[bc (w:=w) (by show(w.heap.setIfInBounds _ _)[_]?=_;rw[hoth _ (hcell hh)])] at h4;exact Zl
   . obtain⟨_,_,_,_,_,_,hh,_⟩:=hr.row v sz es s' hi;exact⟨by show(w.heap.setIfInBounds _ _)[_]?=_;rw[hoth _ (hcell hh)],rfl⟩
 . have hi':st.t i= .row s' sz len:=by
    have hi:dW s ks' vs' (st.t i)=_:=hi;rcases fE s ks' vs' (st.t i) with e|⟨_,e⟩
    . rw[e] at hi;exact hi
    . rw[e] at hi;cases hi
   obtain⟨hl,cap,cur,ty,hv,hh,hsz⟩:=h.own i s' sz len c' hi' hc;exact⟨hl,cap,cur,ty,hv,by show(w.heap.setIfInBounds _ _)[_]?=_;rw[hoth _ (hcell hh)];exact hh,hsz⟩
 . have hi1:dW s ks' vs' (st.t i)= .mp s' ks1 vs1:=hi;rcases fE s ks' vs' (st.t i) with e|⟨⟨k1,v1,e1⟩,e⟩
   . have hi2:st.t i= .mp s' ks1 vs1:=e.symm.trans hi1;obtain⟨⟨ents1,clock1,hh,hrd,q1,q2⟩,q3⟩:=h.maps.holds i s' ks1 vs1 hi2;by_cases hs:s'=s
     . subst hs;rw[hi2,dc] at e;simp only[vE,adB] at e;obtain⟨_,rfl,rfl⟩:=V.mp.inj e;exact⟨hm,hown⟩
     . have hne:β s'≠β s:=fun e'=>hs (h.maps.inj _ _ _ _ _ _ _ _ hi2 h0 e')
       exact⟨⟨ents1,clock1,by show(w.heap.setIfInBounds _ _)[_]?=_;rw[hoth _ hne];exact hh,hrd.mono he,q1,q2⟩,q3⟩
   . rw[e] at hi1;cases hi1;exact⟨hm,hown⟩
 . have key:∀{i s':Nat} {ks1 vs1:U},rD s ks' vs' st.t i= .mp s' ks1 vs1->∃ks2 vs2,st.t i= .mp s' ks2 vs2:=fun {i s' ks1 vs1} hi=>by
    have hi:dW s ks' vs' (st.t i)=_:=hi;rcases fE s ks' vs' (st.t i) with e|⟨⟨k1,v1,e1⟩,e⟩
    . rw[e] at hi;exact⟨_,_,hi⟩
    . rw[e] at hi;cases hi;exact⟨_,_,e1⟩
   obtain⟨_,_,hi'⟩:=key hi;obtain⟨_,_,hj'⟩:=key hj;exact h.maps.inj _ _ _ _ _ _ _ _ hi' hj' e
theorem oe{n:Nat}:∀(es:U) (cs:List Value),Flat m w cs n es->RdL m w cs (es.flatMap V.cells)
 |[],cs,h=>by have:=h.len;simp at this;subst this;trivial
 | e::es,cs,h=>by
   have hlen:=h.len;simp only[adm,aek,afu] at hlen;obtain⟨hn,hc⟩:=h.each 0 e rfl;have h1:RdL m w (cs.take n) e.cells:=RdL.of_get A0F (fun j v d hv hd=>by
    obtain⟨x,hx,hr⟩:=hc j d hd;rw[ad6] at hv;split at hv
    . rw[agt,adi] at hx;rw[hx] at hv;cases hv;exact hr
    . cases hv)
   have h2:=oe es (cs.drop n) ⟨A0F,fun i u hu=>⟨(h.each (i+1) u (by simpa using hu)).1,fun j d hd=>by obtain⟨x,hx,hr⟩:=(h.each (i+1) u (by simpa using hu)).2 j d hd;refine⟨x,?_,hr⟩;rw[aeA,<-hx,aek];congr 1;omega⟩⟩
   rw[aeg,<-afq n cs];exact h1.append h2
theorem og(h :Rel E n pm m0 w0 m β st a w){dst:Option Tmp}(hd:∀k,dst=some k->k<n){sx sy:Operand}{t t' ty el:TypeId}{st':St}{yv:V}(hsrc:∀i nl sz es tok,yv= .sl nl sz es tok->E.P.info? el=some i->(sz=i.size∨es=[])->∃cs,SrcOf E.P m w t t' el i (a.eval sy) es cs)
 (hg:bt E st dst el (ev E st sx) yv=some st'):∃v w' m' β',(Builtin.append_ #[t,t'] ty #[a.eval sx,a.eval sy]).run E.P w= .ok v w'∧Rel E n pm m0 w0 m' β' st' (a.put dst v) w':=by
 have hx:=aQ h sx;obtain⟨ρ,hrw⟩:=h.rows;have hρlt:∀{v:Value} {iI:Nat} {es0:U} {s:Nat},Bear E w β st (fun i=>a.tmps.getD i undef) v (.sl false iI es0 (some s))->ρ s<w.heap.size:=fun hi=>by obtain⟨_,_,_,_,_,_,hh,_⟩:=hrw.row _ _ _ _ hi;exact ag hh
 have hβlt:∀{s:Nat} {cs:U},st.b s=some cs->β s<w.heap.size:=fun hs=>by obtain⟨⟨_,_,_,_,_,hh,_⟩,_⟩:=h.boxes _ _ hs;exact ag hh
 unfold bt at hg;split at hg
 . rename_i d sz by' z hsz hby hz;obtain⟨i,hi,rfl⟩:=tP hsz;have hbi:i.bytes=by':=by simpa[bY,hi] using hby
   obtain⟨zv,hzv,hzs⟩:=tQ hi hz;subst hbi;have hdn:d<n:=hd d rfl;split at hg
   . rename_i iI tok0 nl' sz' es' tok' hA;split at hg
     . rename_i hc;obtain⟨hn0,hzl,hs',hone,hby1,hmax⟩:=hc;cases hg;rw[hA] at hx;obtain⟨k',hk',hkb⟩:∃k',nn tok0 (strip d st.t)=strip k' (strip d st.t)∧tJ E tok0 (aG E d st.b)=aG E k' (aG E d st.b):=by
        cases tok0 with
        |none=>exact⟨d,(ii _ _).symm,(jw _ _ _).symm⟩
        |some k=>exact⟨k,rfl,rfl⟩
       rw[hk',hkb];rcases(hx.rd A1p).flat with⟨_,hxv,_⟩|⟨hf,_⟩|⟨_,_,_,_,hf,_⟩
       . rw [hxv];obtain⟨cs,hS⟩:=hsrc i _ _ _ _ rfl hi hs';have hflat:=hS.flat;by_cases he:es'=[]
         . have hE:=hS.nilE he ty;subst he;refine⟨.slice none 0 0,w,m,β,hE,((h.stripped d).stripped k').put (d:=some d) (fun k e=>hd k e) (.of (.nil _ _)) (fun sz es s e=>by cases e) (fun s sz len cs e=>by cases e) (fun s ks vs e=>by cases e)⟩
         . have hpos:0<es'.length:=List.length_pos_iff.2 he;have hrun:=hS.nil he ty zv hzv hpos A0b A0b;have hge:=grownCap_ge w es'.length 0 el;have hext:=Ext.fresh m w (.cells (cs.toArray++Builtin.zeroCells zv.cells (grownCap w es'.length 0 el-es'.length)) el) (some (es'.length*i.size));have hhp:(w.drew.alloc (.cells (cs.toArray++Builtin.zeroCells zv.cells (grownCap w es'.length 0 el-es'.length)) el)).heap[w.heap.size]?=some (.cells (cs.toArray++Builtin.zeroCells zv.cells (grownCap w es'.length 0 el-es'.length)) el):=World.heap_new w.drew _;refine⟨_,_,upd m w.heap.size (some (es'.length*i.size)),β,hrun,?_⟩;have hemp:es'.isEmpty=false:=by simpa using he
           rw[hemp]
           have hg:=h.grown hrw (d:=d) (k:=k') (g':=w.heap.size) (sz:=i.size) (es':=es') hdn hext
            (h.below.drew.alloc h.below.size _) (fun g hg hne=>⟨by rw[Below.heap_alloc w.drew _ g hg];rfl,ah _ _ hne⟩)
            ⟨.inl h.below.size,aj _ _ _,_,_,_,rfl,hhp,hge,by rw[afA,size_zeroCells];simp only[aeR,hflat.len,hzs,hzl];rw[<-aek];congr 1;omega⟩
            (Rd.of_flat (hflat.mono hext) hhp (fun j x hj=>by rw[aet (by simpa using aZ hj)];simpa using hj) hge (fun fr hf=>by rw[aj] at hf;cases hf;exact adp _) _)
            (fun v0 iI es0 s hi'=>aer (hρlt (Bear.stripped (Bear.stripped (st:=⟨strip d st.t,aG E d st.b⟩) hi').1).1)) (fun s cs hs=>aer (hβlt hs)) (fun e c h'=>by have:=ag h';omega)
           exact hg
       . cases hf
       . cases hf
     . cases hg
   . rename_i sz es k nl' sz' es' tok' hA;split at hg
     . rename_i hc;obtain⟨hn0,hzl,rfl,hs',hone,hby1,hmax⟩:=hc;cases hg;obtain⟨ix,rfl,hix⟩:=Ap hA;have hbx:Bear E w β st (fun i=>a.tmps.getD i undef) (a.tmps.getD ix undef) _:=Bear.slot (tm:=fun i=>a.tmps.getD i undef) hix;obtain⟨hlo,hlim,cap0,cur,tyc,hxv,hh,hcap,hcs⟩:=hrw.row _ _ _ _ hbx;rw[hA] at hx;have hxv':a.eval (.tmp ix)= .slice (some ⟨ρ k,0,none⟩) es.length cap0:=hxv;rw[hxv'] at hx⊢;obtain⟨cs,hS⟩:=hsrc i _ _ _ _ rfl hi hs';have hflat:=hS.flat;rcases(hx.rd A1p).flat with⟨hf,_⟩|⟨_,_,hf,_⟩|⟨blk,off,cap1,olds,_,hv1,hfo,hco⟩
       . cases hf
       . cases hf
       . cases hv1;have hco':∀(j:Nat) (x:Value),olds[j]?=some x->cur[j]?=some x:=fun j x hj=>by have:=hco j x hj;rwa [adi,Box.cell hh] at this
         have hle:olds.length<=cur.size:=by rw[hfo.len,hcs];exact ad9 _ hcap
         have htake:cur.toList.take (es.length*i.size)=olds:=by
          apply aeB;intro j;rw[ad6,<-hfo.len];split
          . rename_i hj;have:=hco' j _ (io hj);rw[io hj];simpa using this
          . rename_i hj;rw[adM A0b]
         by_cases hroom:es.length+es'.length<=cap0
         . have hfit:es.length*i.size+cs.length<=cur.size:=by rw[hflat.len,hcs,<-aek];exact ad9 _ hroom
           have hrun:=hS.room ty (ρ k) es.length cap0 cur (.plain tyc) hh (hflat.one hone) hroom hfit;rw[htake] at hrun;have hhp:=setRow_heap w (ρ k) cur (olds++cs++cur.toList.drop (es.length*i.size+cs.length)).toArray tyc (0,0) hh;have hpre:∀(j:Nat) (x:Value),(olds++cs)[j]?=some x->(olds++cs++cur.toList.drop (es.length*i.size+cs.length)).toArray[j]?=some x:=fun j x hj=>by rw[aew,adu (aZ hj)];exact hj
           have hext:Ext m w (upd m (ρ k) (some ((es.length+es'.length)*i.size))) (w.setRow (ρ k) (olds++cs++cur.toList.drop (es.length*i.size+cs.length)).toArray):=by
            refine⟨A0k,fun blk off v hb hm hc=>?_,fun blk hb fr hf=>?_,fun blk es c hm hc=>by rw[setRow_other w _ _ _ (fun e=>by rw[e,hlim] at hm;cases hm)];exact hc⟩
            . by_cases hne:blk=ρ k
              . subst hne;have hlt:=hm _ hlim;rw[Box.cell hh] at hc;rw[Box.cell hhp];refine hpre _ _ ?_;rw[adu (by rw[hfo.len];exact hlt),<-htake,ad6,adl hlt];simpa using hc
              . exact ZZ
            . rw[aJ] at hf;split at hf
              . rename_i e;subst e;cases hf;exact⟨_,hlim,ad9 _ A0b ⟩
              . exact⟨fr,hf,adp _⟩
           have hsize:(olds++cs++cur.toList.drop (es.length*i.size+cs.length)).toArray.size=cap0*i.size:=by
            have h1:=hfo.len;have h2:(olds++cs++cur.toList.drop (es.length*i.size+cs.length)).length=olds.length+cs.length+(cur.size-(es.length*i.size+cs.length)):=by simp only[adh,aeE,adD]
            show(olds++cs++cur.toList.drop (es.length*i.size+cs.length)).length=_;omega
           have hll:(es++es').length=es.length+es'.length:=adh;refine⟨_,_,upd m (ρ k) (some ((es.length+es'.length)*i.size)),β,hrun,?_⟩;rw[<-hll]
           refine h.grown hrw hdn (g':=ρ k) (by rw[hll];exact hext) (h.below.setRow (hlo.imp id (h.mold.2.2 _)) _) (fun g hg hne=>⟨setRow_other w _ _ _ hne,ah _ _ hne⟩)
            ⟨hlo,by rw[aj],cap0,_,tyc,rfl,hhp,by rw[hll];exact hroom,hsize⟩
            (Rd.of_flat ((hfo.append hflat).mono (by rw[hll];exact hext)) hhp hpre (by rw[hll];exact hroom) (fun fr hf=>by rw[aj] at hf;cases hf;exact adp _) _)
            (fun v0 iI es0 s hi' e=>?_) (fun s cs hs=>hrw.box _ _ _ _ _ _ hbx hs) (fun e c h'=>by rw[hh] at h';cases h')
           obtain⟨h1,h2⟩:=Bear.stripped (st:=⟨strip d st.t,aG E d st.b⟩) hi';exact h2 (hrw.sep _ _ _ _ _ _ _ _ (Bear.stripped h1).1 hbx e)
         . have he:es'≠[]:=by intro h0;rw[h0] at hroom;exact hroom hcap
           have hrun:=hS.grow he ty zv ⟨ρ k,0,none⟩ es.length cap0 olds hzv hfo.len (fun j x hj=>by rw[aP];exact hco j x hj) A0b A0b (growslice_fits A0b hby1);have hge:=grownCap_ge w (es.length+es'.length) cap0 el;have hll:(es++es').length=es.length+es'.length:=adh;have hext:=Ext.fresh m w (.cells (olds.toArray++cs.toArray++Builtin.zeroCells zv.cells (grownCap w (es.length+es'.length) cap0 el-(es.length+es'.length))) el) (some ((es++es').length*i.size));have hhp:(w.drew.alloc (.cells (olds.toArray++cs.toArray++Builtin.zeroCells zv.cells (grownCap w (es.length+es'.length) cap0 el-(es.length+es'.length))) el)).heap[w.heap.size]?=some (.cells (olds.toArray++cs.toArray++Builtin.zeroCells zv.cells (grownCap w (es.length+es'.length) cap0 el-(es.length+es'.length))) el):=World.heap_new w.drew _;refine⟨_,_,upd m w.heap.size (some ((es++es').length*i.size)),β,hrun,?_⟩;rw[<-hll] at hge⊢
           refine h.grown hrw hdn (g':=w.heap.size) (by rw[hll];rw[hll] at hext;exact hext) (h.below.drew.alloc h.below.size _) (fun g hg hne=>⟨by rw[Below.heap_alloc w.drew _ g hg];rfl,ah _ _ hne⟩)
            ⟨.inl h.below.size,aj _ _ _,_,_,_,rfl,by rw[hll];exact hhp,hge,by rw[afA,afA,size_zeroCells];simp only[aeR,hfo.len,hflat.len,hzs,hzl];rw[<-aek,<-aek,<-hll];congr 1;omega⟩
            (Rd.of_flat ((hfo.append hflat).mono (by rw[hll];rw[hll] at hext;exact hext)) (by rw[hll];exact hhp) (fun j x hj=>by rw[aet (by have:=aZ hj;simpa using this)];simpa using hj) hge (fun fr hf=>by rw[aj] at hf;cases hf;exact adp _) _)
            (fun v0 iI es0 s hi'=>aer (hρlt (Bear.stripped (Bear.stripped (st:=⟨strip d st.t,aG E d st.b⟩) hi').1).1)) (fun s cs hs=>aer (hβlt hs)) (fun e c h'=>by have:=ag h';omega)
     . cases hg
   . rename_i s sz len nl' sz' es' tok' hA;split at hg
     . rename_i cs hcs;split at hg
       . rename_i hc;obtain⟨hn0,hzl,rfl,hs',hone,hby1,hmax,hmb⟩:=hc;cases hg;obtain⟨ix,rfl,hix⟩:=po h hA;obtain⟨hfit,cap0,cur,tyc,hxv,hh,hcs0⟩:=h.own ix s i.size len cs hix hcs;obtain⟨⟨hlim,vals,ty0,xs,rest,hh',hvs,hr⟩,hlo⟩:=h.boxes s cs hcs;rw[hh] at hh';obtain rfl:cur=vals:=by injection hh' with hh';injection hh'
         have hxv':a.eval (.tmp ix)= .slice (some ⟨β s,0,none⟩) len cap0:=hxv;have hcap:len<=cap0:=by obtain⟨cap',hv',hc'⟩:=(hix▸h.tmps ix:Rs m w β (a.tmps.getD ix undef) (.row s i.size len)).row;have hxv:a.tmps.getD ix undef= .slice (some ⟨β s,0,none⟩) len cap0:=hxv;rw[hv'] at hxv;cases hxv;exact hc'
         rw[hxv'];obtain⟨news,hS⟩:=hsrc i _ _ _ _ rfl hi hs';have hflat:=hS.flat;have hxl:=hr.length;have hcl:cur.size=xs.length+rest.length:=by rw[<-adD,hvs,adh]
         have hnl:news.length=es'.length*i.size:=hflat.len;have htk:cur.toList.take (len*i.size)=xs.take (len*i.size):=by rw[hvs,ael A0b]
         have hnew:RdL m w (xs.take (len*i.size)++news) (cs.take (len*i.size)++es'.flatMap V.cells):=(hr.take _).append (oe _ _ hflat);have hnl2:=hnew.length;have hol:(xs.take (len*i.size)).length=len*i.size:=A0K
         have hmul:(len+es'.length)*i.size=len*i.size+es'.length*i.size:=aek _ _ _;by_cases hroom:len+es'.length<=cap0
         . have hmc:(len+es'.length)*i.size<=cap0*i.size:=ad9 _ hroom;have hrun:=hS.room ty (β s) len cap0 cur tyc hh (hflat.one hone) hroom A0b;rw[htk] at hrun;have hext:Ext m w m (w.setRow (β s) (xs.take (len*i.size)++news++cur.toList.drop (len*i.size+news.length)).toArray):=by
            refine⟨A0k,fun blk off v hb hm hc=>?_,fun blk hb fr hf=>⟨fr,hf,adp _⟩,fun blk es c hm hc=>by rw[setRow_other w _ _ _ (fun e=>by rw[e,hlim] at hm;cases hm)];exact hc⟩;have hne:blk≠β s:=by rintro rfl;have:=hm 0 hlim;omega
            exact ZZ
           refine⟨_,_,m,upd β d (β s),hrun,?_⟩
           exact h.regrow hrw hdn hmb hcs (g':=β s) (ty':=tyc.to (by simp only[aeR,adh,hol,aeE,adD];omega)) (xs':=xs.take (len*i.size)++news) (rest':=cur.toList.drop (len*i.size+news.length)) hext (h.below.setRow hlo _) (fun g hg hne=>⟨setRow_other w _ _ _ hne,rfl⟩) (hlo.imp id fun hx=>⟨hx,hlim⟩) hlim
            (setRow_heap w _ _ _ _ _ hh) A0k (hnew.mono hext) A1B hroom
            (by simp only[aeR,adh,hol,aeE,adD];omega)
            (fun i' iI es0 s' hi' e=>hrw.box _ _ _ _ _ _ hi' hcs e.symm) (fun s' c' hs' hne e=>hne (h.inj _ _ _ _ hs' hcs e)) (fun e c h'=>by rw[hh] at h';cases h')
         . have he:es'≠[]:=by intro h0;rw[h0] at hroom;exact hroom hcap
           have hrun:=hS.grow he ty zv ⟨β s,0,none⟩ len cap0 (xs.take (len*i.size)) hzv hol (fun j x hj=>by rw[aP,adi,Box.cell hh,<-adF,hvs];have hj':=aZ hj;rw[hol] at hj';rw[ad6,adl hj'] at hj;rw[adu A0b];exact hj) A0b A0b (growslice_fits A0b hby1)
           have hge:=grownCap_ge w (len+es'.length) cap0 el;have hext:=Ext.fresh m w (.cells ((xs.take (len*i.size)).toArray++news.toArray++Builtin.zeroCells zv.cells (grownCap w (len+es'.length) cap0 el-(len+es'.length))) el) (some 0);have hhp:(w.drew.alloc (.cells ((xs.take (len*i.size)).toArray++news.toArray++Builtin.zeroCells zv.cells (grownCap w (len+es'.length) cap0 el-(len+es'.length))) el)).heap[w.heap.size]?=some (.cells ((xs.take (len*i.size)).toArray++news.toArray++Builtin.zeroCells zv.cells (grownCap w (len+es'.length) cap0 el-(len+es'.length))) el):=World.heap_new w.drew _;refine⟨_,_,upd m w.heap.size (some 0),upd β d w.heap.size,hrun,?_⟩
           exact h.regrow hrw hdn hmb hcs (g':=w.heap.size) (ty':= .plain el) (xs':=xs.take (len*i.size)++news) (rest':=(Builtin.zeroCells zv.cells (grownCap w (len+es'.length) cap0 el-(len+es'.length))).toList) hext (h.below.drew.alloc h.below.size _)
            (fun g hg hne=>⟨by rw[Below.heap_alloc w.drew _ g hg];rfl,ah _ _ hne⟩) (.inl h.below.size) (aj _ _ _) hhp A0k (hnew.mono hext) A1B hge
            (by rw[afA,afA,size_zeroCells];simp only[aeR,hol,hnl,hzs,hzl];rw[<-aek,<-aek];congr 1;omega)
            (fun i' iI es0 s' hi'=>aer (hρlt hi')) (fun s' c' hs' _=>aer (hβlt hs')) (fun e c h'=>by have:=ag h';omega)
       . cases hg
     . cases hg
   . cases hg
 . cases hg
theorem vP(h:Rel E n pm m0 w0 m β st a w){dst:Option Tmp}(hd:∀k,dst=some k->k<n){x y:Value}{A B:V}(hx:Rs m w β x A)(hy:Rs m w β y B){t el:TypeId}{st':St}(hu:E.P.underlying t=some (.slice el))
 (hg:Dm E st dst el A B=some st'):∃v w' m',(Instr.makeSlice t x y).run E.P w= .ok v w'∧Rel E n pm m0 w0 m' β st' (a.put dst v) w':=by
 obtain⟨ρ,hrw⟩:=h.rows;have hρlt:∀{v:Value} {iI:Nat} {es0:U} {s:Nat},Bear E w β st (fun i=>a.tmps.getD i undef) v (.sl false iI es0 (some s))->ρ s<w.heap.size:=fun hi=>by obtain⟨_,_,_,_,_,_,hh,_⟩:=hrw.row _ _ _ _ hi;exact ag hh
 have hβlt:∀{s:Nat} {cs:U},st.b s=some cs->β s<w.heap.size:=fun hs=>by obtain⟨⟨_,_,_,_,_,hh,_⟩,_⟩:=h.boxes _ _ hs;exact ag hh
 unfold Dm at hg;split at hg
 . rename_i d sz by' z hsz hby hz;obtain⟨i,hi,rfl⟩:=tP hsz;have hbi:i.bytes=by':=by simpa[bY,hi] using hby
   obtain⟨zv,hzv,hzs⟩:=tQ hi hz;subst hbi;have hdn:d<n:=hd d rfl;split at hg
   . rename_i kl l kc c;split at hg
     . rename_i hc;obtain⟨hzl,rfl,hc0,hcb,hcm⟩:=hc;cases hg;obtain rfl:=hx.x;obtain rfl:=hy.x;have hrun:=run_make (P:=E.P) w t el i zv hu hi hzv kl kc 0 c A0b hc0 hcb hcm;have hext:=Ext.fresh0 m w (.cells (madeCells zv.cells (c.toNat*i.size)) el) (some 0);have hhp:=World.heap_new w (.cells (madeCells zv.cells (c.toNat*i.size)) el);refine⟨_,_,upd m w.heap.size (some 0),hrun,?_⟩
       have hg:=h.grown hrw (d:=d) (k:=d) (g':=w.heap.size) (sz:=i.size) (es':=[]) (v':= .slice (some ⟨w.heap.size,0,none⟩) 0 c.toNat) hdn hext
        (h.below.alloc h.below.size _) (fun g hg hne=>⟨by rw[Below.heap_alloc w _ g hg],ah _ _ hne⟩)
        ⟨.inl h.below.size,by rw[aj];simp,_,_,_,rfl,hhp,adN _,by rw[size_madeCells]⟩
        (Rd.of_flat (Flat.nil _) hhp (fun j x hj=>by simp at hj) (adN _) (fun fr hf=>by simp) _)
        (fun v0 iI es0 s hi'=>aer (hρlt (Bear.stripped (Bear.stripped (st:=⟨strip d st.t,aG E d st.b⟩) hi').1).1)) (fun s cs hs=>aer (hβlt hs)) (fun e c h'=>by have:=ag h';omega)
       rw[ii,jw] at hg;exact hg
     . cases hg
   . cases hg
 . cases hg
theorem nu{n:Nat}:∀(parts:List (Nat×V)) (k len:Nat) (cells:U),parts.map (·.1)=List.range' k parts.length->k+parts.length=len->cells.length=len*n->(∀p∈parts,p.2.dat=true∧p.2.cells.length=n)->
 mr (fun i=>some (i*n,n)) cells parts=some (cells.take (k*n)++parts.flatMap (fun p=>p.2.cells))
 |[],k,len,cells,_,hk,hc,_=>by simp only[adT,aeq] at hk;subst hk;simp only[mr,afT,aep];rw[<-hc,aei]
 | (i,u)::parts,k,len,cells,hr,hk,hc,hp=>by
   simp only[adL,adm,List.range'_succ,adW] at hr hk;obtain⟨rfl,hr⟩:=hr;obtain⟨hd,hl⟩:=hp (i,u) A0k;simp only at hd hl;have hle:(i+1)*n<=len*n:=ad9 _ A0b;rw[aek,afu] at hle;unfold mr;simp only;rw[adq (by simp[hd,hl];omega)];have hcl:(cells.take (i*n)++u.cells++cells.drop (i*n+n)).length=len*n:=by simp only[adh,adz,aeE,hl,hc];omega
   rw[nu parts (i+1) len _ hr A0b hcl (fun p hpm=>hp p (by simp[hpm]))];congr 1;have hlen1:(cells.take (i*n)++u.cells).length=(i+1)*n:=by rw[aek,afu];simp only[adh,adz,hl,hc];omega
   rw[ael A0b,<-hlen1,aei];simp
theorem ij{n:Nat}:∀(es:U) (cs:List Value),(∀e∈es,e.cells.length=n)->RdL m w cs (es.flatMap V.cells)->Flat m w cs n es
 | [],cs,_,h=>by
   cases cs with
   |nil=>exact Flat.nil n
   |cons c cs=>exact h.elim
 | e::es,cs,he,h=>by
   have hn:=he e A0k;have hlen:=h.length;simp only[aeg,adh,hn] at hlen;have h1:=h.take n;have h2:=h.drop n;rw[aeg,<-hn,List.take_left,hn] at h1;rw[aeg,<-hn,List.drop_left,hn] at h2;have ih:=ij es _ (fun e' h'=>he e' (by simp[h'])) h2;have h0:Flat m w (cs.take n) n [e]:=by
    refine⟨A0F,fun i u hu=>?_⟩;cases i with
    | zero=>
      simp at hu;subst hu;refine⟨hn,fun j d hd=>?_⟩;have hj:=aZ hd;have hlt:j<(cs.take n).length:=A0F
      exact⟨(cs.take n)[j],by rw[agt,adi];exact io hlt,h1.get j _ d (io hlt) hd⟩
    |succ i=>simp at hu
   have:=h0.append ih
   rwa [afq] at this
theorem Ik(cs:List Value):RdL m w cs (List.replicate cs.length .undef):=by
 induction cs with
 |nil=>trivial
 |cons c cs ih=>exact⟨.undef c,ih⟩
variable{parts:List (Nat×V)}
theorem Dt{len:Nat}{vs:List (Nat×Value)}(hm:vs.map (·.1)=parts.map (·.1))
 (hv:∀(i:Nat) (x:Nat×Value) (u:Nat×V),vs[i]?=some x->parts[i]?=some u->Rs m w β x.2 u.2) (ht:P.underlying t=some (.slice el)) (hsz:bo P el=some n) (hz:aB P el=some z)
 (hr:parts.map (·.1)=List.range len) (hmax:len*n<=16777216) (hp:(parts.all fun p=>p.2.dat&&decide (p.2.cells.length=n))=true):
 ∃cs':Array Value,(Instr.buildSlice t len vs.toArray).run P w= .ok (.slice (some ⟨w.heap.size,0,none⟩) len len) (w.alloc (.cells cs' el))∧RdL m w cs'.toList (parts.flatMap fun p=>p.2.cells)∧(parts.flatMap fun p=>p.2.cells).length=len*n:=by
 have hp':∀p∈parts,p.2.dat=true∧p.2.cells.length=n:=fun p hpm=>by have:=adr.1 hp p hpm;simpa using this
 have hlen:parts.length=len:=by simpa using ae6 List.length hr
 obtain⟨zv,hzr,hzd⟩:=ie (w:=w) (m:=m) hz;let init:Array Value:=(Array.range (len*n)).map (fun j=>(if len*n=0 then (#[]:Array Value) else zv.cells)[j%(if len*n=0 then (#[]:Array Value) else zv.cells).size]!);have hinit:init.toList.length=len*n:=by simp[init]
 have hf:=nu (n:=n) parts 0 len (List.replicate (len*n) .undef) (by rw[hr,List.range_eq_range',hlen]) A0b A0k hp';simp only[agt,ad5,aex] at hf;obtain⟨cs',hcs',hd⟩:=ic (m:=m) (w:=w) (β:=β) (cs:=init) (by have:=Ik (m:=m) (w:=w) init.toList;rwa [hinit] at this) hm hv hf;have hrun:(Instr.buildSlice t len vs.toArray).run P w= .ok (.slice (some ⟨w.heap.size,0,none⟩) len len) (w.alloc (.cells cs' el)):=by
  simp only[Instr.buildSlice,Gc,aC ht,Ge,bN hsz];rw[adq A0b];by_cases h0:len*n=0
  . have hi0:init= #[]:=by apply aeU;rw[<-adD,hinit,h0]
    rw[hi0] at hcs';have e0:∀f:Nat->Value,(Array.range 0).map f= #[]:=fun f=>by apply aed.1;rw[agw,agk];rfl
    exact Zo
  . have:(Array.range (len*n)).map (fun j=>zv.cells[j%zv.cells.size]!)=init:=by simp[init,h0]
    exact Zs
 refine⟨cs',hrun,hd,?_⟩;have key:∀l:List (Nat×V),(∀p∈l,p.2.dat=true∧p.2.cells.length=n)->(l.flatMap fun p=>p.2.cells).length=l.length*n:=by
  intro l
  induction l with
  |nil=>intro _;simp
  |cons p l ih=>intro h;rw[aeg,adh,ih (fun q hq=>h q (by simp[hq])),(h p A0k).2,adm,aek,afu];omega
 rw[key parts hp',hlen]
theorem Ar(h:Rel E n pm m0 w0 m β st a w){dst:Option Tmp}(hd:∀k,dst=some k->k<n){t:TypeId}{len:Nat}{parts:List (Nat×V)}{vs:List (Nat×Value)}(hm:vs.map (·.1)=parts.map (·.1))
 (hv:∀(i:Nat) (x:Nat×Value) (u:Nat×V),vs[i]?=some x->parts[i]?=some u->Rs m w β x.2 u.2) {st':St} (hmb:E.okN dst (parts.flatMap fun p=>p.2.cells)=true) (hx:M3 E.P st dst t len parts=some st'):
 ∃v w' m' β',(Instr.buildSlice t len vs.toArray).run E.P w= .ok v w'∧Rel E n pm m0 w0 m' β' st' (a.put dst v) w':=by
 unfold M3 at hx;split at hx
 . rename_i s el ht;split at hx
   . rename_i k z hsz hz;split at hx
     . rename_i hc;obtain⟨hn,hr,hmax,hp⟩:=hc;cases hx;obtain⟨cs',hrun,hrd,hlen⟩:=Dt (β:=β) hm hv ht hsz hz hr hmax hp;exact⟨_,_,_,_,hrun,h.newG (hd s rfl) hn hrd hmb (.inr ⟨k,len,rfl,rfl,hlen⟩)⟩
     . cases hx
   . cases hx
 . cases hx
theorem T8{ks:U}(h:u.kv=some (ks,vs)):(∃s,u= .mp s ks vs)∨u= .fm ks vs:=by
 cases u<;>simp only[V.kv] at h<;>try (cases h;done)
 . cases h;exact .inl ⟨_,rfl⟩
 . cases h;exact .inr rfl
theorem la(z:Array Value)(k n:Nat)(hz:z.size=n)(i j:Nat)(hi:i<k)(hj:j<n):(madeCells z (k*n)).toList[i*n+j]?=z[j]?:=by
 have h1:i*n+j<k*n:=by have:(i+1)*n<=k*n:=ad9 n A0b;rw[aek] at this;omega
 have h2:(i*n+j)%n=j:=by rw[Nat.add_comm,Nat.add_mul_mod_self_right,agx hj]
 simp only[madeCells,agw,ac9,agk];rw[aeD h1];simp only[aea,hz,h2];rw[af0 z j A0b,adG A0b]
theorem rE{z:Array Value}(hz:z.size=n):∀k:Nat,RdL m w (madeCells z (k*n)).toList (List.replicate k (z.toList.map eO)).flatten:=by
 intro k;have hlen:(List.replicate k (z.toList.map eO)).flatten.length=k*n:=by simp[List.length_flatten,hz]
 refine RdL.of_get (by rw[hlen,adD,size_madeCells]) (fun i v u hv hu=>?_);by_cases hn:n=0
 . subst hn;have:=(iO.1 hu).1;rw[hlen] at this;omega
 have hi:i<k*n:=by rw[<-hlen];exact(iO.1 hu).1
 have hq:i/n<k:=Nat.div_lt_of_lt_mul (by rw[afQ];exact hi);have hr:i%n<n:=agC _ A0b;have hd:i/n*n+i%n=i:=by rw[afQ];exact Nat.div_add_mod i n
 have h1:=la z k n hz (i/n) (i%n) hq hr;rw[hd,hv] at h1;have h2:(List.replicate k (z.toList.map eO)).flatten[i]?=(z.toList.map eO)[i%n]?:=by
  have key:∀(k q:Nat),q<k->(List.replicate k (z.toList.map eO)).flatten[q*n+i%n]?=(z.toList.map eO)[i%n]?:=by
   intro k
   induction k with
   |zero=>intro q hq;omega
   | succ k ih=>
     intro q hq;rw[List.replicate_succ,List.flatten_cons];have hl:(z.toList.map eO).length=n:=by simp[hz]
     cases q with
     |zero=>rw[agt,adi,adu A0b]
     |succ q=>rw[adH (by rw[hl,aek];omega),hl,show(q+1)*n+i%n-n=q*n+i%n by rw[aek];omega];exact ih q A0b
  have:=key k (i/n) hq
  rwa [hd] at this
 rw[hu,ac9] at h2;rw[<-adF] at h1;rw[<-h1] at h2;cases h2;exact jT v
theorem vQ(h:Rel E n pm m0 w0 m β st a w){dst:Option Tmp}(hd:∀k,dst=some k->k<n){x y:Value}{A B:V}(hx:Rs m w β x A)(hy:Rs m w β y B){t el:TypeId}{st':St}(hu:E.P.underlying t=some (.slice el))
 (hg:Dn E st dst el A B=some st'):∃v w' m' β',(Instr.makeSlice t x y).run E.P w= .ok v w'∧Rel E n pm m0 w0 m' β' st' (a.put dst v) w':=by
 unfold Dn at hg;split at hg
 . rename_i d sz by' z hsz hby hz;obtain⟨i,hi,rfl⟩:=tP hsz;have hbi:i.bytes=by':=by simpa[bY,hi] using hby
   obtain⟨zv,hzv,hzs⟩:=tQ hi hz;have hze:z=zv.cells.toList.map eO:=by simp only[aB,hi,aeL,hzv,aea,adO] at hz;exact hz.symm
   subst hbi;split at hg
   . rename_i kl l kc c;split at hg
     . rename_i hc;obtain⟨hn,hzl,rfl,hc0,hcb,hcm,hmb⟩:=hc;cases hg;obtain rfl:=hx.x;obtain rfl:=hy.x;have hrun:=run_make (P:=E.P) w t el i zv hu hi hzv kl kc l l hc0 (afv _) hcb hcm;refine⟨_,_,_,_,hrun,h.newG (hd d rfl) hn (by rw[hze];exact rE (by rw[hzs,hzl]) _) hmb (.inr ⟨i.size,l.toNat,rfl,rfl,?_⟩)⟩;rw[List.length_flatten];simp[hzl]
     . cases hg
   . cases hg
 . cases hg
theorem pp:∀l:List UInt8,RdL m w (l.map fun b=>Value.int .u8 b.toNat) (l.map fun b=>V.x (.int .u8 b.toNat))
 |[]=>trivial
 |_::l=>⟨.x _,pp l⟩
variable{vals:Array Value}{ty:TypeId}{fr:Nat×Nat}{cs:U}
variable{op:Op}{e:Operand->V}
theorem vV(hm:jS op=false){s sz len:Nat}(h:aW E op e=some (.row s sz len)):
 ∃t x lo hi el len',∃k:Int,op= .slice t x lo hi none∧E.P.underlying t=some (.slice el)∧e x= .row s sz len'∧dq e 0 lo=some 0∧dq e len' hi=some k∧bo E.P el=some sz∧0<=k∧k<=len'∧len=k.toNat:=by
 cases op with
 |move x=>simp[jS] at hm
 |assign x=>simp[jS] at hm
 |pick c x y=>simp[jS] at hm
 | extract x i=>
   simp only[aW] at h;split at h
   . exact Zp
   . simp at h
 | field t x f=>
   simp only[aW] at h;split at h
   . obtain⟨fd,_,h⟩:=aeN.1 h;exact Zp
   . simp at h
 | binOp op t x y yt=>
   simp only[aW,Ad] at h;exfalso;split at h
   . split at h
     . exact u5
     . exact u5
     . split at h
       . simp only[Ab] at h;exact wE
       . simp at h
   . simp only[Ac,Ib] at h;exact wE
   . exact u5
   . split at h
     . simp at h
     . exact u5
   . exact wE
   . exact u5
   . exact u5
   . exact u5
   . exact wE
   . simp at h
 |unOp op t x=>cases op<;>simp only[aW] at h<;>(try split at h)<;>simp at h
 | slice t x lo hi mx=>
   cases mx with
   |some y=>simp[aW] at h
   | none=>
     simp only[aW] at h;split at h
     . exfalso
       repeat' split at h
       all_goals simp at h
     . exfalso
       repeat' split at h
       all_goals simp at h
     . rename_i el s' sz' len' ht hx;split at h
       . rename_i l k hl hk;split at h
         . rename_i hc;cases h;obtain⟨h1,rfl,h2,h3⟩:=hc;exact⟨t,x,lo,hi,el,len',k,rfl,ht,hx,hl,hk,h1,h2,h3,rfl⟩
         . cases h
       . cases h
     . cases h
 | call c=>
   obtain⟨callee,args,ts⟩:=c;exfalso;cases callee with
   |value f=>simp[aW] at h
   |invoke r s=>simp[aW] at h
   | builtin b=>
     cases b<;>simp only[aW] at h<;>(try (simp at h;done))
     all_goals (repeat' split at h)
     all_goals (first|(simp at h;done)|cases h)
 | _=>
   exfalso;simp only[aW,nq] at h
   repeat' split at h
   all_goals simp at h
theorem As(hm:jS op=false){s:Nat}{ks vs:U}(h:aW E op e=some (.mp s ks vs)):False:=by
 cases op with
 |move x=>simp[jS] at hm
 |assign x=>simp[jS] at hm
 |pick c x y=>simp[jS] at hm
 | extract x i=>
   simp only[aW] at h;split at h
   . exact Zp
   . simp at h
 | field t x f=>
   simp only[aW] at h;split at h
   . obtain⟨fd,_,h⟩:=aeN.1 h;exact Zp
   . simp at h
 | binOp op t x y yt=>
   simp only[aW,Ad] at h;exfalso;split at h
   . split at h
     . exact u5
     . exact u5
     . split at h
       . simp only[Ab] at h;exact wE
       . simp at h
   . simp only[Ac,Ib] at h;exact wE
   . exact u5
   . split at h
     . simp at h
     . exact u5
   . exact wE
   . exact u5
   . exact u5
   . exact u5
   . exact wE
   . simp at h
 |unOp op t x=>cases op<;>simp only[aW] at h<;>(try split at h)<;>simp at h
 | slice t x lo hi mx=>
   cases mx with
   |some y=>simp[aW] at h
   | none=>
     simp only[aW] at h;split at h
     . exfalso
       repeat' split at h
       all_goals simp at h
     . exfalso
       repeat' split at h
       all_goals simp at h
     . exfalso
       repeat' split at h
       all_goals simp at h
     . cases h
 | call c=>
   obtain⟨callee,args,ts⟩:=c;exfalso;cases callee with
   |value f=>simp[aW] at h
   |invoke r s=>simp[aW] at h
   | builtin b=>
     cases b<;>simp only[aW] at h<;>(try (simp at h;done))
     all_goals (repeat' split at h)
     all_goals (first|(simp at h;done)|cases h)
 | _=>
   exfalso;simp only[aW,nq] at h
   repeat' split at h
   all_goals simp at h
theorem E1(h:Rel E n pm m0 w0 m β st a w){o:Oper}(hm:jS o.op=false){s sz len:Nat}(hu:aW E o.op (ev E st)=some (.row s sz len)):
 ∃v,(execOp a.eval o).run E.P w= .ok (.value v) w∧Rs m w β v (.row s sz len)∧∀cs,st.b s=some cs->OwnAt w β v s sz len cs:=by
 obtain⟨t,x,lo,hi,el,len',k,ho,ht,hx,hl,hk,hsz,h0,hke,rfl⟩:=vV hm hu;obtain⟨k,rfl⟩:=aev h0;obtain⟨ix,rfl,hix⟩:=po h hx;obtain⟨cap,hv,hcap⟩:=(hx▸aQ h (.tmp ix):Rs m w β (a.eval (.tmp ix)) (.row s sz len')).row;have hb:=ga (m:=m) (w:=w) (β:=β) (P:=E.P) (isS:=true) (len:=len') (cap:=cap) (l:=0) (fun x=>aQ h x) hl hk A0b A0b;refine⟨.slice (some ⟨β s,0,none⟩) k cap,?_,.ofRow _ _ A0b,fun cs hcs=>?_⟩
 . simp only[execOp,ho,Instr.sliceAt,Gc,aC ht,Ge,Instr.slice,hv,afp,hb,bN hsz,Gd];congr 2;cases cap<;>simp[aP]
 . obtain⟨hf,cap',cur,ty,hv',hh,hs⟩:=h.own ix s sz len' cs hix hcs;have hv':a.eval (.tmp ix)= .slice (some ⟨β s,0,none⟩) len' cap':=hv';rw[hv] at hv';cases hv';exact⟨adJ (ad9 _ A0b) hf,cap,cur,ty,rfl,hh,hs⟩
theorem At{len:Nat}{vs:List (Nat×Value)}(hm:vs.map (·.1)=parts.map (·.1))
 (hv:∀(i:Nat) (x:Nat×Value) (u:Nat×V),vs[i]?=some x->parts[i]?=some u->Rs m w β x.2 u.2) {u:V} (hu:Ic P t len parts=some u):
 ∃v w' m',(Instr.buildSlice t len vs.toArray).run P w= .ok v w'∧Rd m' w' v u∧Below w.heap.size w w'∧∀blk,blk<w.heap.size->m' blk=m blk:=by
 unfold Ic at hu;split at hu
 . rename_i el ht;split at hu
   . rename_i n z hsz hz;split at hu
     . rename_i hc;obtain⟨hr,hmax,hp⟩:=hc;cases hu;have hp':∀p∈parts,p.2.dat=true∧p.2.cells.length=n:=fun p hpm=>by have:=adr.1 hp p hpm;simpa using this
       have hlen:parts.length=len:=by simpa using ae6 List.length hr
       obtain⟨zv,hzr,hzd⟩:=ie (w:=w) (m:=m) hz;let init:Array Value:=(Array.range (len*n)).map (fun j=>(if len*n=0 then (#[]:Array Value) else zv.cells)[j%(if len*n=0 then (#[]:Array Value) else zv.cells).size]!);have hinit:init.toList.length=len*n:=by simp[init]
       have hf:=nu (n:=n) parts 0 len (List.replicate (len*n) .undef) (by rw[hr,List.range_eq_range',hlen]) A0b A0k hp';simp only[agt,ad5,aex] at hf;obtain⟨cs',hcs',hd⟩:=ic (m:=m) (w:=w) (β:=β) (cs:=init) (by have:=Ik (m:=m) (w:=w) init.toList;rwa [hinit] at this) hm hv hf;have hfl:Flat m w cs'.toList n (parts.map (·.2)):=ij _ _ (fun e he=>by obtain⟨p,hpm,rfl⟩:=ads.1 he;exact(hp' p hpm).2) (by rw[List.flatMap_map];exact hd)
       have hrun:(Instr.buildSlice t len vs.toArray).run P w= .ok (.slice (some ⟨w.heap.size,0,none⟩) len len) (w.alloc (.cells cs' el)):=by
        simp only[Instr.buildSlice,Gc,aC ht,Ge,bN hsz];rw[adq A0b];by_cases h0:len*n=0
        . have hi0:init= #[]:=by apply aeU;rw[<-adD,hinit,h0]
          rw[hi0] at hcs';have e0:∀f:Nat->Value,(Array.range 0).map f= #[]:=fun f=>by apply aed.1;rw[agw,agk];rfl
          exact Zo
        . have:(Array.range (len*n)).map (fun j=>zv.cells[j%zv.cells.size]!)=init:=by simp[init,h0]
          exact Zs
       refine⟨_,_,upd m w.heap.size none,hrun,?_,(Below.refl _ _).alloc (adp _) _,fun blk hb=>ah _ _ (aer hb)⟩;have:=Rd.of_flat (hfl.mono (Ext.fresh0 m w (.cells cs' el) none)) (World.heap_new w _) (fun j x hj=>by simpa using hj) (cap:=len) (by simp[hlen]) (fun fr hf=>by rw[aj] at hf;cases hf) none
       rwa [eq,hlen] at this
     . cases hu
   . cases hu
 . cases hu
theorem Rd.not_bx(h:Rd m w v (.bx cs)):False:=A09
variable{l:U}
theorem nv(hn:∀s,u≠ .ptr s 0):bO (u::l)=bO l:=by
 cases u with
 | ptr s off=>cases off with
   |zero=>exact absurd rfl (hn s)
   |succ off=>rfl
 |_=>rfl
theorem Rd.remark(h:Rd m w v (.sl nl sz es (some k)))(d:Nat):Rd m w v (.sl nl sz es (some d)):=by
 cases h with
 |nil sz tok=>exact .nil _ _
 |sl blk off cap _ _ _ c hb hcap hsz hc hm hr=>exact .sl blk off cap sz es _ c hb hcap hsz hc hm hr
theorem nw(hn:∀nl sz es k,u≠ .sl nl sz es (some k)):bB (u::l)=bB l:=by
 cases u with
 | sl nl sz es tok=>cases tok with
   |none=>rfl
   |some k=>exact absurd rfl (hn _ _ _ k)
 |_=>rfl
theorem mA(hn:∀s ks vs,u≠ .mp s ks vs):dI (u::l)=dI l:=by cases u<;>first|rfl|exact absurd rfl (hn _ _ _)
theorem M7(h:Rs m w β v u.bare)(hno:∀s ks vs,u≠ .mp s ks vs)(hd:u.bare.datP=true):u.bare.dat=true:=by
 unfold V.datP at hd;split at hd
 . rename_i cs e;rw[e] at h;rcases h with h|⟨_,_,h,_⟩|⟨_,_,_,_,h,_⟩|⟨_,_,_,h,_⟩
   . exact h.not_bx.elim
   . cases h
   . cases h
   . cases h
 . rename_i nl sz es k e;rw[bA] at e;cases u<;>cases e
 . rename_i e;rw[bA] at e;cases u<;>first|exact absurd rfl (hno _ _ _)|cases e
 . exact hd
theorem Au(h:Rel E n pm m0 w0 m β st a w){ρ:Nat->Nat}(hrw:Rows E m pm w0 w β st (fun i=>a.tmps.getD i undef) ρ)(hK:E.K<=w0.heap.size):∀(l:List Operand),((l.map (ev E st)).map (gG st.b)).all V.datP=true->(bB (l.map (ev E st))).Nodup->
 ∃ gs,ArgsP m w E.K (l.map a.eval) ((l.map (ev E st)).map (gG st.b)) ((bO (l.map (ev E st))).map β) gs ((dI (l.map (ev E st))).map β)∧(∀s∈bO (l.map (ev E st)),∃cs,st.b s=some cs)∧gs.Nodup∧
   ∀g∈gs,∃k∈bB (l.map (ev E st)),∃v sz es,Bear E w β st (fun i=>a.tmps.getD i undef) v (.sl false sz es (some k))∧g=ρ k
 |[],_,_=>⟨[],.nil,by simp[bO],ad3,fun g hg=>by cases hg⟩
 | x :: l, hd,hn=>by
   simp only[adL,aeo,ado] at hd hn⊢;have hx:=aQ h x;have htok:∀sz es k,ev E st x= .sl false sz es (some k)->Bear E w β st (fun i=>a.tmps.getD i undef) (a.eval x) (.sl false sz es (some k)):=fun sz es k e=>by obtain⟨i,rfl,hi⟩:=Ap e;exact .inl ⟨i,hi,rfl⟩
   have hmp:∀s ks vs,ev E st x= .mp s ks vs->∃i,x= .tmp i∧st.t i= .mp s ks vs:=fun s ks vs e=>sr h e
   have h1:=hd.1;have hn1:(bB (l.map (ev E st))).Nodup:=by
    generalize ev E st x=u at hn;cases u with
    | sl nl sz es tok=>cases tok with
      |none=>exact hn
      |some k=>exact(adY.1 hn).2
    |_=>exact hn
   obtain⟨gs,ih,ihd,ihn,ihm⟩:=Au h hrw hK l hd.2 hn1;generalize ev E st x=u at hx h1 hn htok hmp⊢
   have plain:(∀s,u≠ .ptr s 0)->(∀nl sz es k,u≠ .sl nl sz es (some k))->(∀s ks vs,u≠ .mp s ks vs)->gG st.b u=u.bare->∃gs,ArgsP m w E.K (a.eval x::l.map a.eval) (gG st.b u::(l.map (ev E st)).map (gG st.b)) ((bO (u::l.map (ev E st))).map β) gs ((dI (u::l.map (ev E st))).map β)∧(∀s∈bO (u::l.map (ev E st)),∃cs,st.b s=some cs)∧gs.Nodup∧
    ∀g∈gs,∃k∈bB (u::l.map (ev E st)),∃v sz es,Bear E w β st (fun i=>a.tmps.getD i undef) v (.sl false sz es (some k))∧g=ρ k:=fun hn2 hm2 hm3 e1=>by
    rw[nv hn2,nw hm2,mA hm3,e1];rw[e1] at h1;have hdd:=M7 hx.bare hm3 h1;exact⟨gs,.dat (hx.bare.dat hdd) hdd ih,ihd,ihn,ihm⟩
   have keep:∀(k:Nat),(∀g∈gs,∃k∈bB (l.map (ev E st)),∃v sz es,Bear E w β st (fun i=>a.tmps.getD i undef) v (.sl false sz es (some k))∧g=ρ k)->∀g∈gs,∃k'∈k::bB (l.map (ev E st)),∃v sz es,Bear E w β st (fun i=>a.tmps.getD i undef) v (.sl false sz es (some k'))∧g=ρ k':=
    fun k hm g hg=>by obtain⟨k',h2,h3⟩:=hm g hg;exact⟨k',adE _ h2,h3⟩
   cases u with
   | ptr s off=>
     cases off with
     |succ off=>exact Zr
     | zero=>
       simp only[gG] at h1⊢;cases hs:st.b s with
       |none=>rw[hs] at h1;cases h1
       | some cs=>
         obtain⟨hbx,hge⟩:=h.boxes s cs hs;rw[hx.ptr];refine⟨gs,.bx hbx ?_ ih,fun s' hs'=>?_,ihn,ihm⟩
         . rcases hge with hge|hge
           . exact adJ hK hge
           . exact h.par.2.2 _ hge
         . simp only[bO,adA] at hs';rcases hs' with rfl|hs'
           . exact⟨cs,hs⟩
           . exact ihd s' hs'
   | sl nl sz es tok=>
     have hrd:=hx.rd rfl;cases nl with
     | true=>
       rcases hrd.flat with⟨_,hxv,_⟩|⟨hf,_⟩|⟨_,_,_,_,hf,_⟩
       . rw[hxv];cases tok with
         |none=>exact⟨gs,.no ih,ihd,ihn,ihm⟩
         |some k=>exact⟨gs,.no ih,ihd,ihn,keep k ihm⟩
       . cases hf
       . cases hf
     | false=>
       cases tok with
       |none=>exact plain (fun s e=>by cases e) (fun nl sz es k e=>by cases e) (fun s ks vs e=>by cases e) (dV _ _ _ _).symm
       | some k=>
         have hb:=htok sz es k rfl;obtain⟨lo,lim,is⟩:=hrw.row _ _ _ _ hb;have hkn:=adY.1 (show(k::bB (l.map (ev E st))).Nodup from hn);have hrd0:Rd m w (a.eval x) (.sl false sz es (some 0)):=hrd.remark 0;refine⟨ρ k::gs,.row hrd0 ⟨lim,is⟩ ?_ ih,ihd,adY.2 ⟨fun hm2=>?_,ihn⟩,fun g hg=>?_⟩
         . rcases lo with lo|lo
           . exact adJ hK lo
           . exact h.par.2.2 _ (h.mold.2.2 _ lo)
         . obtain⟨k',hk1,v',sz',es',hb',he⟩:=ihm _ hm2;exact hkn.1 (hrw.sep _ _ _ _ _ _ _ _ hb hb' he▸hk1)
         . rcases adA.1 hg with rfl|hg
           . exact⟨k,by simp[bB],_,_,_,hb,rfl⟩
           . exact keep k ihm g hg
   | mp s ks vs=>
     obtain⟨i,rfl,hi⟩:=hmp s ks vs rfl;obtain⟨h2,hge⟩:=h.maps.holds i s ks vs hi;rw[hx.mp];refine⟨gs,.mp h2 ?_ ih,ihd,ihn,ihm⟩;rcases hge with hge|hge
     . exact adJ hK hge
     . exact h.par.2.2 _ hge
   |_=>exact Zr
theorem tR(h:Rel E n pm m0 w0 m β st a w):∀(l:List Operand),∀s∈dI (l.map (ev E st)),∃i ks vs,st.t i= .mp s ks vs
 |[],s,hs=>by cases hs
 | x ::l,s,hs=>by
   have hmp:∀s ks vs,ev E st x= .mp s ks vs->∃i,x= .tmp i∧st.t i= .mp s ks vs:=fun s ks vs e=>sr h e
   simp only[adL] at hs;generalize ev E st x=u at hs hmp;cases u with
   | mp s' ks vs=>
     rcases adA.1 (show s∈s'::dI (l.map (ev E st)) from hs) with rfl|hs
     . obtain⟨i,_,hi⟩:=hmp _ _ _ rfl;exact⟨i,ks,vs,hi⟩
     . exact tR h l s hs
   |_=>exact tR h l s (by rwa [mA (fun _ _ _ e=>by cases e)] at hs)
theorem pq(h:Rel E n pm m0 w0 m β st a w):∀{ss:List Nat},ss.Nodup->(∀s∈ss,∃i ks vs,st.t i= .mp s ks vs)->(ss.map β).Nodup
 |[],_,_=>ad3
 |s::ss,hn,hd=>by rw[adY] at hn;rw[adL,adY];refine⟨fun hm=>?_,pq h hn.2 (fun s' hs'=>hd s' (by simp[hs']))⟩;obtain⟨s',h1,h2⟩:=ads.1 hm;obtain⟨i,_,_,hc⟩:=hd s A0k;obtain⟨j,_,_,hc'⟩:=hd s' (by simp[h1]);exact hn.1 (h.maps.inj _ _ _ _ _ _ _ _ hc' hc h2▸h1)
theorem E2{ks:List Nat}{t:Nat->V}{i:Nat}{k v:U}:stripL ks t i= .mp s k v↔t i= .mp s k v:=by
 induction ks with
 |nil=>exact agp
 | cons q ks ih=>
   rw[<-ih];show cK q (stripL ks t i)=_↔_;rw[bj];generalize stripL ks t i=u;cases u with
   |sl nl sz es tok=>cases tok<;>simp[js]
   |_=>exact agp
theorem pu:∀{ms:List Nat} {rest:List U} {t t':Nat->V},si t ms rest=some t'->∀i,(t' i=t i∧∀s ks vs,t i= .mp s ks vs->s∉ms)∨
 ∃(j s:Nat) (ks vs:U),ms[j]?=some s∧(∃k,rest[j]?=some [.mp k ks vs])∧(∃ks0 vs0,t i= .mp s ks0 vs0)∧t' i= .mp s ks vs
 |[],[],t,t',h,i=>by cases h;exact .inl ⟨rfl,fun _ _ _ _=>by simp⟩
 |[],_::_,t,t',h,i=>by cases h
 |s::ms,[],t,t',h,i=>by cases h
 | s ::ms,c::rest,t,t',h,i=>by
   have hc:∃k ks vs,c=[.mp k ks vs]:=by
    unfold si at h;split at h
    . rename_i e _;cases e
    . rename_i k ks vs cs _ e;exact⟨k,ks,vs,(aeC e).1⟩
    . cases h
   obtain⟨k,ks,vs,rfl⟩:=hc;have h:si (rD s ks vs t) ms rest=some t':=h;rcases pu h i with⟨h1,h2⟩|⟨j,s',ks',vs',h1,h2,⟨k0,v0,h3⟩,h4⟩
   . by_cases hs:∃ks0 vs0,t i= .mp s ks0 vs0
     . obtain⟨ks0,vs0,h5⟩:=hs;refine .inr ⟨0,s,ks,vs,rfl,⟨k,rfl⟩,⟨ks0,vs0,h5⟩,?_⟩;rw[h1];show dW s ks vs (t i)=_;rw[h5,dc];exact adl rfl
     . rcases fE s ks vs (t i) with e|⟨e,_⟩
       . have e:rD s ks vs t i=t i:=e;rw[e] at h1 h2;refine .inl ⟨h1,fun s' ks' vs' h5 hm=>?_⟩;rcases adA.1 hm with rfl|hm
         . exact hs ⟨_,_,h5⟩
         . exact h2 _ _ _ h5 hm
       . exact absurd e hs
   . refine .inr ⟨j+1,s',ks',vs',by simpa using h1,by simpa using h2,?_,h4⟩;have h3:dW s ks vs (t i)=_:=h3;rcases fE s ks vs (t i) with e|⟨⟨k1,v1,e1⟩,e⟩
     . exact⟨_,_,e▸h3⟩
     . rw[e] at h3;cases h3;exact⟨_,_,e1⟩
theorem su(h:Rel E n pm m0 w0 m β st a w):∀{ss:List Nat},ss.Nodup->(∀s∈ss,∃cs,st.b s=some cs)->(ss.map β).Nodup
 |[],_,_=>ad3
 |s::ss,hn,hd=>by rw[adY] at hn;rw[adL,adY];refine⟨fun hm=>?_,su h hn.2 (fun s' hs'=>hd s' (by simp[hs']))⟩;obtain⟨s',h1,h2⟩:=ads.1 hm;obtain⟨c,hc⟩:=hd s A0k;obtain⟨c',hc'⟩:=hd s' (by simp[h1]);exact hn.1 (h.inj _ _ _ _ hc' hc h2▸h1)
theorem E3(h:Rel E n pm m0 w0 m β st a w){s0 off:Nat}{cs:U}(hcs:st.b s0=some cs)(hM:E.MB s0=true){p:Value}(hp:p= .pointer (some ⟨β s0,off,none⟩)){t:TypeId}{v:Value}{sz:Nat}{es:U}{s:Nat}
 (hu:(match E.MB s0,aR E.P t with
  |true,some true=>dp E.P t (cs.map V.pc) off
  |_,_=>dp E.P t cs off)=some (.sl false sz es (some s))) (hr:(Instr.loadAt t p).run E.P w= .ok v w):Bear E w β st (fun i=>a.tmps.getD i undef) v (.sl false sz es (some s)):=by
 rw[hM] at hu;unfold dp at hu;cases ha:aR E.P t with
 |none=>simp[ha] at hu
 | some b=>
   cases hs:bo E.P t with
   |none=>cases b<;>simp[ha,hs] at hu
   | some k=>
     cases b with
     |true=>simp only[ha,hs] at hu;split at hu<;>cases hu
     | false=>
       simp only[ha,hs] at hu;refine .inr ⟨s0,cs,off,hM,hcs,hu,?_⟩;obtain⟨⟨_,vals,ty,xs,rest,hh,hvs,hrl⟩,_⟩:=h.boxes _ _ hcs;have hlt:=aZ hu;rw[<-hrl.length] at hlt;have hcell:w.cell? ⟨β s0,off,none⟩=some xs[off]:=by rw[Box.cell hh,<-adF,hvs,adu hlt];exact io hlt
       subst hp;simp only[Instr.loadAt,Instr.sureAddr,loadVar,Gc,Gd,Ge,gE ha,adI,adw,run_load,hcell] at hr;cases hr;exact hcell
theorem Rel.strippedL(h:Rel E n pm m0 w0 m β st a w){ρ:Nat->Nat}(hrw:Rows E m pm w0 w β st (fun i=>a.tmps.getD i undef) ρ):∀ks:List Nat,
 Rel E n pm m0 w0 m β ⟨stripL ks st.t,eI E ks st.b⟩ a w∧Rows E m pm w0 w β ⟨stripL ks st.t,eI E ks st.b⟩ (fun i=>a.tmps.getD i undef) ρ∧
  (∀v sz es s,Bear E w β ⟨stripL ks st.t,eI E ks st.b⟩ (fun i=>a.tmps.getD i undef) v (.sl false sz es (some s))->Bear E w β st (fun i=>a.tmps.getD i undef) v (.sl false sz es (some s))∧s∉ks)∧
  ∀s,(∃cs,eI E ks st.b s=some cs)↔∃cs,st.b s=some cs
 |[]=>⟨h,hrw,fun v sz es s hi=>⟨hi,A0k⟩,fun s=>agp⟩
 | k ::ks=>by
   obtain⟨h1,h2,h3,h4⟩:=h.strippedL hrw ks;have hB:∀v sz es s,Bear E w β ⟨strip k (stripL ks st.t),aG E k (eI E ks st.b)⟩ (fun i=>a.tmps.getD i undef) v (.sl false sz es (some s))->Bear E w β ⟨stripL ks st.t,eI E ks st.b⟩ (fun i=>a.tmps.getD i undef) v (.sl false sz es (some s))∧s≠k:=fun v sz es s hi=>hi.stripped (st:=⟨stripL ks st.t,eI E ks st.b⟩)
   refine⟨h1.stripped k,h2.to (fun v sz es s hi=>(hB v sz es s hi).1) (fun _ _ _ _ _=>⟨rfl,rfl⟩) (fun v sz es s k' c hi hk=>?_),fun v sz es s hi=>?_,fun s=>?_⟩
   . obtain⟨_,hc,_⟩:=ep hk;exact h2.box _ _ _ _ _ _ hi hc
   . obtain⟨q1,q2⟩:=hB v sz es s hi;obtain⟨q3,q4⟩:=h3 v sz es s q1;exact⟨q3,by simp[q2,q4]⟩
   . rw[<-h4 s];constructor
     . rintro⟨cs,hs⟩;obtain⟨c,hc,_⟩:=ep hs;exact⟨c,hc⟩
     . rintro⟨cs,hs⟩;obtain⟨c,hc,_⟩:=EZ (E:=E) (k:=k) hs;exact⟨c,hc⟩
theorem EnvX.res(_hE:EnvX E pm){d:Option Tmp}(hd:∀k,d=some k->k<n){r:V}{v:Value}(hv:Rd m w v r)(h:Rel E n pm m0 w0 m β st a w){ρ:Nat->Nat}(hrw:Rows E m pm w0 w β st (fun i=>a.tmps.getD i undef) ρ)
 (ho:∀sz es k,r= .sl false sz es (some k)->∃g,RowIs m w v g sz es.length∧(w0.heap.size<=g∨g∈pm.Y)∧(∀v sz es s,Bear E w β st (fun i=>a.tmps.getD i undef) v (.sl false sz es (some s))->ρ s≠g)∧∀s cs,st.b s=some cs->β s≠g)
 {K:Act->World->Prop} (hK:∀a' w' m' β',Rel E n pm m0 w0 m' β' (kW E st d r) a' w'->K a' w'):K (a.put d v) w:=by
 have plain:kW E st d r=st.put d r.bare->K (a.put d v) w:=fun e=>by refine hK _ _ m β ?_;rw[e];exact h.put hd (.of hv.bare) (fD _) (fun s sz len cs e=>by have e:r.bare=_:=e;exact(e▸hv.bare).not_row.elim) (fun s ks vs e=>by have e:r.bare=_:=e;exact(e▸hv.bare).not_mp.elim)
 cases d with
 |none=>exact plain (by unfold kW;rfl)
 | some d =>
   cases r with
   | sl nl sz es tok=>
     cases tok with
     |none=>exact plain rfl
     | some k=>
       refine hK _ _ m β ?_;show Rel E n pm m0 w0 m β ⟨upd (strip d st.t) d (.sl nl sz es (some d)),aG E d st.b⟩ (a.put (some d) v) w;have hrd:Rd m w v (.sl nl sz es (some d)):=hv.remark d;cases nl with
       |true=>exact(h.stripped d).put (d:=some d) hd (.of hrd) (fun sz es s e=>by cases e) (fun s sz len cs e=>by cases e) (fun s ks vs e=>by cases e)
       | false=>
         obtain⟨g,⟨hl,his⟩,hlo,hf,hbx⟩:=ho sz es k rfl
         have hg:=h.grown hrw (d:=d) (k:=d) (g':=g) (sz:=sz) (es':=es) (hd d rfl) (Ext.refl m w) h.below (fun _ _ _=>⟨rfl,rfl⟩) ⟨hlo,hl,his⟩ hrd
          (fun v0 iI es0 s hi'=>hf _ _ _ _ (Bear.stripped (Bear.stripped (st:=⟨strip d st.t,aG E d st.b⟩) hi').1).1) hbx (fun e c h'=>by obtain⟨_,_,_,_,hh,_⟩:=his;rw[hh] at h';cases h')
         rw[ii,jw] at hg;exact hg
   |_=>exact plain rfl
theorem Av(hE:EnvX E pm)(h:Rel E n pm m0 w0 m β st a w){dst:Option Tmp}(hd:∀k,dst=some k->k<n){t:TypeId}{len:Nat}{parts:List (Nat×V)}{vs:List (Nat×Value)}(hm:vs.map (·.1)=parts.map (·.1))
 (hv:∀(i:Nat) (x:Nat×Value) (u:Nat×V),vs[i]?=some x->parts[i]?=some u->Rs m w β x.2 u.2) {st':St} (hx:M4 E st dst t len parts=some st') {K:Act->World->Prop} (hK:∀a' w' m' β',Rel E n pm m0 w0 m' β' st' a' w'->K a' w'):
 ∃v w',(Instr.buildSlice t len vs.toArray).run E.P w= .ok v w'∧K (a.put dst v) w':=by
 unfold M4 at hx;split at hx
 case h_2=>cases hx
 rename_i d el ht;split at hx
 case h_2=>cases hx
 rename_i k z hsz hz;split at hx
 case isFalse=>cases hx
 rename_i hc;cases hx;obtain⟨hr,hmax,hp⟩:=hc;obtain⟨cs',hrun,hrd,hlen⟩:=Dt (m:=m) (w:=w) (β:=β) hm hv ht hsz hz hr hmax hp;obtain⟨ρ,hrw⟩:=h.rows;have hul:parts.length=len:=by have:=ae6 List.length hr;simpa using this
 have hp':∀p∈parts,p.2.dat=true∧p.2.cells.length=k:=fun p hpm=>by have:=adr.1 hp p hpm;simpa using this
 refine⟨_,_,hrun,?_⟩;have hb:Below w.heap.size w (w.alloc (.cells cs' el)):=(Below.refl _ w).alloc (adp _) _;have hmm:∀blk,blk<w.heap.size->(upd m w.heap.size (some (len*k))) blk=m blk:=fun blk hb=>ah _ _ (aer hb)
 have hc:=h.call hb hmm;have hnew:(w.alloc (.cells cs' el)).heap[w.heap.size]?=some (.cells cs' el (0,0)):=World.heap_new w _;have hbox:∀s cs,st.b s=some cs->β s<w.heap.size:=fun s cs hs=>by obtain⟨⟨_,_,_,_,_,hh,_⟩,_⟩:=h.boxes s cs hs;exact ag hh
 have hB:∀v sz es s,Bear E (w.alloc (.cells cs' el)) β st (fun i=>a.tmps.getD i undef) v (.sl false sz es (some s))->Bear E w β st (fun i=>a.tmps.getD i undef) v (.sl false sz es (some s)):=fun v sz es s hi=>
  hi.from (fun i hi=> .inl ⟨i,hi,rfl⟩) (fun k cs j h1 h2 h3 h4=>by rw[bc (hb.block _ (hbox k cs h2))] at h4;exact .inr ⟨k,cs,j,h1,h2,h3,h4⟩)
 have hrl:∀v sz es s,Bear E w β st (fun i=>a.tmps.getD i undef) v (.sl false sz es (some s))->ρ s<w.heap.size:=fun v sz es s hi=>by obtain⟨_,_,_,_,_,_,hh,_⟩:=hrw.row _ _ _ _ hi;exact ag hh
 have hrw':=hrw.to (m':=upd m w.heap.size (some (len*k))) hB (fun v sz es s hi=>⟨hb.block _ (hrl _ _ _ _ hi),hmm _ (hrl _ _ _ _ hi)⟩) (fun v sz es s k cs hi hk=>hrw.box _ _ _ _ _ _ hi hk);have hfl:Flat m w cs'.toList k (parts.map (·.2)):=ij _ _ (fun e he=>by obtain⟨p,hpm,rfl⟩:=ads.1 he;exact(hp' p hpm).2) (by rw[List.flatMap_map];exact hrd)
 have hv':Rd (upd m w.heap.size (some (len*k))) (w.alloc (.cells cs' el)) (.slice (some ⟨w.heap.size,0,none⟩) len len) (.sl false k (parts.map (·.2)) (some 0)):=by
  have:=Rd.of_flat (hfl.mono (Ext.fresh0 m w (.cells cs' el) (some (len*k)))) hnew (fun j x hj=>by simpa using hj) (cap:=len) (by rw[eq,hul];exact adp _) (fun fr hf=>by rw[aj] at hf;cases hf;rw[eq,hul];exact adp _) (some 0)
  rwa [eq,hul] at this
 have hcs:cs'.size=len*k:=by have h1:=hrd.length;rw[hlen] at h1;simpa using h1
 refine EnvX.res hE (d:=some d) hd hv' hc hrw' (fun sz es j e=>?_) hK;cases e;refine⟨w.heap.size,⟨by rw[eq,hul];exact aj _ _ _,len,cs',el,by rw[eq,hul],hnew,by rw[eq,hul];exact adp _,hcs⟩,.inl h.below.size,fun v sz es s hi e=>?_,fun s cs hs e=>?_⟩
 . have:=hrl _ _ _ _ (hB _ _ _ _ hi);omega
 . have:=hbox s cs hs;omega
theorem vW(h:fg P t u=true):u.nm=none:=by simp only[fg,ado] at h;cases u<;>first|rfl|(simp[plainK] at h)
theorem Il{m k:V}{ok:Bool}(h:ia P t m k ok=some u):k.nm=none:=by
 unfold ia at h;split at h
 . split at h
   . rename_i hk;exact vW hk
   . cases h
 . cases h
theorem oh(hE:EnvX E pm)(h:Rel E n pm m0 w0 m β st a w){dst:Option Tmp}(hd:∀k,dst=some k->k<n){ρ:Nat->Nat}(hrw:Rows E m pm w0 w β st (fun i=>a.tmps.getD i undef) ρ){F:U->Option (V×List U)}{us:U}{st':St}(hx:callP E st dst F us=some st'){gs:List Nat}
 (hdom:∀s∈bO us,∃cs,st.b s=some cs) (hgn:gs.Nodup) (hgm:∀g∈gs,∃k∈bB us,∃v sz es,Bear E w β st (fun i=>a.tmps.getD i undef) v (.sl false sz es (some k))∧g=ρ k) (hdomM:∀s∈dI us,∃i ks vs,st.t i= .mp s ks vs)
 {K :Act->World->Prop} (hK:∀a' w' m' β',Rel E n pm m0 w0 m' β' st' a' w'->K a' w'):∃r outs,F (us.map (gG st.b))=some (r,outs)∧((bO us).map β++gs).Nodup∧((dI us).map β).Nodup∧
  ∀ v w' m',Rd m' w' v r->Bel ((bO us).map β++(gs++(dI us).map β)) w w'->Ext m w m' w'->(∀blk,blk<w.heap.size->blk∉gs->m' blk=m blk)->(∃o1 o2,outs=o1++o2∧OutsP m' w' ((bO us).map β) o1∧OutsM m' w' ((dI us).map β) o2)->
    (∀sz es k,r= .sl false sz es (some k)->∃g,RowIs m' w' v g sz es.length∧(w.heap.size<=g∨g∈gs))->K (a.put dst v) w':=by
 unfold callP at hx;split at hx
 . rename_i hcond;split at hx
   . rename_i r outs hr;split at hx
     . rename_i b' rest hnp hput;split at hx
       case h_2=>cases hx
       rename_i t' hmbS hputM;cases hx;obtain⟨hd1,hd2,hd3,hd5⟩:=hcond;have hbg:∀s cs,st.b s=some cs->β s∉gs:=fun s cs hs hm2=>by obtain⟨k,_,v,sz,es,hb,he⟩:=hgm _ hm2;exact hrw.box _ _ _ _ _ _ hb hs he
       have hnd:((bO us).map β++gs).Nodup:=aeH.2 ⟨su h hd2 hdom,hgn,fun x hx1 y hy e=>by subst e;obtain⟨s,h1,rfl⟩:=ads.1 hx1;obtain⟨cs,hs⟩:=hdom s h1;exact hbg s cs hs hy⟩
       refine⟨r,outs,hr,hnd,pq h hd5 hdomM,?_⟩;rintro v w' m' hv hb hext hm ⟨o1,o2,ho12,ho,hoM⟩ hown;obtain⟨hS,hSr,hSb,hSc⟩:=h.strippedL hrw (bB us);have hgY:∀g∈gs,w0.heap.size<=g∨g∈pm.Y:=fun g hg=>by obtain⟨k,_,v,sz,es,hb,rfl⟩:=hgm _ hg;exact(hrw.row _ _ _ _ hb).lo
       have hfree:∀v sz es s,Bear E w β ⟨stripL (bB us) st.t,eI E (bB us) st.b⟩ (fun i=>a.tmps.getD i undef) v (.sl false sz es (some s))->ρ s∉gs:=fun v sz es s hi hm2=>by obtain⟨k,hk1,v',sz',es',hb',he⟩:=hgm _ hm2;obtain⟨h1,h2⟩:=hSb _ _ _ _ hi;exact h2 (hrw.sep _ _ _ _ _ _ _ _ h1 hb' he▸hk1)
       obtain⟨hU,hUb⟩:=hS.unmap (dI us);have hUr:=hSr.to hUb (fun v sz es s hi=>⟨rfl,rfl⟩) (fun v sz es s k c hi hk=>hSr.box _ _ _ _ _ _ hi hk);have ho1l:=ho.len;rw[eq] at ho1l;obtain⟨o1',ho1e,ho1n⟩:=sj hput;obtain⟨rfl,rfl⟩:=List.append_inj (ho12.symm.trans ho1e) (ho1l.trans ho1n.symm);have hmpS:∀s∈dI us,∃i ks vs,stripL (bB us) st.t i= .mp s ks vs:=fun s hs=>by obtain⟨i,ks,vs,hi⟩:=hdomM s hs;exact⟨i,ks,vs,E2.2 hi⟩
       obtain⟨hC0,hCr0,hCb0,hCs⟩:=hU.callP hUr (fun s hs=>by obtain⟨cs,h1⟩:=hdom s hs;exact(hSc s).2 ⟨cs,h1⟩) hb hext hm ho (fun i c hc hi=>by rw[ho12,adu A0b] at hc;exact hc) hput (Dq hmbS) (fun v sz es s hi=>hfree _ _ _ _ (hUb _ _ _ _ hi)) (fun s cs hs=>by obtain⟨c0,h1⟩:=(hSc s).1 ⟨cs,hs⟩;exact hbg s c0 h1) hgY (fun g hg=>by
        obtain⟨k,_,v,sz,es,hb,rfl⟩:=hgm _ hg;obtain⟨_,_,_,_,_,_,hh,_⟩:=hrw.row _ _ _ _ hb;exact⟨_,_,_,hh⟩) (fun g hg=>by
        obtain⟨s,h1,rfl⟩:=ads.1 hg;obtain⟨i,ks,vs,hi⟩:=hdomM s h1;exact(h.maps.holds i s ks vs hi).2) (fun g hg=>by
        obtain⟨s,h1,rfl⟩:=ads.1 hg;obtain⟨i,ks,vs,hi⟩:=hdomM s h1;obtain⟨⟨e,c,hh,_⟩,_⟩:=h.maps.holds i s ks vs hi;exact⟨e,c,hh⟩) (fun i s ks vs hi hm2=>by
        have hi:ju _ (stripL (bB us) st.t i)=_:=hi;obtain⟨s',h1,h2⟩:=ads.1 hm2;obtain⟨i',ks',vs',hi'⟩:=hmpS s' h1;rcases kB (dI us) (stripL (bB us) st.t i) with⟨e,hn2⟩|⟨e,_⟩
        . rw[e] at hi;exact hn2 _ _ _ hi (hS.maps.inj _ _ _ _ _ _ _ _ hi' hi h2▸h1)
        . rw[e] at hi;cases hi)
       have hkr:∀i s ks vs,iH (bO us) (stripL (bB us) st.t) i= .mp s ks vs->stripL (bB us) st.t i= .mp s ks vs:=fun i s ks vs hi=>by
        have hi:cC _ _=_:=hi;rcases gq (bO us) (stripL (bB us) st.t i) with⟨e,_⟩|e
        . rw[<-e];exact hi
        . rw[e] at hi;cases hi
       have hnm:∀i s ks vs,t' i= .mp s ks vs->∃ks0 vs0,stripL (bB us) st.t i= .mp s ks0 vs0:=fun i s ks vs hi=>by
        rcases pu hputM i with⟨h1,_⟩|⟨j,s',ks',vs',_,_,⟨k0,v0,h3⟩,h4⟩
        . exact⟨_,_,hkr _ _ _ _ (h1▸hi)⟩
        . rw[h4] at hi;cases hi;exact⟨_,_,hkr _ _ _ _ h3⟩
       obtain⟨hC,hCr,hCb1⟩:=hC0.remap hCr0 (t2:=t') (fun i=>by
        rcases pu hputM i with⟨h1,h2⟩|⟨j,s,ks,vs,h1,⟨k,h2⟩,⟨k0,v0,h3⟩,h4⟩
        . left;rw[h1];show cC _ _=cC _ (ju _ _);rcases kB (dI us) (stripL (bB us) st.t i) with⟨e,_⟩|⟨_,s,ks,vs,e,hs⟩
          . rw[e]
          . refine absurd hs (h2 s ks vs ?_);show cC _ _=_;rw[e,cP];rfl
        . right;have h5:=hkr _ _ _ _ h3;refine⟨s,ks,vs,h4,?_,hoM.get j (β s) k ks vs (by rw[ac9,h1];rfl) h2,(hS.maps.holds _ _ _ _ h5).2⟩;have:=hS.tmps i;have e5:(stripL (bB us) st.t) i= .mp s k0 v0:=h5;exact(show Rs m w β (a.tmps.getD i undef) (.mp s k0 v0) from e5▸this).mp) (fun i j s s' ks vs ks' vs' hi hj e=>by
        obtain⟨_,_,hi⟩:=hnm _ _ _ _ hi;obtain⟨_,_,hj⟩:=hnm _ _ _ _ hj;exact hS.maps.inj _ _ _ _ _ _ _ _ hi hj e)
       have hCb:∀v sz es s,Bear E w' β ⟨t',b'⟩ (fun i=>a.tmps.getD i undef) v (.sl false sz es (some s))->Bear E w β ⟨stripL (bB us) st.t,eI E (bB us) st.b⟩ (fun i=>a.tmps.getD i undef) v (.sl false sz es (some s)):=fun v sz es s hi=>hUb _ _ _ _ (hCb0 _ _ _ _ (hCb1 _ _ _ _ hi))
       refine hE.res hd hv hC hCr (fun sz es k er=>?_) hK;obtain⟨g,hg1,hg2⟩:=hown sz es k er;have hlt:∀s cs,st.b s=some cs->β s<w.heap.size:=fun s cs hs=>by obtain⟨⟨_,_,_,_,_,hh,_⟩,_⟩:=h.boxes s cs hs;exact ag hh
       refine⟨g,hg1,?_,fun v0 iI es0 s hi e=>?_,fun s cs hs e=>?_⟩
       . rcases hg2 with hg2|hg2
         . exact .inl (adJ h.below.size hg2)
         . exact hgY g hg2
       . have hi:=hCb _ _ _ _ hi;rcases hg2 with hg2|hg2
         . obtain⟨_,_,_,_,_,_,hh,_⟩:=hSr.row _ _ _ _ hi;have:=ag hh;omega
         . exact hfree _ _ _ _ hi (e▸hg2)
       . obtain⟨c0,h1⟩:=hCs s cs hs;obtain⟨c1,h2⟩:=(hSc s).1 ⟨c0,h1⟩;rcases hg2 with hg2|hg2
         . have:=hlt s c1 h2;omega
         . exact hbg s c1 h2 (e▸hg2)
     . cases hx
   . cases hx
 . cases hx
theorem ArgsP.snoc{b K:Nat}(hb:BoxAt m w b cs)(hK:K<=b):∀{vs:List Value} {us:U} {bs gs hs:List Nat},ArgsP m w K vs us bs gs hs->ArgsP m w K (vs++[.p b]) (us++[.bx cs]) (bs++[b]) gs hs:=by
 intro vs us bs gs hs h
 induction h with
 |nil=>exact .bx hb hK .nil
 |bx hb' hK' _ ih=>exact .bx hb' hK' ih
 |row hr hi hK' _ ih=>exact .row hr hi hK' ih
 |no _ ih=>exact .no ih
 |mp hm hK' _ ih=>exact .mp hm hK' ih
 |dat hr hd' _ ih=>exact .dat hr hd' ih
theorem jU(s:Nat):∀l:U,bO (l++[V.ptr s 0])=bO l++[s]
 |[]=>rfl
 | u::l=>by
   have ih:=jU s l;rw[aee];by_cases hu:∃s',u= .ptr s' 0
   . obtain⟨s',rfl⟩:=hu;show s'::bO (l++[V.ptr s 0])=s'::bO l++[s];rw[ih];rfl
   . rw[nv (fun s' e=>hu ⟨s',e⟩),nv (fun s' e=>hu ⟨s',e⟩),ih]
theorem jV(s:Nat):∀l:U,bB (l++[V.ptr s 0])=bB l
 |[]=>rfl
 | u::l=>by
   have ih:=jV s l;rw[aee];by_cases hu:∃nl sz es k,u= .sl nl sz es (some k)
   . obtain⟨nl,sz,es,k,rfl⟩:=hu;show k::bB (l++[V.ptr s 0])=k::bB l;rw[ih]
   . rw[nw (fun nl sz es k e=>hu ⟨nl,sz,es,k,e⟩),nw (fun nl sz es k e=>hu ⟨nl,sz,es,k,e⟩),ih]
theorem jx(s:Nat):∀l:U,dI (l++[V.ptr s 0])=dI l
 |[]=>rfl
 | u::l=>by
   have ih:=jx s l;rw[aee];by_cases hu:∃s' ks vs,u= .mp s' ks vs
   . obtain⟨s',ks,vs,rfl⟩:=hu;show s'::dI (l++[V.ptr s 0])=s'::dI l;rw[ih]
   . rw[mA (fun s' ks vs e=>hu ⟨s',ks,vs,e⟩),mA (fun s' ks vs e=>hu ⟨s',ks,vs,e⟩),ih]
theorem M8{F:U->Option (V×List U)}(h:jP E u=some F):∃f lb,u= .x (.func (.func f) #[] ⟨lb⟩)∧E.X f lb=some F:=by
 unfold jP at h;split at h
 . exact⟨_,_,rfl,h⟩
 . cases h
theorem Aw(hE:EnvX E pm)(h:Rel E n pm m0 w0 m β st a w){o:Oper}{c:Operand}{args:Array Operand}{ts:Array TypeId}(ho:o.op= .call {callee:= .value c,args:=args,argTypes:=ts}){F:U->Option (V×List U)}(hF:jP E (ev E st c)=some F){st':St}(hx:callP E st o.dst F (args.toList.map (ev E st)++[V.ptr E.xk 0])=some st')(hd:∀k,o.dst=some k->k<n)
 {K:Act->World->Prop} {Q:Exit->Act->World->Prop} (hK:∀a' w' m' β',Rel E n pm m0 w0 m' β' st' a' w'->K a' w'):o.wp E.P a w K Q:=by
 obtain⟨f,lb,hu,hX⟩:=M8 hF;obtain⟨hxk,hfun⟩:=hE.fx f lb F hX;have hc:a.eval c= .func (.func f) #[] ⟨lb⟩:=(hu▸aQ h c:Rs m w β (a.eval c) (.x (.func (.func f) #[] ⟨lb⟩))).x;obtain⟨ρ,hrw⟩:=h.rows;have hx0:=hx;unfold callP at hx0;split at hx0
 case isFalse=>cases hx0
 rename_i hcond;obtain⟨hd1,hd2,hd3,_⟩:=hcond;rw[adK,List.all_append,ado] at hd1;rw[jV] at hd3;obtain⟨cs,hcs⟩:∃cs,st.b E.xk=some cs:=by
  have:=hd1.2;simp only[adL,afr,aeo,agu,afd,gG] at this;cases hb:st.b E.xk with
  |none=>rw[hb] at this;cases this
  |some cs=>exact⟨cs,rfl⟩
 obtain⟨hbx,hge⟩:=h.boxes _ _ hcs;have hβ:β E.xk=pm.b E.xk:=h.par.2.1 _ hxk;obtain⟨gs,hargs,hdom,hgn,hgm⟩:=Au h hrw (hE.high _ h.j) args.toList hd1.1 hd3;have hKb:E.K<=β E.xk:=by
  rcases hge with hge|hge
  . exact adJ (hE.high _ h.j) hge
  . exact h.par.2.2 _ hge
 have hargs':=hargs.snoc hbx hKb;have hus:(args.toList.map (ev E st)++[V.ptr E.xk 0]).map (gG st.b)=(args.toList.map (ev E st)).map (gG st.b)++[.bx cs]:=by
  rw[adK,adL,afr];have:gG st.b (V.ptr E.xk 0)= .bx cs:=by show(match st.b E.xk with|some cs=>V.bx cs|none=> .undef)=_;rw[hcs]
  rw[this]
 have hss:(bO (args.toList.map (ev E st)++[V.ptr E.xk 0])).map β=(bO (args.toList.map (ev E st))).map β++[β E.xk]:=by rw[jU,adK];rfl
 obtain⟨r,outs,hr,hnd,hhn,hfin⟩:=oh (gs:=gs) hE h hd hrw hx (fun s hs=>by
  rw[jU] at hs;rcases adv.1 hs with hs|hs
  . exact hdom s hs
  . exact⟨cs,by rw[adj.1 hs];exact hcs⟩) hgn (fun g hg=>by rw[jV];exact hgm g hg) (fun s hs=>by rw[jx] at hs;exact tR h args.toList s hs) hK
 rw[hus] at hr;rw[hss,jx] at hfin;rw[hss] at hnd;rw[jx] at hhn;have:=hfun m w (args.map a.eval) _ _ gs _ r outs hr (by rw[<-hβ];simpa using hargs') hnd hhn (hE.keep _ _ _ h.par.2.2 h.j h.below) h.glob;have hrun:(execOp a.eval o).run E.P w=(callFunc f (args.map a.eval++⟨lb⟩)).run E.P w:=by simp only[execOp,ho,resolve,Gc,hc,Deferred.ofValue,Gd,Ge,invoke];simp
 unfold Oper.wp;rw[hrun];rcases this with⟨he,hcalls⟩|⟨v,w',he,m',hv,hb,hext,hm,ho',hown⟩
 . rw[he];refine hcalls.mono ?_;rintro e w' ⟨v,rfl,m',hv,hb,hext,hm,ho',hown⟩;exact hfin v w' m' hv hb hext hm ho' hown
 . rw[he];exact hfin v w' m' hv hb hext hm ho' hown
theorem Ext.freeze(g:Nat)(m:Lim)(w:World):Ext m w (upd m g none) w:=by
 refine⟨adp _,fun _ _ _ _ _ h=>h,fun blk _ fr' hf=>?_,fun _ _ _ _ h=>h⟩;by_cases e:blk=g
 . rw[e,aj] at hf;cases hf
 . rw[ah _ _ e] at hf;exact⟨fr',hf,adp _⟩
theorem BoxAt.ip(h:BoxAt m w g cs):Rd (upd m g none) w (.p g) (.ip (cs.map V.bare)):=by
 obtain⟨_,vals,ty,xs,rest,hh,hx,hr⟩:=h;have hl:=hr.length;refine .ip g 0 (cs.map V.bare) (fun k=>(xs[k]?).getD undef) (ag hh) (fun k hk=>?_) (fun fr hf=>by rw[aj] at hf;cases hf) (fun k d hd=>?_)
 . rw[eq] at hk;have hk':k<xs.length:=A0b
   rw[adi,Box.cell hh,<-adF,hx,adu hk',io hk'];rfl
 . rw[ac9,adn] at hd;obtain⟨u,hu,rfl⟩:=hd;have hk:k<xs.length:=by have:=(iO.1 hu).1;omega
   rw[io hk];exact((hr.get k _ u (io hk) hu).bare).mono (Ext.freeze g m w)
theorem Rel.letgo(h:Rel E n pm m0 w0 m β st a w){s:Nat}(hge:w0.heap.size<=β s∨β s∈pm.Y)(hobj:(∃cs,st.b s=some cs)∨∃i ks vs,st.t i= .mp s ks vs):
 Rel E n pm m0 w0 (upd m (β s) none) β ⟨kill s st.t,upd st.b s none⟩ a w:=by
 have he:=Ext.freeze (β s) m w;have hbn:∀{k:Nat} {c:U},upd st.b s none k=some c->st.b k=some c∧k≠s:=fun {k c} hk=>by
  rw[aJ] at hk;split at hk
  . cases hk
  . rename_i e;exact⟨hk,e⟩
 have hne:∀{k:Nat} {c:U},st.b k=some c->k≠s->β k≠β s:=fun {k c} hk hn e=>by
  rcases hobj with⟨cs,hs⟩|⟨i,ks,vs,hi⟩
  . exact hn (h.inj _ _ _ _ hk hs e)
  . obtain⟨⟨_,_,_,_,_,hh,_⟩,_⟩:=h.boxes _ _ hk;exact Zd
 obtain⟨ρ,hr⟩:=h.rows;have hρ:∀v sz es s',Bear E w β st (fun i=>a.tmps.getD i undef) v (.sl false sz es (some s'))->ρ s'≠β s:=fun v sz es s' hb e=>by
  rcases hobj with⟨cs,hs⟩|⟨i,ks,vs,hi⟩
  . exact hr.box _ _ _ _ _ _ hb hs e.symm
  . obtain⟨_,_,_,_,_,_,hh,_⟩:=hr.row _ _ _ _ hb;exact Zd
 refine⟨fun i=>((h.tmps i).mono he).kill,h.size,fun k c hk=>?_,fun k k' c c' h1 h2 e=>h.inj _ _ _ _ (hbn h1).1 (hbn h2).1 e,h.below,h.par,⟨fun blk hb hy=>?_,h.mold.2.1.trans he,h.mold.2.2⟩,⟨ρ,hr.to (fun v sz es s' hi=>hi.from (fun i hi=> .inl ⟨i,tO hi,rfl⟩) (fun k c j h1 h2 h3 h4=> .inr ⟨k,c,j,h1,(hbn h2).1,h3,h4⟩)) (fun v sz es s' hi=>⟨rfl,ah _ _ (hρ _ _ _ _ hi)⟩) (fun v sz es s' k c hi hk=>hr.box _ _ _ _ _ _ hi (hbn hk).1)⟩,
  fun i s' sz len c hi hk=>?_,h.defers,fun g=>(h.glob g).mono he,h.j,⟨fun i s' ks vs hi=>?_,fun i j s1 s2 ks vs ks' vs' hi hj e=>?_⟩⟩
 . obtain⟨⟨hl,vals,ty,xs,rest,hh,hx,hr'⟩,hge'⟩:=h.boxes k c (hbn hk).1;exact⟨⟨by rw[ah _ _ (hne (hbn hk).1 (hbn hk).2)];exact hl,vals,ty,xs,rest,hh,hx,hr'.mono he⟩,hge'⟩
 . have:blk≠β s:=fun e=>by
    rcases hge with h1|h1
    . omega
    . exact hy (e▸h1)
   rw[ah _ _ this];exact Zm
 . have hi:kill s st.t i= .row s' sz len:=hi;obtain⟨e,_⟩:=kD (show(kill s st.t i).nm=some s' by rw[hi];rfl);exact h.own i s' sz len c (e▸hi) (hbn hk).1
 . have hi:kill s st.t i= .mp s' ks vs:=hi;obtain⟨e,hs'⟩:=kD (show(kill s st.t i).nm=some s' by rw[hi];rfl);rw[e] at hi;obtain⟨⟨ents,clock,hh,hrd,h1,h2,h3⟩,h4⟩:=h.maps.holds i s' ks vs hi;refine⟨⟨ents,clock,hh,hrd.mono he,h1,h2,?_⟩,h4⟩;have hn:β s'≠β s:=fun e=>by
    rcases hobj with⟨cs,hs⟩|⟨i2,ks2,vs2,hi2⟩
    . obtain⟨⟨_,_,_,_,_,hh2,_⟩,_⟩:=h.boxes _ _ hs;rw[e,hh2] at hh;cases hh
    . exact hs' (h.maps.inj _ _ _ _ _ _ _ _ hi hi2 e)
   rw[ah _ _ hn];exact h3
 . have hi:kill s st.t i= .mp s1 ks vs:=hi;have hj:kill s st.t j= .mp s2 ks' vs':=hj;obtain⟨e1,_⟩:=kD (show(kill s st.t i).nm=some s1 by rw[hi];rfl);obtain⟨e2,_⟩:=kD (show(kill s st.t j).nm=some s2 by rw[hj];rfl);exact h.maps.inj _ _ _ _ _ _ _ _ (e1▸hi) (e2▸hj) e
theorem pw(sz:Nat):∀(k:Nat) (cs:U),(eU sz k cs).length=k
 |0,_=>rfl
 |k+1,cs=>by simp[eU,pw sz k]
theorem oi(sz:Nat)(hz:sz≠0):∀(k:Nat) (cs:U),k*sz<=cs.length->(∀u∈cs,u.cells=[u])->(eU sz k cs).flatMap V.cells=cs.take (k*sz)∧∀e∈eU sz k cs,e.cells.length=sz
 |0,cs,_,_=>by simp[eU]
 | k +1,cs,hl,h1=>by
   have hk:k*sz<=(cs.drop sz).length:=by rw[aeE];rw[aek] at hl;omega
   obtain⟨q1,q2⟩:=oi sz hz k (cs.drop sz) hk (fun u hu=>h1 u (af9 hu));have hsl:sz<=cs.length:=by rw[aek] at hl;omega
   have hd:(if sz=1 then (cs[0]?).getD (V.agg (cs.take sz)) else V.agg (cs.take sz)).cells=cs.take sz:=by
    split
    . rename_i e;subst e;cases cs with
      |nil=>simp at hsl
      |cons c cs=>simpa using h1 c A0k
    . rfl
   refine⟨?_,fun e he=>?_⟩
   . simp only[eU,aeg,hd,q1];rw[aek,Nat.add_comm,afu,List.take_add]
   . simp only[eU,adA] at he;rcases he with rfl|he
     . rw[hd,adz];omega
     . exact q2 e he
theorem Ay(h:u.cell=true):u.cells=[u]:=by cases u<;>first|rfl|(simp[V.cell] at h)
theorem E4(h:cs.all V.dat=true):cs.map V.bare=cs:=by
 rw[adr] at h;have:∀u∈cs,V.bare u=u:=fun u hu=>by
  have:=h u hu;rw[bA];cases u<;>first|rfl|skip
  rename_i nl sz es tok;cases tok<;>first|rfl|(simp[V.dat] at this)
 rw[aeW this,List.map_id']
theorem rF(hE:EnvX E pm)(h:Rel E n pm m0 w0 m β st a w){d:Option Tmp}(hfz:E.fzO d=true)(hd:∀k,d=some k->k<n){x:Operand}{st':St}(hx:oQ E st d (ev E st x)=some st'):∃m',Rel E n pm m0 w0 m' β st' (a.put d (a.eval x)) w:=by
 have hXY:∀x∈pm.X,x∈pm.Y:=by
  rcases hE.fz with h1|h1
  . cases d with
    |none=>cases hfz
    |some d=>rw[show E.fzO (some d)=E.fz d from rfl,h1] at hfz;cases hfz
  . exact h1
 have hv:=aQ h x;unfold oQ at hx;split at hx
 . rename_i d s sz len he;rw[he] at hv;split at hx
   case h_2=>cases hx
   rename_i cs hs;split at hx
   case isFalse=>cases hx
   rename_i hc;cases hx;obtain⟨hz,hmb,hdat,hone⟩:=hc;obtain⟨i,rfl,hi⟩:=po h he;obtain⟨hb,hge⟩:=h.boxes s cs hs;obtain⟨hfit,cap,cur,ty,hval,hh,hsz⟩:=h.own i s sz len cs hi hs;refine⟨_,(h.letgo (hge.imp id (hXY _)) (.inl ⟨cs,hs⟩)).put (d:=some d) hd (u:= .sl false sz (tK sz len cs) none) (.of ?_) (fun sz es s' e=>by cases e) (fun s sz len cs e=>by cases e) (fun s ks vs e=>by cases e)⟩;have hval:a.eval (.tmp i)=_:=hval;obtain⟨_,vals,ty',xs,rest,hh',hxs,hr⟩:=hb;rw[hh] at hh';have hcv:cur=vals:=by injection hh' with hh';injection hh'
   have hlr:=hr.length;have hcl:len<=cap:=by
    obtain⟨cap',hv1,hv2⟩:=hv.row;rw[hval] at hv1;injection hv1 with _ _ e3
    omega
   rw[hval,sh];have hlc:(eU sz len cs).length=len:=pw sz len cs;obtain⟨hf1,hf2⟩:=oi sz hz len cs hfit (fun u hu=>Ay (adr.1 hone u hu));have hflat:Flat (upd m (β s) none) w (xs.take (len*sz)) sz (eU sz len cs):=ij _ _ hf2 (by rw[hf1];exact(hr.mono (Ext.freeze _ _ _)).take _);have:=Rd.of_flat hflat (g:=β s) (cap:=cap) (cur:=cur) hh (fun j x hj=>by
    rw[ad6] at hj;split at hj
    . rw[<-adF,hcv,hxs,adu (iO.1 hj).1];exact hj
    . cases hj) (by rw[hlc];exact hcl) (fun fr hf=>by rw[aj] at hf;cases hf) none
   rwa [hlc] at this
 . rename_i d s ks vs he;rw[he] at hv;cases hx;obtain⟨i,rfl,hi⟩:=sr h he;obtain⟨hm,hge⟩:=h.maps.holds i s ks vs hi;refine⟨_,(h.letgo (hge.imp id (hXY _)) (.inr ⟨i,ks,vs,hi⟩)).put (d:=some d) hd (u:= .fm ks vs) (.of ?_) (fun sz es s' e=>by cases e) (fun s sz len cs e=>by cases e) (fun s ks vs e=>by cases e)⟩;rw[hv.mp];exact hm.freeze (Ext.freeze _ _ _) (aj _ _ _)
 . rename_i d s he;rw[he] at hv;split at hx
   case h_2=>cases hx
   rename_i cs hs;split at hx
   case isFalse=>cases hx
   rename_i hc;cases hx;obtain⟨hb,hge⟩:=h.boxes s cs hs;refine⟨_,(h.letgo (hge.imp id (hXY _)) (.inl ⟨cs,hs⟩)).put (d:=some d) hd (u:= .ip cs) (.of ?_) (fun sz es s' e=>by cases e) (fun s sz len cs e=>by cases e) (fun s ks vs e=>by cases e)⟩;rw[hv.ptr];have:=hb.ip
   rwa [E4 hc.2] at this
 . cases hx
theorem vX(hE:EnvX E pm)(h:Rel E n pm m0 w0 m β st a w){o:Oper}{st':St}(hx:fX E o st=some st')(hd:∀k,o.dst=some k->k<n)
 {K:Act->World->Prop} {Q:Exit->Act->World->Prop} (hK:∀a' w' m' β',Rel E n pm m0 w0 m' β' st' a' w'->K a' w'):o.wp E.P a w K Q:=by
 unfold Oper.wp;unfold fX at hx;split at hx
 . rename_i t ho;split at hx
   . rename_i z hz;split at hx
     case isFalse=>simp at hx
     rename_i hmb;obtain⟨zv,hzr,hzd⟩:=ie (w:=w) (m:=m) hz;obtain⟨m',β',hrel⟩:=pk h hd hx hmb (ty:=t) hzd;have hrun:(execOp a.eval o).run E.P w= .ok (.value (.pointer (some ⟨w.heap.size,0,none⟩))) (w.alloc (.cells zv.cells t)):=by simp only[execOp,ho,Instr.alloc,Gc,hzr,Ge,newVar,newRow,run_newObj,Gd];rfl
     exact rH
   . simp at hx
 . rename_i t x ho;split at hx
   . rename_i hdat;obtain⟨hdat,hmb⟩:=hdat;obtain⟨m',β',hrel⟩:=pk h hd hx hmb (ty:=t) (so ((aQ h x).bare.dat hdat) hdat);have hrun:(execOp a.eval o).run E.P w= .ok (.value (.pointer (some ⟨w.heap.size,0,none⟩))) (w.alloc (.cells (a.eval x).cells t)):=by simp only[execOp,ho,Instr.box,Gc,Ge,newVar,newRow,run_newObj,Gd];rfl
     exact rH
   . simp at hx
 . rename_i t p x ho;split at hx
   . rename_i hdst;obtain⟨w',hr,hrel⟩:=mz h (aQ h p) (aQ h x) (fun sz es s' he=>by obtain⟨i,rfl,hi⟩:=Ap he;rw[he];exact .inl ⟨i,hi,rfl⟩) hx
     have hrun:(execOp a.eval o).run E.P w= .ok .skip w':=by simp only[execOp,ho,Gc,hr,Ge,Gd]
     rw[hrun];refine hK _ _ m β ?_;rw[Option.isNone_iff_eq_none.1 hdst];exact hrel
   . simp at hx
 . rename_i t p ho;split at hx
   . rename_i u hu;cases hx;have hu:=(f9 hu).1;obtain⟨v,hr,hv⟩:=od h (aQ h p) hu;have hrun:(execOp a.eval o).run E.P w= .ok (.value v) w:=by simp only[execOp,ho,Gc,hr,Ge,Gd]
     rw[hrun];refine hK _ _ m β ?_;unfold Env.keepL;split
     . rename_i hM;refine h.put hd (.of hv) (fun sz es s he=>?_) (fun s sz len cs e=>(e▸hv).not_row.elim) (fun s ks vs e=>(e▸hv).not_mp.elim);have hp:=aQ h p;generalize ev E st p=q at hM hu hp;cases q with
       | ptr s0 off=>
         have hM:E.MB s0=true:=hM;simp only[mw] at hu;split at hu
         . rename_i cs hcs;rw[he] at hu⊢;exact E3 h hcs hM hp.ptr hu hr
         . cases hu
       |_=>cases hM
     . exact u4
   . cases hx
 . rename_i args argTypes ho;split at hx
   . rename_i x y t t' ha ht;have hargs:args= #[x,y]:=by apply aed.1;simpa using ha
     have hts:argTypes= #[t,t']:=by apply aed.1;simpa using ht
     subst hargs hts;split at hx
     . rename_i el htt hu;simp only[adS] at htt;subst htt;have hy:=aQ h y;obtain⟨v,w',m',β',hr,hrel⟩:=og (sy:=y) (t:=t) (t':=t) (ty:=o.type) h hd (fun i nl sz es tok hyv hi hs=>Ij hu hi ((hyv▸hy:Rs m w β _ (.sl nl sz es tok)).rd A1p) hs) hx;have hrun:(execOp a.eval o).run E.P w= .ok (.value v) w':=by simp only[execOp,ho,resolve,Gc,Gd,Ge,invoke,builtin];simp[hr]
       exact rH
     . rename_i el htt hu;split at hx
       . rename_i s hu' hs;have hy:=(hs▸aQ h y:Rs m w β _ (.x (.string s))).x;obtain⟨v,w',m',β',hr,hrel⟩:=og (sy:=y) (t:=t) (t':=t') (ty:=o.type) h hd (fun i nl sz es tok hyv hi hs'=>by cases hyv;rw[hy];exact M6 hu hu' hi hs') hx
         have hrun:(execOp a.eval o).run E.P w= .ok (.value v) w':=by simp only[execOp,ho,resolve,Gc,Gd,Ge,invoke,builtin];simp[hr]
         exact rH
       . cases hx
     . simp at hx
   . simp at hx
 . rename_i t r ho;split at hx
   . rename_i kt et d hu hds hq;split at hx
     . rename_i hn;cases hx;have hrun:(execOp a.eval o).run E.P w= .ok (.value (.map (some w.heap.size))) (w.alloc (.map #[] 0)):=by
        cases r with
        |none=>simp only[execOp,ho,afp,Instr.makeMap,Gc,Gd,Ge,run_newObj];rfl
        | some x=>
          obtain⟨k,i,hx⟩:∃k i,ev E st x= .x (.int k i):=by
           rw[aea] at hq;unfold Dr at hq;split at hq
           . rename_i he;cases he
           . rename_i k i he;exact⟨k,i,afo he⟩
           . cases hq
          have hxe:a.eval x= .int k i:=(hx▸aQ h x:Rs m w β _ (.x (.int k i))).x;simp only[execOp,ho,aea,Instr.makeMap,Gc,Gd,Ge,run_newObj,aC hu,hxe,asInt,asIntOf];rfl
       rw[hrun];show K (a.put o.dst (.map (some w.heap.size))) _;rw[hds];exact hK _ _ _ _ (h.newMap (hd d hds) hn)
     . cases hx
   . cases hx
 . rename_i t x k v ho;split at hx
   . rename_i s ks vs hds hmp;split at hx
     . rename_i ks' vs' hput;cases hx;obtain⟨i0,rfl,hi0⟩:=sr h hmp;have hmx:a.eval (.tmp i0)= .map (some (β s)):=(hmp▸aQ h (.tmp i0):Rs m w β _ (.mp s ks vs)).mp;have hdat:(ev E st v).bare.dat=true∧fg E.P (match E.P.underlying t with|some (.map kt _)=>kt|_=>0) (ev E st k).bare=true:=by
        unfold ns at hput;split at hput
        . rename_i kt et hu;split at hput
          . rename_i hc;rw[hu];exact⟨hc.2,hc.1⟩
          . cases hput
        . cases hput
       have hkr:Rd m w (a.eval k) (ev E st k).bare:=(aQ h k).bare.rd (vW hdat.2);obtain⟨ents,clock,hr,hm,_⟩:=ph (h.maps.holds i0 s ks vs hi0).1 hkr ((aQ h v).bare.dat hdat.1) hput;have hrun:(execOp a.eval o).run E.P w= .ok .skip {w with heap:=w.heap.setIfInBounds (β s) (.map ents clock)}:=by simp only[execOp,ho,hmx,Gc,hr,Ge,Gd]
       rw[hrun];refine hK _ _ m β ?_;rw[hds];exact h.setMap hi0 hm
     . cases hx
   . cases hx
 . rename_i t x k ok ho;split at hx
   . rename_i u hu;cases hx;obtain⟨ks,vs,hkv⟩:∃ks vs,(ev E st x).kv=some (ks,vs):=by
      unfold ia at hu;split at hu
      . rename_i h1;exact⟨_,_,h1⟩
      . cases hu
     have hkr:Rd m w (a.eval k) (ev E st k).bare:=(aQ h k).bare.rd (Il hu);obtain⟨g,hmx,hmg⟩:∃g,a.eval x= .map (some g)∧∃ents clock,w.heap[g]?=some (.map ents clock)∧MapRd m w ents.toList ks vs:=by
      rcases T8 hkv with⟨s,hmp⟩|hmp
      . obtain⟨ents,clock,hh,hrd,_⟩:=Aq h hmp;exact⟨β s,(hmp▸aQ h x:Rs m w β _ (.mp s ks vs)).mp,ents,clock,hh,hrd⟩
      . obtain⟨g,ents,clock,e,hh,hrd,_⟩:=((hmp▸aQ h x:Rs m w β _ (.fm ks vs)).rd rfl).fm_at;exact⟨g,e,ents,clock,hh,hrd⟩
     obtain⟨v,hr,hv⟩:=vJ hkv hmg hkr hu;have hrun:(execOp a.eval o).run E.P w= .ok (.value v) w:=by simp only[execOp,ho,hmx,Gc,hr,Ge,Gd]
     rw[hrun];refine hK _ _ m β ?_;exact u4
   . cases hx
 . rename_i t l c ho;split at hx
   . rename_i el hu;split at hx
     . obtain⟨v,w',m',β',hr,hrel⟩:=vQ h hd (aQ h l) (aQ h c) hu hx;have hrun:(execOp a.eval o).run E.P w= .ok (.value v) w':=by simp only[execOp,ho,Gc,hr,Ge,Gd]
       exact rH
     . obtain⟨v,w',m',hr,hrel⟩:=vP h hd (aQ h l) (aQ h c) hu hx;have hrun:(execOp a.eval o).run E.P w= .ok (.value v) w':=by simp only[execOp,ho,Gc,hr,Ge,Gd]
       exact rH
   . simp at hx
 . rename_i t len parts ho;have hvs:∀(i:Nat) (x:Nat×Value) (u:Nat×V),(parts.toList.map fun p=>(p.1,a.eval p.2))[i]?=some x->(parts.toList.map fun p=>(p.1,(ev E st p.2).bare))[i]?=some u->Rs m w β x.2 u.2:=by intro i x u hx hu';simp only[ac9,adn] at hx hu';obtain⟨p,hp,rfl⟩:=hx;obtain⟨q,hq,rfl⟩:=hu';rw[hp] at hq;cases hq;exact(aQ h _).bare
   have hpa:(parts.map fun(i,x)=>(i,a.eval x))=(parts.toList.map fun p=>(p.1,a.eval p.2)).toArray:=by apply aed.1;simp
   split at hx
   . split at hx
     . obtain⟨v,w',hr,hk⟩:=Av hE h hd (vs:=parts.toList.map fun p=>(p.1,a.eval p.2)) A0k hvs hx hK;have hrun:(execOp a.eval o).run E.P w= .ok (.value v) w':=by simp only[execOp,ho,Gc];rw[hpa,hr];simp
       rw[hrun];exact hk
     . split at hx
       case isFalse=>cases hx
       rename_i hmb;obtain⟨v,w',m',β',hr,hrel⟩:=Ar h hd (hmb:=hmb) (vs:=parts.toList.map fun p=>(p.1,a.eval p.2)) A0k hvs hx;have hrun:(execOp a.eval o).run E.P w= .ok (.value v) w':=by simp only[execOp,ho,Gc];rw[hpa,hr];simp
       exact rH
   . split at hx
     . rename_i u hu;cases hx;simp only[fC] at hu;obtain⟨v,w',m',hr,hv,hb,hm⟩:=At (m:=m) (w:=w) (P:=E.P) (vs:=parts.toList.map fun p=>(p.1,a.eval p.2)) A0k hvs hu;have hrun:(execOp a.eval o).run E.P w= .ok (.value v) w':=by simp only[execOp,ho,Gc];rw[hpa,hr];simp
       rw[hrun];exact vy
     . cases hx
 . rename_i t1 t2 x ho;split at hx
   . cases hx
   . split at hx
     . rename_i u hu;cases hx;have hu:aW E (.convert t1 t2 x) (ev E st)=some u:=hu;obtain⟨x0,rfl⟩:∃x0,u= .x x0:=by
        simp only[aW] at hu
        repeat' split at hu
        all_goals first|(cases hu;exact⟨_,rfl⟩)|cases hu
       rw[<-ho] at hu;obtain⟨v,hr,hv⟩:=oc (ρ:=a.eval) (fun x=>aQ h x) (fun x s ks vs e=>Aq h e) hu;rw[hr];refine hK _ _ m β ?_;rw[dZ];refine h.put hd hv.bare (fD _) (fun s sz len cs e=>?_) (fun s ks vs e=>?_)
       . have e:(V.x x0).bare=_:=e;rw[bA] at e;cases e
       . have e:(V.x x0).bare=_:=e;rw[bA] at e;cases e
     . cases hx
 . rename_i c args ts ho;split at hx
   . rename_i F hF;exact Aw hE h ho hF hx hd hK
   split at hx
   case h_2=>simp at hx
   rename_i f hf;have hc:a.eval c= .func (.func f) #[] #[]:=(Dp hf▸aQ h c).x;split at hx
   . rename_i F hF;obtain⟨hcall,hfun⟩:=hE.fnM f F hF;have hrun:(execOp a.eval o).run E.P w= .ok (.enter f (args.map a.eval)) w:=by simp only[execOp,ho,resolve,Gc,hc,Deferred.ofValue,Gd,Ge,invoke];rw[hcall];simp
     rw[hrun];unfold If at hx;split at hx
     case h_2=>cases hx
     rename_i d hds hdat;split at hx
     case h_2=>cases hx
     rename_i ks rs hr;split at hx
     case isFalse=>cases hx
     rename_i hn;cases hx;have:=hfun m w (args.map a.eval) _ _ _ hr hdat (by simpa using kC h args.toList hdat) (hE.keep _ _ _ h.par.2.2 h.j h.below) h.glob;refine this.mono ?_;rintro e w' ⟨g,m',rfl,hg,hM,hb,hm⟩;show K (a.put o.dst (.map (some g))) w';rw[hds];exact hK _ _ m' _ (h.newMapAt (hd d hds) hn hb hm hg hM)
   split at hx
   . rename_i F hF;obtain⟨hcall,hfun⟩:=hE.fnP f F hF;have hrun:(execOp a.eval o).run E.P w= .ok (.enter f (args.map a.eval)) w:=by simp only[execOp,ho,resolve,Gc,hc,Deferred.ofValue,Gd,Ge,invoke];rw[hcall];simp
     rw[hrun];obtain⟨ρ,hrw⟩:=h.rows;have hx0:=hx;unfold callP at hx0;split at hx0
     case isFalse=>cases hx0
     rename_i hcond;obtain⟨gs,hargs,hdom,hgn,hgm⟩:=Au h hrw (hE.high _ h.j) args.toList hcond.1 hcond.2.2.1;obtain⟨r,outs,hr,hnd,hhn,hfin⟩:=oh hE h hd hrw hx hdom hgn hgm (tR h args.toList) hK;have:=hfun m w (args.map a.eval) _ _ gs _ r outs hr (by simpa using hargs) hnd hhn (hE.keep _ _ _ h.par.2.2 h.j h.below) h.glob;refine this.mono ?_;rintro e w' ⟨v,m',rfl,hv,hb,hext,hm,ho,hown⟩;exact hfin v w' m' hv hb hext hm ho hown
   . split at hx
     . rename_i u hu;cases hx;simp only[fC,hf] at hu;split at hu
       . rename_i F hF;split at hu
         . rename_i hdat;have hr:=(f9 hu).1;obtain⟨hcall,hfun⟩:=hE.fn f F hF;have hrun:(execOp a.eval o).run E.P w= .ok (.enter f (args.map a.eval)) w:=by simp only[execOp,ho,resolve,Gc,hc,Deferred.ofValue,Gd,Ge,invoke];rw[hcall];simp
           rw[hrun];have:=hfun m w (args.map a.eval) _ _ hr hdat (by simpa using kC h args.toList hdat) (hE.keep _ _ _ h.par.2.2 h.j h.below) h.glob;refine this.mono ?_;rintro e w' ⟨v,m',rfl,hv,hb,hm⟩;exact vy
         . simp at hu
       . simp at hu
     . cases hx
 . rename_i hnl _ _ _ _ _ hnb _ hnc;split at hx
   . rename_i u hu;cases hx;unfold fC at hu;split at hu
     . rename_i t p ho;exact absurd ho (hnl t p)
     . rename_i c args ts ho;exact absurd ho (hnc c args ts)
     . rename_i t len parts ho;exact absurd ho (hnb t len parts)
     . by_cases hmv:jS o.op=true
       . obtain⟨x,hr,rfl⟩:=Ak (P:=E.P) (ρ:=a.eval) (w:=w) (fun x=>aQ h x) hmv hu;rw[hr];refine hK _ _ m β ?_;simp only[dZ,hmv,agH];refine h.put hd (aQ h x) (fun sz es s he=>?_) (fun s sz len cs he hb=>?_) (fun s ks vs he=>?_)
         . cases x with
           |tmp k=>exact .inl ⟨k,rfl,rfl⟩
           |const v=>exact Zk
           |global g=>simp only[ev,bA] at he;generalize E.G g=u at he;cases u<;>cases he
           |func f=>cases he
         . obtain⟨i,rfl,hi⟩:=po h he;exact h.own i s sz len cs hi hb
         . obtain⟨i,_,hi⟩:=sr h he;exact⟨i,hi⟩
       . simp only[Bool.not_eq_true] at hmv;by_cases hrw:∃s sz len,u= .row s sz len
         . obtain⟨s,sz,len,rfl⟩:=hrw;obtain⟨v,hr,hv,ho⟩:=E1 h hmv hu;rw[hr];refine hK _ _ m β ?_;rw[sd];exact h.put hd hv (fun sz es s he=>by cases he) (fun s sz len cs he hb=>by cases he;exact ho cs hb) (fun s ks vs e=>by cases e)
         . obtain⟨v,hr,hv⟩:=oc (ρ:=a.eval) (fun x=>aQ h x) (fun x s ks vs e=>Aq h e) hu;rw[hr];refine hK _ _ m β ?_;simp only[dZ];rw[hmv];refine h.put hd hv.bare (fD _) (fun s sz len cs e=>?_) (fun s ks vs e=>?_)
           . exfalso;have e:u.bare=_:=e;rw[bA] at e;cases u<;>first|exact hrw ⟨_,_,_,rfl⟩|cases e
           . exfalso;have e:u.bare=_:=e;rw[bA] at e;cases u<;>first|exact As hmv hu|cases e
   . simp at hx
theorem oj(hE:EnvX E pm)(h:Rel E n pm m0 w0 m β st a w){o:Oper}{st':St}(hx:dt E o st=some st')(hd:∀k,o.dst=some k->k<n)
 {K:Act->World->Prop} {Q:Exit->Act->World->Prop} (hK:∀a' w' m' β',Rel E n pm m0 w0 m' β' st' a' w'->K a' w'):o.wp E.P a w K Q:=by
 unfold dt at hx;split at hx
 . rename_i hfz;split at hx
   case h_2=>cases hx
   rename_i x hmv;obtain⟨m',hrel⟩:=rF hE h hfz hd hx;have hrun:(execOp a.eval o).run E.P w= .ok (.value (a.eval x)) w:=by
    unfold M5 at hmv;split at hmv
    . rename_i x' ho;cases hmv;simp[execOp,ho]
    . rename_i x' ho;cases hmv;simp[execOp,ho]
    . cases hmv
   unfold Oper.wp;exact rH
 . exact vX hE h hx hd hK
end
