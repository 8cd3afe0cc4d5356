/- Rows that the call made and that its run does not know at present: kept beside the run; taken up to be written, and put down again. No program is named here. -/
import Derived.Test.YtmfojhkjbkombaaMI
import Derived.Test.YtmfojhkjbkombaaMU
import Derived.WideLaws
namespace Go.Proofs.Ytmfojhkjbkombaa
set_option linter.unusedSimpArgs false
open Go Go.RowKit
structure Loose (K:Nat) (sz:Nat) (m:Lim) (w:World) (v:Value) (es:List V) (g:Nat):Prop where
 box:BoxAt m w g (es.flatMap V.cells)
 low:K<=g
 is:∃(cap:Nat) (cur:Array Value) (ty:TyAt cur.size),v= .slice (some ⟨g,0,none⟩) es.length cap∧w.heap[g]?=some (.cells cur ty.ty ty.fz)∧es.length<=cap∧cur.size=cap*sz
inductive Bed (K:Nat) (sz:Nat) (m:Lim) (w:World):List (Value×List V)->List Nat->Prop
 |nil:Bed K sz m w [] []
 |no {l:List (Value×List V)} {gs:List Nat} (h:Bed K sz m w l gs):Bed K sz m w ((.slice none 0 0,[])::l) gs
 |row {v:Value} {es:List V} {g:Nat} {l:List (Value×List V)} {gs:List Nat} (hne:es≠[]) (h1:Loose K sz m w v es g) (h2:g∉gs) (h:Bed K sz m w l gs):Bed K sz m w ((v,es)::l) (g::gs)
section
variable {E:Env} {n sz:Nat} {D:List Deferred} {m m' ms:Lim} {ws w w':World} {st:St} {a:Act} {O S:Nat->Prop} {r:Option Nat}
theorem Now.shed (hMB:∀s,E.MB s=false) (h:Now E n D O m st a w) {s:Nat} {cs:List V} (hb:st.b s=some cs) {st':St} (hl:Le st' st) (hbn:st'.b s=none):
 ∃ g,O g∧E.K<=g∧BoxAt m w g cs∧(∀i,st.t i= .ptr s 0->a.tmps.getD i Go.undef= .pointer (some ⟨g,0,none⟩))∧
   (∀i sz len,st.t i= .row s sz len->len*sz<=cs.length∧∃(cap:Nat) (cur:Array Value) (ty:TyAt cur.size),a.tmps.getD i Go.undef= .slice (some ⟨g,0,none⟩) len cap∧w.heap[g]?=some (.cells cur ty.ty ty.fz)∧len<=cap∧cur.size=cap*sz)∧
   Now E n D (fun k=>O k∧k≠g) m st' a w:=by
 obtain⟨⟨b,β,hr⟩,hlt⟩:=h;have hr':=hr.le hl;obtain⟨hbox,hge⟩:=hr.boxes s cs hb;have hgsz:β s<w.heap.size:=by obtain⟨_,_,_,_,_,hh,_⟩:=hbox;exact ae hh
 have hO:O (β s):=by
  rcases hge with hge|hge
  . exact absurd hgsz (Z4.2 hge)
  . exact(bj.1 hge).2
 have hin:∀x,x<w.heap.size->(w.heap.size<=x∨x∈lst O w.heap.size)->x≠β s->x∈lst (fun k=>O k∧k≠β s) w.heap.size:=fun x hx ho hne=>by
  rcases ho with ho|ho
  . exact absurd hx (Z4.2 ho)
  . exact bj.2 ⟨hx,(bj.1 ho).2,hne⟩
 refine⟨β s,hO,hr.par.2.2 _ (bj.2 ⟨hgsz,hO⟩),hbox,fun i hi=>(hi▸hr.tmps i:Rs m w β _ (.ptr s 0)).ptr,fun i sz len hi=>?_,⟨⟨b,β,⟨hr'.tmps,hr'.size,fun s' cs' hs'=>?_,hr'.inj,Bel.refl _ _,⟨hr'.par.1,hr'.par.2.1,fun x hx=>?_⟩,⟨fun _ _ _=>rfl,Ext.refl _ _,fun y hy=>hy⟩,?_,hr'.own,hr'.defers,hr'.glob,hr'.j,?_⟩⟩,fun k hk=>hlt k hk.1⟩⟩
 . obtain⟨cap0,e0,hle⟩:=(hi▸hr.tmps i:Rs m w β _ (.row s sz len)).row;obtain⟨h1,cap,cur,ty,h2,h3,h4⟩:=hr.own i s sz len cs hi hb;have e1:a.tmps.getD i Go.undef= .slice (some ⟨β s,0,none⟩) len cap:=h2;rw[e0] at e1;cases e1;exact⟨h1,cap0,cur,ty,e0,h3,hle,h4⟩
 . obtain⟨h1,h2⟩:=hr'.boxes s' cs' hs';have hlt':β s'<w.heap.size:=by obtain⟨_,_,_,_,_,hh,_⟩:=h1;exact ae hh
   refine⟨h1,.inr (hin _ hlt' h2 fun e=>?_)⟩;obtain⟨c0,hc0,_⟩:=hl.b s' cs' hs';have:s'=s:=hr.inj s' s c0 cs hc0 hb e;rw[this,hbn] at hs';cases hs'
 . obtain⟨q1,q2,_⟩:=bj.1 hx;exact hr.par.2.2 x (bj.2 ⟨q1,q2⟩)
 . obtain⟨ρ,hrw⟩:=hr.rows;have hB:∀v sz es s',Bear E w β st' (fun i=>a.tmps.getD i Go.undef) v (.sl false sz es (some s'))->Bear E w β st (fun i=>a.tmps.getD i Go.undef) v (.sl false sz es (some s')):=by
    rintro v sz es s' (⟨i,h1,h2⟩|⟨k,_,_,hk,_⟩)
    . refine .inl ⟨i,?_,h2⟩;rcases hl.t i with h0|h0|⟨_,_,_,_,h0,_⟩
      . rw[h0] at h1;cases h1
      . rw[<-h0];exact h1
      . rw[h0] at h1;cases h1
    . rw[hMB] at hk;cases hk
   refine⟨ρ,fun v sz es s' hi=>?_,fun v sz es s1 v' sz' es' s2 hi hi' e=>hrw.sep _ _ _ _ _ _ _ _ (hB _ _ _ _ hi) (hB _ _ _ _ hi') e,fun v sz es s1 k c hi hk=>?_⟩
   . obtain⟨lo,lim,cap,cur,ty,hv,hh,hc,hs⟩:=hrw.row _ _ _ _ (hB _ _ _ _ hi);exact⟨.inr (hin _ (ae hh) lo fun e=>hrw.box _ _ _ _ s cs (hB _ _ _ _ hi) hb e.symm),lim,cap,cur,ty,hv,hh,hc,hs⟩
   . obtain⟨c0,hc0,_⟩:=hl.b k c hk;exact hrw.box _ _ _ _ _ _ (hB _ _ _ _ hi) hc0
 . refine⟨fun i s' ks vs hi=>?_,hr'.maps.inj⟩;obtain⟨h1,h2⟩:=hr'.maps.holds i s' ks vs hi;obtain⟨ents,clock,hh,hrest⟩:=h1;refine⟨⟨ents,clock,hh,hrest⟩,.inr (hin _ (ae hh) h2 fun e=>?_)⟩;obtain⟨_,vals,ty,xs,rest,hh',_⟩:=hbox;rw[e,hh'] at hh;cases hh
theorem Now.learn (h:Now E n D O m st a w) {d:Nat} (hd:d<n) {u:V} (hv:Rd m w (a.tmps.getD d Go.undef) u):Now E n D O m ⟨upd st.t d u.bare,st.b⟩ a w:=by
 have hz:a.tmps.size=n:=by obtain⟨_,_,hr⟩:=h.rel;exact hr.size
 have:=h.put hd hv;have e:a.put (some d) (a.tmps.getD d Go.undef)=a:=by
  have:a.tmps.setIfInBounds d (a.tmps.getD d Go.undef)=a.tmps:=by
   apply Array.ext_getElem?;intro i;rw[abn];split
   . rename_i e;subst e;rw[Zp A0c,ZF,ZJ A0c];rfl
   . rfl
  show({a with tmps:=_}:Act)=a;rw[this]
 rw[e] at this;exact this
theorem Step.freeze (g:Nat) (m:Lim) (w:World):Step (fun k=>k=g) m w (upd m g none) w:=by exact⟨rfl,rfl,rfl,Ext.freeze g m w,fun k _ hk=>⟨rfl,ag _ _ hk⟩⟩
structure Hb where
 Kn:Kno
 W:Nat->Bool
 t0:Array Value
 ms:Lim
 ws:World
def Hold (E:Env) (n sz:Nat) (B:Hb) (P:List (Value×List V)) (st:St) (a:Act) (w:World):Prop:=
 ∃m O gs,Now E n [] O m st a w∧Bed E.K sz m w P gs∧(∀g∈gs,¬O g∧B.ws.heap.size<=g)∧(∀k,O k->B.ws.heap.size<=k)∧Step (fun _=>False) B.ms B.ws m w∧B.Kn.P m w∧KeepT B.W B.t0 a.tmps
variable {B:Hb} {P:List (Value×List V)}
variable {vs:Array Value} {us:List V} {k:Nat}
theorem Hold.start (hr:RdL m w vs.toList us) (hdat:us.all V.dat=true) (hl:us.length=k) (hk:k<=n) (hn1:n<=1000) (hj:E.J w) (hg:∀g,Rd m w (.pointer (some ⟨g,0,none⟩)) (E.G g)) {Kn:Kno} (hkn:Kn.P m w):
 Hold E n sz ⟨Kn,fun _=>true,#[],m,w⟩ [] (start us) {tmps:=vs++Array.replicate (n-vs.size) Go.undef,defers:=[]} w:=
 ⟨m,_,[],Now.first (fg hr hdat hl hk hn1 hj hg),.nil,fun _ h=>A07,fun _ h=>h.elim,Step.refl _ _ _,hkn,fun i hi=>by cases hi⟩
variable {f:FuncId} {fn:Func} {c:Code}
theorem ph {R:Value->World->Prop} (hf:E.P.funcs[f]?=some fn) (hb:fn.body=some c) (hn:fn.ntmps=n) (hk:k<=n) (hn1:n<=1000)
 (hr:RdL m w vs.toList us) (hdat:us.all V.dat=true) (hl:us.length=k) (hj:E.J w) (hg:∀g,Rd m w (.pointer (some ⟨g,0,none⟩)) (E.G g)) {Kn:Kno} (hkn:Kn.P m w)
 (hbody:∀a:Act,Hold E n sz ⟨Kn,fun _=>true,#[],m,w⟩ [] (start us) a w->c.wpIn (aX none) 0 E.P (fun e a' w'=>(e= .normal∨e= .ret)∧∃B' P' st' r,Hold E n sz B' P' st' a' w'∧B'.ms=m∧B'.ws=w∧dW E st' fn.results.toList=some r∧
  ∀v m' gs,Rd m' w' v r->Bed E.K sz m' w' P' gs->(∀g∈gs,w.heap.size<=g)->Step (fun _=>False) m w m' w'->B'.Kn.P m' w'->E.J w'->R v w') a w):
 Calls E.P f vs w fun e w'=>∃v,e= .returned v∧R v w':=by
 refine calls_of_wp hf hb ?_;rw[hn];refine wp_mono (wpIn_wide.1 (hbody _ (Hold.start hr hdat hl hk hn1 hj hg hkn))) ?_;rintro e a' w' ⟨he,B',P',st',r,⟨m1,O,gs,h1,h2,h3,h4,h5,h6,h7⟩,hms,hws,hres,hR⟩;have done:a'.defers=[]∧∃v,(results fn a'.tmps).run E.P w'= .ok v w'∧∃v',Ending.returned v= .returned v'∧R v' w':=by obtain⟨b,β,hrel⟩:=h1.rel;obtain⟨v,hv,hd⟩:=ft hrel hres;subst hms hws;exact⟨hrel.defers,v,hv,v,rfl,hR v m1 gs hd h2 (fun g hg=>(h3 g hg).2) h5 h6 h1.J⟩
 rcases he with rfl|rfl
 . exact done
 . exact done
end
section
variable {E:Env} {n sz:Nat} {B:Hb} {m m':Lim} {w w':World} {st:St} {a:Act} {O:Nat->Prop} {P:List (Value×List V)} {r:Option Nat}
variable {P:Program} {ops:List Oper} {Q:Exit->Act->World->Prop} {ps:List (Nat×Nat×Nat)}
theorem Hi (hm:P.follows .mixedOrders=true) (hok:jD ops ps=true) (J:Nat->Act->World->Prop)
 (hstep:∀p∈ps,∀(a:Act) (w:World) (K:Act->World->Prop),J p.1 a w->(∀a' w',J p.2.2 a' w'->K a' w')->wpOpIn (aX r) 0 P ⟨ops⟩ Q p.2.1 K a w) (hQ:∀a w,J (2^ops.length-1) a w->Q .normal a w) {id:Nat} (h0:J 0 a {w with drawn:=w.drawn+1}):(Code.region id ⟨ops⟩ true).wpIn (aX r) 0 P Q a w:=by
 refine wpIn_region_any hm ?_;simp only[jD,Zq] at hok;obtain⟨hpm,hS⟩:=hok;have hready:∀(L:Nat) (Ls:List Nat) (listed:Array Bool),listed.size=ops.length->(∀i,(listed.getD i false=true↔i∈Ls))->(∀i,i∈Ls↔L.testBit i=true)->∀i,i∈Region.ready .any ⟨ops⟩ listed↔i<ops.length∧bB ops L i=true:=by
  intro L Ls listed hsz hag hbit i;have hb:∀k,listed.getD k false=true↔L.testBit k=true:=fun k=>(hag k).trans (hbit k)
  rw[cb];constructor
  . rintro⟨h1,o,h2,h3⟩;have h2:ops[i]?=some o:=by simpa using h2
    have hlt:=aP h2;refine⟨hlt,?_⟩;rw[bJ (ops:=⟨ops⟩) hsz hlt] at h1;have hn:L.testBit i=false:=by
     cases hb':L.testBit i with
     |false=>rfl
     |true=>rw[(hb i).2 hb'] at h1;cases h1
    simp only[bB,hn,abR,aaY,h2,Zw];exact fun k hk=>(hb k).1 (h3 k hk)
  . rintro⟨hlt,hr⟩;simp only[bB,Zq,aaP] at hr;obtain⟨hn,hd⟩:=hr;split at hd
    case h_2=>cases hd
    rename_i o ho;refine⟨?_,o,by simpa using ho,fun k hk=>(hb k).2 (Zw.1 hd k hk)⟩;rw[bJ (ops:=⟨ops⟩) hsz hlt];cases hg:listed.getD i false with
    |false=>rfl
    |true=>rw[(hb i).1 hg] at hn;cases hn
 have hSL:∀L,(L=0∨∃p∈ps,p.2.2=L)->(L=2^ops.length-1∨∃i,i<ops.length∧bB ops L i=true)∧∀i,i<ops.length->bB ops L i=true->∃p∈ps,p.1=L∧p.2.1=i:=by
  intro L hL;have hm:L∈(0::ps.map fun p=>p.2.2):=by
   rcases hL with rfl|⟨p,hp,rfl⟩
   . simp
   . exact ZI _ (ZA.2 ⟨p,hp,rfl⟩)
  have:=Zw.1 hS L hm;simp only[Zq,aaG,beq_iff_eq,aaF,Zw,ZT] at this;refine⟨this.1,fun i hi hr=>?_⟩;have:=this.2 i hi;rw[hr] at this;simpa using this
 have key:∀(fuel L:Nat) (Ls:List Nat) (listed:Array Bool) (a:Act) (w:World),(L=0∨∃p∈ps,p.2.2=L)->listed.size=ops.length->(∀i,(listed.getD i false=true↔i∈Ls))->(∀i,i∈Ls↔L.testBit i=true)->
  ((List.range ops.length).filter fun j=> !Ls.contains j).length<=fuel->J L a w->wpAnyIn (aX r) 0 P .any ⟨ops⟩ Q fuel listed a w:=by
  intro fuel
  induction fuel with
  | zero=>
    intro L Ls listed a w hL hsz hag hbit hrem h;have hno:∀i,i<ops.length->i∈Ls:=fun i hi=>by
     have h0:((List.range ops.length).filter fun j=> !Ls.contains j)=[]:=abf.1 (Nat.le_zero.1 hrem);by_cases hm:i∈Ls
     . exact hm
     . have:i∈((List.range ops.length).filter fun j=> !Ls.contains j):=aaa.2 ⟨ZT.2 hi,by simpa using hm⟩;rw[h0] at this;cases this
    have hnr:∀i,i<ops.length->bB ops L i=false:=fun i hi=>by simp[bB,(hbit i).1 (hno i hi)]
    have hfull:L=2^ops.length-1:=by
     rcases(hSL L hL).1 with h1|⟨i,hi,hr⟩
     . exact h1
     . rw[hnr i hi] at hr;cases hr
    refine⟨?_,hQ a w (hfull▸h)⟩;rw[aa6];intro i hi;obtain⟨h1,h2⟩:=(hready L Ls listed hsz hag hbit i).1 hi;rw[hnr i h1] at h2;cases h2
  | succ f ih=>
    intro L Ls listed a w hL hsz hag hbit hrem h;refine⟨fun hr=>?_,fun i hi=>?_⟩
    . have hfull:L=2^ops.length-1:=by
       rcases(hSL L hL).1 with h1|⟨i,hi,hr'⟩
       . exact h1
       . have:=(hready L Ls listed hsz hag hbit i).2 ⟨hi,hr'⟩;rw[hr] at this;cases this
      exact hQ a w (hfull▸h)
    . obtain⟨hlt,hr⟩:=(hready L Ls listed hsz hag hbit i).1 hi;obtain⟨p,hp,hp1,hp2⟩:=(hSL L hL).2 i hlt hr;have hpe:=Zw.1 hpm p hp;rw[beq_iff_eq] at hpe;have hn:i∉Ls:=fun hm=>by simp only[bB,(hbit i).1 hm,abd,abG] at hr;cases hr
      have hst:=hstep p hp a w (fun a' w'=>wpAnyIn (aX r) 0 P .any ⟨ops⟩ Q f (listed.setIfInBounds i true) a' w') (hp1▸h) (fun a' w' h'=>by
       refine ih p.2.2 (i::Ls) _ a' w' (.inr ⟨p,hp,rfl⟩) A1f (fun j=>?_) (fun j=>?_) (by have:=gy hlt hn;omega) h'
       . by_cases e:j=i
         . subst e;rw[cU A0c];simp
         . rw[getD_set_ne _ (aaJ e),hag j];simp[e]
       . rw[hpe,hp1,hp2,abr,aa9,aaG,<-hbit j,ZE,ZV];constructor
         . rintro(rfl|h)
           . exact .inr rfl
           . exact .inl h
         . rintro(h|rfl)
           . exact .inr h
           . exact .inl rfl)
      rw[hp2] at hst;exact hst
 refine key _ 0 [] _ a _ (.inl rfl) A0l (fun i=>?_) (fun i=>by simp) ?_ h0
 . simp only[ZF,aa0];split<;>simp
 . exact ZL (aa2 _ _) A0l
variable {f:FuncId} {fn:Func} {c:Code} {F:List V->Option V} {k:Nat}
theorem uR (hf:E.P.funcs[f]?=some fn) (hb:fn.body=some c)
 (hcall:∀args w,(callFunc f args).run E.P w= .ok (.enter f args) w) (hn:fn.ntmps=n) (hk:k<=n) (hn1:n<=1000)
 (hbody:∀(us:List V) (r:V) (m:Lim) (w:World) (a:Act),F us=some r->us.all V.dat=true->(us.length=k->Hold E n sz ⟨Kno.top,fun _=>true,#[],m,w⟩ [] (start us) a w)->us.length=k∧
  c.wpIn (aX none) 0 E.P (fun e a' w'=>(e= .normal∨e= .ret)∧∃P' st',Hold E n sz ⟨Kno.top,fun _=>true,#[],m,w⟩ P' st' a' w'∧dW E st' fn.results.toList=some r) a w):Fun E f F:=by
 refine⟨hcall,fun m w vs us r hF hdat hr hj hg=>?_⟩;have hl:us.length=k:=(hbody us r m w {tmps:=vs++Array.replicate (n-vs.size) Go.undef,defers:=[]} hF hdat (fun hl=>Hold.start hr hdat hl hk hn1 hj hg trivial)).1;refine(ph (sz:=sz) (Kn:=Kno.top) (R:=fun v w'=>∃m',Rd m' w' v r∧Below w.heap.size w w'∧∀blk,blk<w.heap.size->m' blk=m blk) hf hb hn hk hn1 hr hdat hl hj hg trivial (fun a ha=>?_)).mono ?_
 . refine wpIn_mono (hbody us r m w a hF hdat (fun _=>ha)).2 ?_;rintro e a' w' ⟨he,P',st',ho,hres⟩;exact⟨he,_,P',st',r,ho,rfl,rfl,hres,fun v m' gs h1 _ _ h4 _ _=>⟨m',h1,h4.below (fun _ _ h=>h),fun k hk=>(h4.same k hk (fun h=>h)).2⟩⟩
 . rintro e w' ⟨v,rfl,m',h1,h2,h3⟩;exact⟨v,m',rfl,h1,h2,h3⟩
end
section
variable {E:Env} {n sz:Nat} {B:Hb} {m:Lim} {w:World} {st:St} {a:Act} {r:Option Nat}
variable {P:Program} {o:Oper} {t el:TypeId} {ρ:Operand->Value} {cap:Nat}
theorem lx {x ix:Operand} {g len:Nat} {k:IntKind} {i:Int} (ho:o.op= .indexAddr t x ix) (ht:P.underlying t=some (.slice el)) (hsz:aY P el=some sz) (hx:ρ x= .slice (some ⟨g,0,none⟩) len cap) (hix:ρ ix= .int k i) (h0:0<=i) (hl:i<len):
 (execOp ρ o).run P w= .ok (.value (.pointer (some ⟨g,i.toNat*sz,none⟩))) w:=by
 simp only[execOp,ho,hx,hix,Instr.indexAt,asIntOf,Sem.run_bind,Sem.run_pure,Result.andThen_ok,ax ht,Sem.run_ite];rw[Zp ⟨h0,hl⟩];simp only[bv hsz,Result.andThen_ok,aK,Zm]
end
section
variable {E:Env} {n:Nat} {B:Bs} {w:World} {st:St} {a:Act} {g:Nat} {ob:Obj}
theorem OneG.wrote (hE:EnvOK E) {w':World} {ob':Obj} (h:OneG E n B st a w g ob (some 0)) (hnd:∀l,ob≠ .deferred l) (hgs:B.ws.heap.size<=g) (hK:E.K<=g) (hb:Bel [g] w w') (hh:w'.heap[g]?=some ob'):OneG E n B st a w' g ob' (some 0):=by
 obtain⟨m,O,q1,q2,q3,q4,q5,q6,q7,q8,q9⟩:=h;have hs:Step (fun k=>k=g) m w m w':=by
  refine⟨hb.os,hb.tape,hb.output,⟨hb.size,fun b off v hlt hm hc=>?_,fun b hlt fr' hf=>⟨fr',hf,Zt _⟩,fun b es c hm hc=>(hb.block b (dF hc) (by intro e;rw[Zn.1 e,q9] at hm;cases hm)).trans hc⟩,fun k hk hn=>⟨hb.block k hk A0R,rfl⟩⟩;by_cases e:b=g
  . subst e;exact absurd (hm 0 q9) (abv _)
  . rw[aT (hb.block b hlt (by simpa using e))];exact hc
 have hJ:E.J w':=hE.keep [g] _ _ (fun x hx=>by rw[Zn.1 hx];exact hK) q1.J hb;refine⟨m,O,q1.other hs (fun k hk e=>q7 (e▸hk)) hJ,q2,q3.next hs (fun i hi e=>absurd hi (Z4.2 (e▸hgs))),⟨q4.nd,fun x hx=>?_⟩,B.Kn.mono _ _ _ _ q5 hs.ext,q6,q7,hh,q9⟩;obtain⟨b,rfl,r1,r2,r3⟩:=q4.is x hx;have hne:b≠g:=fun e=>by subst e;rw[r2] at q8;cases q8;exact hnd _ rfl
 exact⟨b,rfl,r1,(hs.same b (ae r2) hne).1.trans r2,r3⟩
theorem One.shedB {s sz tok:Nat} {es:List V} (hG:∀g,E.G g= .undef) (hMB:E.MB s=true) (hO:∀k,¬B.Os k) (hD:B.D=[]) (h:One E n B (am [(s,.ptr s 0)] [(s,[.sl false sz es (some tok)])]) a w):
 ∃(g cap:Nat) (cur:Array Value) (ty:TypeId) (m0:Lim),OneG E n {B with Kn:=Kno.top} (am [(s,.ptr s 0)] [(s,[.x (.slice (some ⟨g,0,none⟩) es.length cap)])]) a w g (.cells cur ty (0,0)) (some 0)∧es.length<=cap∧B.ws.heap.size<=g∧E.K<=g∧Rd m0 w (.slice (some ⟨g,0,none⟩) es.length cap) (.sl false sz es (some tok)):=by
 obtain⟨m,O,h1,h2,h3,h4,h5,h6⟩:=h;have hJ:=h1.J;obtain⟨⟨b,β,hr⟩,hlt⟩:=h1;have hb:(am [(s,.ptr s 0)] [(s,[.sl false sz es (some tok)])]).b s=some [.sl false sz es (some tok)]:=by simp only[am,tU,ai]
 have ht:(am [(s,.ptr s 0)] [(s,[.sl false sz es (some tok)])]).t s= .ptr s 0:=by simp only[am,bM,ai]
 obtain⟨⟨_,vals,ty1,xs,rest,hh,hx,hrd⟩,hge⟩:=hr.boxes s _ hb;obtain⟨v,rfl,hv⟩:∃v,xs=[v]∧Rd m w v (.sl false sz es (some tok)):=by
  match xs,hrd with
  |[v],hrd=>exact⟨v,rfl,hrd.1⟩
 have hv0:vals[0]?=some v:=by rw[<-ZG,hx];rfl
 obtain⟨ρ,hrw⟩:=hr.rows;have hbr:Bear E w β (am [(s,.ptr s 0)] [(s,[.sl false sz es (some tok)])]) (fun i=>a.tmps.getD i Go.undef) v (.sl false sz es (some tok)):= .inr ⟨s,_,0,hMB,hb,rfl,by rw[Box.cell hh];exact hv0⟩;obtain⟨lo,lim,cap,cur,ty,hval,hhg,hcap,hcs⟩:=hrw.row _ _ _ _ hbr;have hne:β s≠ρ tok:=hrw.box _ _ _ _ s _ hbr hb;generalize ρ tok=g at lo lim hval hhg hne;have own:∀{x:Nat} {o:Obj},w.heap[x]?=some o->(w.heap.size<=x∨x∈lst O w.heap.size)->O x:=fun {x o} hx hg=>by
  rcases hg with hg|hg
  . exact absurd (ae hx) (Z4.2 hg)
  . exact(bj.1 hg).2
 have hOs:O (β s):=own hh hge;have hOg:O g:=own hhg lo;have hlo:∀x,O x->B.ws.heap.size<=x:=fun x hx=>(h2 x hx).resolve_left (hO x)
 have hKs:∀x,O x->E.K<=x:=fun x hx=>hr.par.2.2 x (bj.2 ⟨hlt x hx,hx⟩)
 subst hval;have hS:Step B.Os B.ms B.ws (fun j=>if j<B.ws.heap.size then B.ms j else some 0) w:=by
  refine⟨h3.os,h3.tape,h3.output,⟨h3.ext.size,fun blk off v hb' _ hc=>?_,fun blk hb' fr hf=>⟨fr,by rw[Zp hb'] at hf;exact hf,Zt _⟩,fun blk e c _ hc=>?_⟩,fun j hj hn=>⟨(h3.same j hj hn).1,Zp hj⟩⟩
  . rw[aT (h3.same blk hb' (hO blk)).1];exact hc
  . rw[(h3.same blk (dF hc) (hO blk)).1];exact hc
 have hm0:∀x,O x->(fun j=>if j<B.ws.heap.size then B.ms j else some 0) x=some 0:=fun x hx=>Zs (Z4.2 (hlo x hx))
 have hb':∀k cs,(am [(s,.ptr s 0)] [(s,[.x (.slice (some ⟨g,0,none⟩) es.length cap)])]).b k=some cs->k=s∧cs=[.x (.slice (some ⟨g,0,none⟩) es.length cap)]:=fun k cs hk=>by
  simp only[am,tU] at hk;rw[aB] at hk;split at hk
  . rename_i e;cases hk;exact⟨e,rfl⟩
  . cases hk
 have ht':∀i,(am [(s,.ptr s 0)] [(s,[.x (.slice (some ⟨g,0,none⟩) es.length cap)])]).t i=if i=s then .ptr s 0 else .undef:=fun i=>by simp only[am,bM,aB]
 refine⟨g,cap,cur,ty,m,⟨_,fun k=>k=β s,⟨⟨β,β,⟨fun i=>?_,hr.size,fun k cs hk=>?_,fun k k' cs cs' hk hk' _=>?_,Bel.refl _ _,⟨hr.par.1,fun _ _=>rfl,fun x hx=>?_⟩,⟨fun _ _ _=>rfl,Ext.refl _ _,fun y hy=>hy⟩,⟨ρ,?_⟩,fun i k z len cs hi hk=>?_,hr.defers,fun j=>(by rw[hG];exact .undef _),hJ,⟨fun i k ks vs hi=>?_,fun i j k k' ks vs ks' vs' hi=>?_⟩⟩⟩,fun k hk=>(by rw[hk];exact ae hh)⟩,fun k hk=> .inr (by rw[hk];exact hlo _ hOs),hS,⟨by rw[hD];exact Z8,fun d hd=>by rw[hD] at hd;cases hd⟩,trivial,h6,fun e=>hne e.symm,hhg,hm0 g hOg⟩,hcap,hlo g hOg,hKs g hOg,hv⟩
 . rw[ht'];split
   . rename_i e;rw[e];have:=hr.tmps s;rw[ht] at this;rw[this.ptr];exact Rs.ofPtr _ _
   . exact .of (.undef _)
 . obtain⟨rfl,rfl⟩:=hb' k cs hk;exact⟨⟨hm0 _ hOs,vals,ty1,_,rest,hh,hx,⟨.x _,trivial⟩⟩,.inr (bj.2 ⟨ae hh,rfl⟩)⟩
 . rw[(hb' k cs hk).1,(hb' k' cs' hk').1]
 . obtain⟨_,rfl⟩:=bj.1 hx;exact hKs _ hOs
 . have no:∀v z l k,¬Bear E w β (am [(s,.ptr s 0)] [(s,[.x (.slice (some ⟨g,0,none⟩) es.length cap)])]) (fun i=>a.tmps.getD i Go.undef) v (.sl false z l (some k)):=by
    rintro v z l k (⟨i,hi,_⟩|⟨k',cs,j,_,hk,hj,_⟩)
    . rw[ht'] at hi;split at hi<;>cases hi
    . obtain⟨rfl,rfl⟩:=hb' _ _ hk;cases j with
      |zero=>cases hj
      |succ j=>simp at hj
   exact⟨fun v z l k h=>(no _ _ _ _ h).elim,fun v z l k _ _ _ _ h=>(no _ _ _ _ h).elim,fun v z l k _ _ h=>(no _ _ _ _ h).elim⟩
 . rw[ht'] at hi;split at hi<;>cases hi
 . rw[ht'] at hi;split at hi<;>cases hi
 . rw[ht'] at hi;split at hi<;>cases hi
variable {lg:Option Nat} {d:Tmp}
theorem OneG.putV (hd:d<n) (hWd:B.W d=true) (h:OneG E n B st a w g ob lg) {v:Value} {u:V} (hv:∀m,B.Kn.P m w->Rd m w v u):OneG E n B (st.put (some d) u.bare) (a.put (some d) v) w g ob lg:=by obtain⟨m,O,q1,q2,q3,q4,q5,q6,q7,q8,q9⟩:=h;exact⟨m,O,q1.put hd (hv m q5),q2,q3,q4,q5,q6.put (fun k e=>by cases e;exact hWd),q7,q8,q9⟩
variable {r:Option Nat}
theorem uS (hE:EnvOK E) (hm:E.P.follows .mixedOrders=true) {c:Code} {K:Out->St->Prop} (hok:aZ E.any n c=true) (hW:mz B.W c=true) (h:OneG E n B st a w g ob lg) (hr:run E c st K):
 c.wpIn (aX r) 0 E.P (fun e a' w'=>∃o st',d6 e=some o∧K o st'∧OneG E n B st' a' w' g ob lg) a w:=by
 obtain⟨m,O,h1,h2,h3,h4,h5,h6,h7,h8,h9⟩:=h;refine wpIn_mono (jg (r:=r) (W:=B.W) hE hm hok hW h1 hr) ?_;rintro e a' w' ⟨hk,o,st',m',ho,hK,hn,hs⟩;exact⟨o,st',ho,hK,OneG.grown h2 h3 h4 h5 (h6.trans hk) h7 h8 h9 hn hs⟩
theorem ii (hE:EnvOK E) (hm:E.P.follows .mixedOrders=true) {c:Code} (ts:List (Nat×V)) (bs:List (Nat×List V)) (hok:aZ E.any n c=true) (hW:mz B.W c=true) (h:OneG E n B st a w g ob lg) (hr:run E c st (o9 ts bs)) {Q:Exit->Act->World->Prop}
 (hQ:∀a' w',OneG E n B (am ts bs) a' w' g ob lg->Q .normal a' w'):c.wpIn (aX r) 0 E.P Q a w:=by
 refine wpIn_mono (uS hE hm hok hW h hr) ?_;rintro e a' w' ⟨o,st',ho,hK,ht⟩;cases o with
 |ret=>exact hK.elim
 |exit id=>exact hK.elim
 |normal=>cases e<;>simp only[d6,ZR,reduceCtorEq] at ho;exact hQ _ _ (ht.le (aG hK.1 hK.2))
theorem A5 (hE:EnvOK E) (hm:E.P.follows .mixedOrders=true) {c:Code} (id:Nat) (ts:List (Nat×V)) (bs:List (Nat×List V)) (hok:aZ E.any n c=true) (hW:mz B.W c=true) (h:OneG E n B st a w g ob lg) (hr:run E c st (yh id ts bs)) {Q:Exit->Act->World->Prop}
 (hQ:∀a' w',OneG E n B (am ts bs) a' w' g ob lg->Q (.exit id) a' w'):c.wpIn (aX r) 0 E.P Q a w:=by
 refine wpIn_mono (uS hE hm hok hW h hr) ?_;rintro e a' w' ⟨o,st',ho,hK,ht⟩;cases o with
 |ret=>exact hK.elim
 |normal=>exact hK.elim
 |exit i=>obtain⟨rfl,h1,h2⟩:=hK;cases e<;>simp only[d6,ZR,reduceCtorEq,Out.exit.injEq] at ho;subst ho;exact hQ _ _ (ht.le (aG h1 h2))
end
section
variable {E:Env} {n:Nat} {B:Bs} {w:World} {st:St} {a:Act} {g:Nat} {ob:Obj} {lg:Option Nat} {r:Option Nat} {P:Program}
variable {t:TypeId} {o:Oper} {ρ:Operand->Value} {p:Addr} {v:Value}
theorem bW {x:Operand} (ho:o.op= .load t x) (ha:aH P t=some false) (hx:ρ x= .pointer (some p)) (hc:w.cell? p=some v):(execOp ρ o).run P w= .ok (.value v) w:=by simp only[execOp,ho,hx,Instr.loadAt,Instr.sureAddr,loadVar,Sem.run_bind,Sem.run_pure,Result.andThen_ok,fk ha,ZK,Zz,run_load,hc]
variable {k b off:Nat}
theorem bC {x:Operand} {f:Nat} {off':Nat} {fs:Array Field} {fd:Field} (ho:o.op= .fieldAddr t x f) (ht:P.underlying t=some (.struct fs)) (hf:fs[f]?=some fd) (hn:aY P fd.type=some k) (hk:k≠0) (hx:ρ x= .pointer (some ⟨b,off,none⟩)) (he:off+fd.offset=off'):
 (execOp ρ o).run P w= .ok (.value (.pointer (some ⟨b,off',none⟩))) w:=by
 simp only[<-he,execOp,ho,hx,Instr.fieldAt,Sem.run_bind,ax ht,Result.andThen_ok,hf,Instr.sureAddr,fieldPlace,bv hn,hk,Zz,Sem.run_pure,aK]
theorem bh {x:Operand} (ho:o.op= .move x) (hx:ρ x=v):(execOp ρ o).run P w= .ok (.value v) w:=by simp only[execOp,ho,hx,Sem.run_pure]
variable {y:Operand} {vals:Array Value} {ty:TypeId}
theorem yS {x:Operand} {fz:Nat×Nat} (ho:o.op= .store t x y) (hs:aY P t=some 1) (hx:ρ x= .pointer (some ⟨b,off,none⟩)) (hy:ρ y=v) (hv:v.cells= #[v]) (hone:v.oneCell'=true)
 (hh:w.heap[b]?=some (.cells vals ty fz)) (hfz:fz.2=0∨vals.size<=fz.1) (hc:vals[off]?=some v):(execOp ρ o).run P w= .ok .skip w:=by
 have hlt:off<vals.size:=(abw.1 hc).1;have hst:=cN P b off ty fz [v] 0 vals w hh hfz A0C (fun u hu=>by rw[Zn.1 hu];exact hone);have h0:vals.toList[off]?=some v:=by rw[ZG];exact hc
 have he:(vals.toList.take (off+0)++[v]++vals.toList.drop (off+0+[v].length)).toArray=vals:=by
  apply aae.1;rw[List.toList_toArray];apply aaz;intro i;have:=gY (l:=vals.toList) (q:=[v]) (off:=off) A0C i;simp only[aai,aas] at this⊢;rw[this];split
  . rfl
  . split
    . have:i=off:=A0c
      subst this;rw[aco,h0];rfl
    . rfl
 rw[he,setRow_self w b vals ty fz hh] at hst;simp only[execOp,ho,hx,hy,Instr.storeAt,Instr.sureAddr,storeVar,Sem.run_bind,Sem.run_pure,Result.andThen_ok,bv hs,hv];rw[Zs A0l];rw[hst];rfl
theorem OneG.drew (hE:EnvOK E) (h:OneG E n B st a w g ob lg):OneG E n B st a {w with drawn:=w.drawn+1} g ob lg:=by obtain⟨m,O,q1,q2,q3,q4,q5,q6,q7,q8,q9⟩:=h;have hb:Below w.heap.size w {w with drawn:=w.drawn+1}:=⟨rfl,rfl,rfl,Zt _,fun _ _=>rfl⟩;have hs:Step (fun _=>False) m w m {w with drawn:=w.drawn+1}:=Step.of_below hb (fun _ _=>rfl);have hJ:E.J {w with drawn:=w.drawn+1}:=hE.keep [] _ _ (fun x hx=>by cases hx) q1.J (hs.bel (fun k _ e=>e.elim));exact⟨m,O,q1.other hs (fun _ _ h=>h) hJ,q2,q3.next hs (fun _ _ h=>h.elim),⟨q4.nd,q4.is⟩,B.Kn.mono _ _ _ _ q5 hs.ext,q6,q7,q8,q9⟩
theorem OneG.read_x (h:OneG E n B st a w g ob lg) (i:Nat) {v:Value} (hi:st.t i= .x v):a.tmps.getD i Go.undef=v:=by obtain⟨m,O,q1,_⟩:=h;exact q1.read_x i hi
variable {ops:List Oper} {Q:Exit->Act->World->Prop} {d:Tmp} {f:FuncId} {F:List V->Option V} {us:List V}
theorem yT {K:Act->World->Prop} {i:Nat} {args:Array Operand} {ts:Array TypeId} {r0:V} (hE:EnvOK E) (hi:ops[i]?=some o) (hop:o.op= .call {callee:= .value (.func f),args:=args,argTypes:=ts}) (hd:o.dst=some d) (hdn:d<n) (hWd:B.W d=true) (hg:o.guard=none)
 (hG:∀g,E.G g= .undef) (hF:Fun E f F) (hus:F us=some r0) (hdat:us.all V.dat=true) (h:OneG E n B st a w g ob lg) (hr:∀m,RdL m w (args.map a.eval).toList us)
 (hK:∀v w',OneG E n B (st.put (some d) r0.bare) (a.put (some d) v) w' g ob lg->K (a.put (some d) v) w'):wpOpIn (aX r) 0 E.P ⟨ops⟩ Q i K a w:=by
 obtain⟨m,O,q1,q2,q3,q4,q5,q6,q7,q8,q9⟩:=h;unfold wpOpIn;have hi':(⟨ops⟩:Array Oper)[i]?=some o:=A0m
 rw[hi'];simp only;rw[Zp A0u];refine⟨fun _ _=>trivial,?_⟩;rw[Oper.semAt_eq _ _ _ A0G];have hrun:(execOp a.eval o).run E.P w= .ok (.enter f (args.map a.eval)) w:=by simp only[execOp,hop,resolve,Sem.run_bind,Act.eval,Deferred.ofValue,Sem.run_pure,Result.andThen_ok,invoke];simpa using hF.1 _ _
 rw[hrun];have hc:=hF.2 m w (args.map a.eval) us r0 hus hdat (hr m) q1.J (fun g=>by rw[hG];exact .undef _);refine⟨(fun e=>by cases e),bH.2 (hc.mono ?_)⟩;rintro e w' ⟨v,m',rfl,hv,hb,hm⟩;show K (a.put o.dst v) w';rw[hd];have hs:Step (fun _=>False) m w m' w':=Step.of_below hb hm;have hJ:E.J w':=hE.keep [] _ _ (fun x hx=>by cases hx) q1.J (hs.bel (fun k _ e=>e.elim));have hsame:=hs.same g (ae q8) (fun h=>h);refine hK v w' ⟨m',O,(q1.other hs (fun _ _ h=>h) hJ).put hdn hv,q2,q3.next hs (fun _ _ h=>h.elim),⟨q4.nd,fun x hx=>?_⟩,B.Kn.mono _ _ _ _ q5 hs.ext,q6.put (fun k e=>by cases e;exact hWd),q7,hsame.1.trans q8,hsame.2.trans q9⟩;obtain⟨b,rfl,s1,s2,s3⟩:=q4.is x hx;exact⟨b,rfl,s1,(hs.same b (ae s2) (fun h=>h)).1.trans s2,s3⟩
theorem du {K:Act->World->Prop} {i:Nat} (hi:ops[i]?=some o) (hdef:∀c,o.op≠ .defer c) (hd:o.dst=some d) (hdn:d<n) (hWd:B.W d=true) (hg:o.guard=none) (h:OneG E n B st a w g ob lg) {v:Value} (hrun:(execOp a.eval o).run E.P w= .ok (.value v) w)
 (hK:OneG E n B (st.put (some d) (.x v)) (a.put (some d) v) w g ob lg->K (a.put (some d) v) w):wpOpIn (aX r) 0 E.P ⟨ops⟩ Q i K a w:=by
 unfold wpOpIn;have hi':(⟨ops⟩:Array Oper)[i]?=some o:=A0m
 rw[hi'];simp only;rw[Zp A0u];refine⟨fun _ _=>trivial,?_⟩;rw[Oper.semAt_eq _ _ _ hdef,hrun];show K (a.put o.dst v) w;rw[hd];have hp:=OneG.putV (d:=d) (v:=v) (u:= .x v) hdn hWd h (fun _ _=> .x _);rw[cM] at hp;exact hK hp
theorem yU {K:Act->World->Prop} {i:Nat} (hi:ops[i]?=some o) (hdef:∀c,o.op≠ .defer c) (hd:o.dst=none) (hg:o.guard=none) (hrun:(execOp a.eval o).run E.P w= .ok .skip w) (hK:K a w):wpOpIn (aX r) 0 E.P ⟨ops⟩ Q i K a w:=by
 unfold wpOpIn;have hi':(⟨ops⟩:Array Oper)[i]?=some o:=A0m
 rw[hi'];simp only;rw[Zp A0u];refine⟨fun _ _=>trivial,?_⟩;rw[Oper.semAt_eq _ _ _ hdef,hrun];show K (a.put o.dst undef) w;rw[hd];exact hK
def ce (ops:List Oper) (L k:Nat):Bool:=(List.range ops.length).any fun i=>L.testBit i&&match ops[i]? with|some o=>o.dst==some k|none=>false
def uT (st:St) (val:Nat->Value) (ops:List Oper) (L:Nat):St:=⟨fun k=>if ce ops L k=true then .x (val k) else st.t k,st.b⟩
theorem Tb (st:St) (val:Nat->Value) (ops:List Oper):uT st val ops 0=st:=by unfold uT ce;simp
variable {L:Nat}
theorem mK {i:Nat} (hi:ops[i]?=some o):ce ops (L|||2^i) k=(ce ops L k||(o.dst==some k)):=by
 have hlt:=(tl.1 hi).1;rw[abc];unfold ce;simp only[aaG,aaF,ZT,Zq,abr,aa9,ZV];constructor
 . rintro⟨j,hj,h1|h1,h2⟩
   . exact .inl ⟨j,hj,h1,h2⟩
   . subst h1;rw[hi] at h2;exact .inr h2
 . rintro(⟨j,hj,h1,h2⟩|h)
   . exact⟨j,hj,.inl h1,h2⟩
   . exact⟨i,hlt,.inr rfl,by rw[hi];exact h⟩
theorem Ld {i:Nat} {val:Nat->Value} (hi:ops[i]?=some o):Le (uT st val ops (L|||2^i)) (match o.dst with|some d=>(uT st val ops L).put (some d) (.x (val d))|none=>uT st val ops L):=by
 cases hd:o.dst with
 | none=>
   have e:uT st val ops (L|||2^i)=uT st val ops L:=by unfold uT;congr 1;funext k;rw[mK hi,hd];simp
   rw[e];exact Le.refl _
 | some d=>
   refine⟨fun k=> .inr (.inl ?_),fun s cs h=>⟨cs,h,fp cs⟩⟩;show(if ce ops (L|||2^i) k=true then V.x (val k) else st.t k)=upd (uT st val ops L).t d (.x (val d)) k;rw[mK hi,hd,aB];by_cases e:k=d
   . subst e;simp
   . have e':(some d==some k)=false:=by simpa using fun h=>e h.symm
     rw[Zs e,e',ab2];rfl
variable {ps:List (Nat×Nat×Nat)}
theorem Hj (hE:EnvOK E) (hm:E.P.follows .mixedOrders=true) (hok:jD ops ps=true) (val:Nat->Value) (need:Nat->List Nat) (hps:(ps.all fun p=>decide (p.2.1<ops.length)&&(need p.2.1).all (ce ops p.1))=true)
 (hstep:∀(i:Nat) (o:Oper) (L:Nat) (a:Act) (w:World) (K:Act->World->Prop),ops[i]?=some o->OneG E n B (uT st val ops L) a w g ob lg->(∀k∈need i,a.tmps.getD k Go.undef=val k)->(∀a' w',OneG E n B (match o.dst with|some d=>(uT st val ops L).put (some d) (.x (val d))|none=>uT st val ops L) a' w' g ob lg->K a' w')->wpOpIn (aX r) 0 E.P ⟨ops⟩ Q i K a w)
 (hQ:∀a w,OneG E n B (uT st val ops (2^ops.length-1)) a w g ob lg->Q .normal a w) {id:Nat} (h:OneG E n B st a w g ob lg):(Code.region id ⟨ops⟩ true).wpIn (aX r) 0 E.P Q a w:=by
 refine Hi hm hok (fun L a w=>OneG E n B (uT st val ops L) a w g ob lg) ?_ hQ (by simp only[Tb];exact h.drew hE);intro p hp a w K hJ hK;have h1:=Zw.1 hps p hp;simp only[Zq,ZV,Zw] at h1;obtain⟨hlt,hn⟩:=h1;have hpe:p.2.2=p.1|||2^p.2.1:=by have hok:=hok;unfold jD at hok;simp only[Zq,Zw] at hok;exact eq_of_beq (hok.1 p hp)
 refine hstep p.2.1 ops[p.2.1] p.1 a w K (eq hlt) hJ (fun k hk=>hJ.read_x k ?_) (fun a' w' h'=>hK a' w' ?_)
 . show(if ce ops p.1 k=true then V.x (val k) else st.t k)=_;rw[Zp (hn k hk)]
 . rw[hpe];exact h'.le (Ld (eq hlt))
end
def HoldH (E:Env) (n:Nat) (B:Hb) (H:Nat->Option Obj) (st:St) (a:Act) (w:World):Prop:=
 ∃m O,Now E n [] O m st a w∧(∀g ob,H g=some ob-> ¬O g∧w.heap[g]?=some ob∧m g=some 0∧B.ws.heap.size<=g∧E.K<=g)∧(∀k,O k->B.ws.heap.size<=k)∧Step (fun _=>False) B.ms B.ws m w∧B.Kn.P m w∧KeepT B.W B.t0 a.tmps
section
variable {E:Env} {n sz:Nat} {B:Hb} {H H':Nat->Option Obj} {m m':Lim} {w w':World} {st:St} {a:Act} {O:Nat->Prop} {r:Option Nat}
theorem HoldH.of (h:Hold E n sz B [] st a w):HoldH E n B (fun _=>none) st a w:=by obtain⟨m,O,gs,h1,h2,h3,h4,h5,h6,h7⟩:=h;exact⟨m,O,h1,fun g ob e=>(by cases e),h4,h5,h6,h7⟩
variable {st':St}
theorem HoldH.le (h:HoldH E n B H st a w) (hl:Le st' st):HoldH E n B H st' a w:=by obtain⟨m,O,h1,h2⟩:=h;exact⟨m,O,h1.le hl,h2⟩
theorem HoldH.at (h:HoldH E n B H st a w) {g:Nat} {ob:Obj} (hg:H g=some ob):w.heap[g]?=some ob:=by obtain⟨m,O,_,h2,_⟩:=h;exact(h2 g ob hg).2.1
theorem HoldH.read_x (h:HoldH E n B H st a w) (i:Nat) {v:Value} (hi:st.t i= .x v):a.tmps.getD i Go.undef=v:=by obtain⟨m,O,q1,_⟩:=h;exact q1.read_x i hi
theorem HoldH.read (h:HoldH E n B H st a w) (i:Nat) {u:V} (hi:st.t i=u) (hu:u.dat=true):∃m,Rd m w (a.tmps.getD i Go.undef) u:=by obtain⟨m,O,q1,_⟩:=h;exact⟨m,dJ q1 i hi hu⟩
theorem HoldH.grown {a':Act} (h2:∀g ob,H g=some ob-> ¬O g∧w.heap[g]?=some ob∧m g=some 0∧B.ws.heap.size<=g∧E.K<=g) (h4:∀k,O k->B.ws.heap.size<=k) (h5:Step (fun _=>False) B.ms B.ws m w) (h6:B.Kn.P m w) (hkt:KeepT B.W B.t0 a'.tmps)
 (hn:Now E n [] (o8 O w w') m' st' a' w') (hs:Step O m w m' w'):HoldH E n B H st' a' w':=by
 refine⟨m',_,hn,fun g ob hg=>?_,fun k hg=>?_,h5.next hs (fun i hi ho=>absurd hi (Z4.2 (h4 i ho))),B.Kn.mono _ _ _ _ h6 hs.ext,hkt⟩
 . obtain⟨q1,q2,q3,q4,q5⟩:=h2 g ob hg;obtain⟨s1,s2⟩:=hs.same g (ae q2) q1;refine⟨fun hgr=>?_,s1.trans q2,s2.trans q3,q4,q5⟩;rcases hgr.2 with ho|ho
   . exact q1 ho
   . exact absurd (ae q2) (Z4.2 ho)
 . rcases hg.2 with ho|ho
   . exact h4 k ho
   . exact ZL h5.ext.size ho
theorem Hk (hE:EnvOK E) (hm:E.P.follows .mixedOrders=true) {c:Code} {K:Out->St->Prop} (hok:aZ E.any n c=true) (hW:mz B.W c=true) (h:HoldH E n B H st a w) (hr:run E c st K):
 c.wpIn (aX r) 0 E.P (fun e a' w'=>∃o st',d6 e=some o∧K o st'∧HoldH E n B H st' a' w') a w:=by
 obtain⟨m,O,h1,h2,h4,h5,h6,h7⟩:=h;refine wpIn_mono (jg (r:=r) (W:=B.W) hE hm hok hW h1 hr) ?_;rintro e a' w' ⟨hk,o,st',m',ho,hK,hn,hs⟩;exact⟨o,st',ho,hK,HoldH.grown h2 h4 h5 h6 (h7.trans hk) hn hs⟩
theorem fK (hE:EnvOK E) (hm:E.P.follows .mixedOrders=true) {c:Code} (ts:List (Nat×V)) (bs:List (Nat×List V)) (hok:aZ E.any n c=true) (hW:mz B.W c=true) (h:HoldH E n B H st a w) (hr:run E c st (o9 ts bs)) {Q:Exit->Act->World->Prop}
 (hQ:∀a' w',HoldH E n B H (am ts bs) a' w'->Q .normal a' w'):c.wpIn (aX r) 0 E.P Q a w:=by
 refine wpIn_mono (Hk hE hm hok hW h hr) ?_;rintro e a' w' ⟨o,st',ho,hK,ht⟩;cases o with
 |ret=>exact hK.elim
 |exit id=>exact hK.elim
 |normal=>cases e<;>simp only[d6,ZR,reduceCtorEq] at ho;exact hQ _ _ (ht.le (aG hK.1 hK.2))
theorem Lf (hE:EnvOK E) (hm:E.P.follows .mixedOrders=true) {c:Code} (id:Nat) (ts:List (Nat×V)) (bs:List (Nat×List V)) (hok:aZ E.any n c=true) (hW:mz B.W c=true) (h:HoldH E n B H st a w) (hr:run E c st (yh id ts bs)) {Q:Exit->Act->World->Prop}
 (hQ:∀a' w',HoldH E n B H (am ts bs) a' w'->Q (.exit id) a' w'):c.wpIn (aX r) 0 E.P Q a w:=by
 refine wpIn_mono (Hk hE hm hok hW h hr) ?_;rintro e a' w' ⟨o,st',ho,hK,ht⟩;cases o with
 |ret=>exact hK.elim
 |normal=>exact hK.elim
 |exit i=>obtain⟨rfl,h1,h2⟩:=hK;cases e<;>simp only[d6,ZR,reduceCtorEq,Out.exit.injEq] at ho;subst ho;exact hQ _ _ (ht.le (aG h1 h2))
theorem A6 (hE:EnvOK E) {ops:List Oper} {Q:Exit->Act->World->Prop} {K:Act->World->Prop} {i:Nat} {o:Oper} {st1:St} (hi:ops[i]?=some o) (hd:bl n [o]=true) (hW:mE B.W ops=true) (h:HoldH E n B H st a w) (h1:gv E ⟨ops⟩ o st=some st1)
 (hK:∀a' w',HoldH E n B H st1 a' w'->K a' w'):wpOpIn (aX r) 0 E.P ⟨ops⟩ Q i K a w:=by
 obtain⟨m,O,q1,q2,q4,q5,q6,q7⟩:=h;have hlt:=q1.lt;obtain⟨b,β,hrel⟩:=q1.rel;have hi1:(⟨ops⟩:Array Oper)[i]?=some o:=A0m
 have hwp:wpOpIn (aX r) 0 E.P ⟨ops⟩ Q i (fun a' w'=>HoldH E n B H st1 a' w'∨(∃m' β',Rel E n ⟨lst O w.heap.size,b,lst O w.heap.size,[]⟩ m w m' β' st1 a' w')) a w:=dh (hE.x (.inr (fun _ h=>h))) hrel hi1 (c8 hd A0l) h1 (fun a' w' m' β' hr'=> .inr ⟨m',β',hr'⟩);have hkeep:=ex (W:=B.W) (t:=B.t0) (by simpa using hW) q7 (K':=fun a' w'=>HoldH E n B H st1 a' w') (fun a' w' hK' hkt=>by
  rcases hK' with hK'|⟨m',β',hr'⟩
  . exact hK'
  . obtain⟨hn,hst⟩:=Now.of_rel hE hlt hr';exact HoldH.grown q2 q4 q5 q6 hkt hn hst) hwp
 exact iR (fun a' w' h'=>hK a' w' h') (fun e a' w' h'=>h'.1) hkeep
theorem Hl (hE:EnvOK E) {ops:List Oper} {Q:Exit->Act->World->Prop} (ts:List (Nat×V)) (bs:List (Nat×List V)) (rest:List Nat):∀(l:List Oper) (is:List Nat) (st:St) (a:Act) (w:World),(is.map fun i=>ops[i]?)=l.map some->bl n l=true->mE B.W ops=true->
 HoldH E n B H st a w->(bw E ⟨ops⟩ l st fun st'=>fH st' ts∧fX st' bs)->(∀a' w',HoldH E n B H (am ts bs) a' w'->wpOpsIn (aX r) 0 E.P ⟨ops⟩ Q rest a' w')->wpOpsIn (aX r) 0 E.P ⟨ops⟩ Q (is++rest) a w
 |[],[],st,a,w,_,_,_,h,hr,hK=>hK a w (h.le (aG hr.1 hr.2))
 |[],i::is,st,a,w,hi,_,_,h,hr,hK=>by simp at hi
 |o::l,[],st,a,w,hi,_,_,h,hr,hK=>by simp at hi
 | o ::l,i::is,st,a,w,hi,hd,hWo,h,hr,hK=>by
   rw[aan,wpOpsIn_cons];simp only[ZN,Z2] at hi;obtain⟨st',hs,hl,hb⟩:=cF _ _ hr;unfold dY at hs;split at hs
   . rename_i st1 h1;have hd1:bl n [o]=true:=by simp only[bl,aap,acn,Zq,abe] at hd⊢;exact hd.1
     have hdl:bl n l=true:=by simp only[bl,aap,Zq] at hd;exact hd.2
     exact A6 hE hi.1 hd1 hWo h h1 (fun a' w' h'=>Hl hE ts bs rest l is st1 a' w' hi.2 hdl hWo h' (gw _ _ hs ⟨hl,hb⟩) hK)
   . cases hs
theorem rG (hE:EnvOK E) {ops:List Oper} {Q:Exit->Act->World->Prop} (k j:Nat) (ts:List (Nat×V)) (bs:List (Nat×List V)) (rest:List Nat) (hl:k+j<=ops.length) (hd:bl n ((ops.drop k).take j)=true) (hW:mE B.W ops=true)
 (h:HoldH E n B H st a w) (hr:bw E ⟨ops⟩ ((ops.drop k).take j) st fun st'=>fH st' ts∧fX st' bs) (hK:∀a' w',HoldH E n B H (am ts bs) a' w'->wpOpsIn (aX r) 0 E.P ⟨ops⟩ Q rest a' w'):wpOpsIn (aX r) 0 E.P ⟨ops⟩ Q (List.range' k j++rest) a w:=
 Hl hE ts bs rest _ _ st a w (jh ops k j hl) hd hW h hr hK
variable {d:Tmp}
theorem HoldH.put (hd:d<n) (hWd:B.W d=true) (h:HoldH E n B H st a w) {v:Value} {u:V} (hv:∀m,B.Kn.P m w->Rd m w v u):HoldH E n B H (st.put (some d) u.bare) (a.put (some d) v) w:=by obtain⟨m,O,q1,q2,q4,q5,q6,q7⟩:=h;exact⟨m,O,q1.put hd (hv m q6),q2,q4,q5,q6,q7.put (fun k e=>by cases e;exact hWd)⟩
theorem HoldH.putX (hd:d<n) (hWd:B.W d=true) (h:HoldH E n B H st a w) (v:Value):HoldH E n B H (st.put (some d) (.x v)) (a.put (some d) v) w:=by
 have:=h.put hd hWd (v:=v) (u:= .x v) (fun _ _=> .x _)
 rwa [cM] at this
theorem HoldH.know (hd:d<n) (h:HoldH E n B H st a w) {u:V} (hv:∀m,B.Kn.P m w->Rd m w (a.tmps.getD d Go.undef) u):HoldH E n B H (st.put (some d) u.bare) a w:=by obtain⟨m,O,q1,q2,q4,q5,q6,q7⟩:=h;have hp:=q1.put hd (hv m q6);rw[nJ] at hp;exact⟨m,O,hp,q2,q4,q5,q6,q7⟩
theorem HoldH.learn {Kn':Kno} (h:HoldH E n B H st a w) (hk:∀m O,Now E n [] O m st a w->B.Kn.P m w->Kn'.P m w):HoldH E n {B with Kn:=Kn'} H st a w:=by obtain⟨m,O,q1,q2,q4,q5,q6,q7⟩:=h;exact⟨m,O,q1,q2,q4,q5,hk m O q1 q6,q7⟩
theorem HoldH.wrote (hE:EnvOK E) (h:HoldH E n B H st a w) (hos:w'.os=w.os) (htp:w'.tape=w.tape) (hou:w'.output=w.output) (hsz:w.heap.size<=w'.heap.size) (hb:∀k,k<w.heap.size->H k=none->w'.heap[k]?=w.heap[k]?) (hH:∀g ob,H' g=some ob->w'.heap[g]?=some ob∧(H g≠none∨w.heap.size<=g)):HoldH E n B H' st a w':=by
 obtain⟨m,O,q1,q2,q4,q5,q6,q7⟩:=h;have hne:∀k,O k->H k=none:=fun k hk=>by
  cases e:H k with
  |none=>rfl
  |some ob=>exact absurd hk (q2 k ob e).1
 have hs:Step (fun k=>H k≠none) m w (fun j=>if w.heap.size<=j then some 0 else m j) w':=by
  refine⟨hos,htp,hou,⟨hsz,fun b off v hlt hm hc=>?_,fun b hlt fr' hf=>?_,fun b es c hm hc=>?_⟩,fun k hk hn=>⟨hb k hk A0R,Zs (abh.2 hk)⟩⟩
  . cases e:H b with
    |none=>rw[aT (hb b hlt e)];exact hc
    |some ob=>exact absurd (hm 0 (q2 b ob e).2.2.1) (abv _)
  . rw[Zs (abh.2 hlt)] at hf;exact⟨fr',hf,Zt _⟩
  . cases e:H b with
    |none=>rw[hb b (dF hc) e];exact hc
    |some ob=>rw[(q2 b ob e).2.2.1] at hm;cases hm
 have hJ:E.J w':=hE.keep ((List.range w.heap.size).filter fun k=>(H k).isSome) _ _ (fun x hx=>by
  obtain⟨ob,e⟩:=aca.1 (aaa.1 hx).2
  exact(q2 x ob e).2.2.2.2) q1.J (hs.bel (fun k hk e=>aaa.2 ⟨ZT.2 hk,by cases e':H k with
   |none=>exact absurd e' e
   |some _=>rfl⟩))
 have hK:E.K<=w.heap.size:=hE.high _ q1.J;refine⟨_,O,q1.other hs (fun k hk e=>e (hne k hk)) hJ,fun g ob hg=>?_,q4,q5.next hs (fun i hi e=>?_),B.Kn.mono _ _ _ _ q6 hs.ext,q7⟩
 . obtain⟨h1,h2⟩:=hH g ob hg;rcases h2 with h2|h2
   . cases e:H g with
     |none=>exact absurd e h2
     |some ob'=>obtain⟨s1,s2,s3,s4,s5⟩:=q2 g ob' e;exact⟨s1,h1,by rw[Zs (abh.2 (ae s2))];exact s3,s4,s5⟩
   . exact⟨fun ho=>absurd (q1.lt g ho) (Z4.2 h2),h1,Zp h2,ZL q5.ext.size h2,ZL hK h2⟩
 . cases e':H i with
   |none=>exact absurd e' e
   |some ob=>exact absurd hi (Z4.2 (q2 i ob e').2.2.2.1)
theorem HoldH.done (h:HoldH E n B H st a w) {v:Value} {u:V} (hv:∀m,(∀g,H g≠none->m g=none)->B.Kn.P m w->Rd m w v u):Hold E n sz {B with Kn:=Kno.rd v u} [] st a w:=by
 obtain⟨m,O,q1,q2,q4,q5,q6,q7⟩:=h;have hne:∀k,O k->H k=none:=fun k hk=>by
  cases e:H k with
  |none=>rfl
  |some ob=>exact absurd hk (q2 k ob e).1
 have hs:Step (fun k=>H k≠none) m w (fun j=>if H j=none then m j else none) w:=by
  refine⟨rfl,rfl,rfl,⟨Zt _,fun b off v hlt hm hc=>hc,fun b hlt fr' hf=>?_,fun b es c hm hc=>hc⟩,fun k hk hn=>⟨rfl,Zp A0R ⟩⟩;split at hf
  . exact⟨fr',hf,Zt _⟩
  . cases hf
 refine⟨_,O,[],q1.other hs (fun k hk e=>e (hne k hk)) q1.J,.nil,fun _ h=>A07,q4,q5.next hs (fun i hi e=>?_),hv _ (fun g hg=>Zs hg) (B.Kn.mono _ _ _ _ q6 hs.ext),q7⟩;cases e':H i with
 |none=>exact absurd e' e
 |some ob=>exact absurd hi (Z4.2 (q2 i ob e').2.2.2.1)
theorem HoldH.drew (hE:EnvOK E) (h:HoldH E n B H st a w):HoldH E n B H st a {w with drawn:=w.drawn+1}:=
 h.wrote hE rfl rfl rfl (Zt _) (fun _ _ _=>rfl) (fun g ob e=>⟨h.at e,.inl (by rw[e];exact fun h=>by cases h)⟩)
end
section
variable {P:Program} {m:Lim} {w:World} {ρ:Operand->Value} {o:Oper}
variable {p:Addr}
theorem cW {x:Operand} (ho:o.op= .nilCheck x) (hx:ρ x= .pointer (some p)):(execOp ρ o).run P w= .ok (.value (.pointer (some p))) w:=by simp[execOp,ho,hx]
variable {t el:TypeId} {cap:Nat}
theorem Hm {x:Operand} {a:Option Addr} {len:Nat} (ho:o.op= .call {callee:= .builtin .len,args:= #[x],argTypes:= #[t]}) (hu:P.underlying t=some (.slice el)) (hx:ρ x= .slice a len cap):(execOp ρ o).run P w= .ok (.value (.int .i64 (len:Int))) w:=by simp[execOp,ho,resolve,invoke,builtin,Builtin.len_,hx,ax hu,goInt]
theorem uU {x:Operand} (ho:o.op= .box t x):(execOp ρ o).run P w= .ok (.value (.pointer (some ⟨w.heap.size,0,none⟩))) (w.alloc (.cells (ρ x).cells t)):=by simp only[execOp,ho,Instr.box,Sem.run_bind,Result.andThen_ok,newVar,newRow,run_newObj,Sem.run_pure];rfl
theorem Ho (ho:o.op= .makeMap t none):(execOp ρ o).run P w= .ok (.value (.map (some w.heap.size))) (w.alloc (.map #[] 0)):=by simp only[execOp,ho,abk,Sem.run_bind,Sem.run_pure,Result.andThen_ok,Instr.makeMap,run_newObj];rfl
variable {y:Operand} {zv:Value}
theorem ly {x:Operand} {i:TypeInfo} {k:IntKind} {l:Int} (ho:o.op= .makeSlice t x y) (hu:P.underlying t=some (.slice el)) (hi:P.info? el=some i) (hz:i.zero=some zv) (hx:ρ x= .int k l) (hy:ρ y= .int k l) (h0:0<=l) (hb:(i.bytes:Int)*l<=281474976710656) (hm:l<=9223372036854775807):
 (execOp ρ o).run P w= .ok (.value (.slice (some ⟨w.heap.size,0,none⟩) l.toNat l.toNat)) (w.alloc (.cells (madeCells zv.cells (l.toNat*i.size)) el)):=by
 have hrun:=run_make (P:=P) w t el i zv hu hi hz k k l l h0 (aa5 _) hb hm;simp only[execOp,ho,Sem.run_bind,hx,hy,hrun,Result.andThen_ok,Sem.run_pure]
variable {b off:Nat} {v:Value} {vals:Array Value} {ty:TypeId}
theorem kz {x:Operand} (ho:o.op= .store t x y) (hs:aY P t=some 1) (hx:ρ x= .pointer (some ⟨b,off,none⟩)) (hy:ρ y=v) (hv:v.cells= #[v]) (hone:v.oneCell'=true)
 (hh:w.heap[b]?=some (.cells vals ty (0,0))) (hc:off<vals.size):(execOp ρ o).run P w= .ok .skip (w.setRow b (vals.set! off v)):=by
 have hst:=cN P b off ty (0,0) [v] 0 vals w hh (.inl rfl) A0C (fun u hu=>by rw[Zn.1 hu];exact hone);have he:(vals.toList.take (off+0)++[v]++vals.toList.drop (off+0+[v].length)).toArray=vals.set! off v:=by
  apply aae.1;rw[List.toList_toArray];apply aaz;intro i;have:=gY (l:=vals.toList) (q:=[v]) (off:=off) A0C i;simp only[aai,aas] at this⊢;rw[this];simp only[Array.set!_eq_setIfInBounds,ab3,ZU];split
  . rw[Zs A0c]
  . split
    . have e:i=off:=A0c
      subst e;rw[Zp rfl,Zp (by simpa using hc),aco];rfl
    . rw[Zs A0c]
 rw[he] at hst;simp only[execOp,ho,hx,hy,Instr.storeAt,Instr.sureAddr,storeVar,Sem.run_bind,Sem.run_pure,Result.andThen_ok,bv hs,hv];rw[Zs A0l];rw[hst];rfl
def blkOf:Value->Option Nat
 | .slice (some a) _ _=>some a.block
 |_=>none
def RowI (H:Nat->Option Obj) (v:Value) (es:List Int):Prop:=
 (es=[]∧v= .slice none 0 0)∨∃(g cap:Nat) (cur:Array Value) (ty:TypeId),es≠[]∧v= .slice (some ⟨g,0,none⟩) es.length cap∧H g=some (.cells cur ty (0,0))∧es.length<=cap∧cur.size=cap∧∀j:Nat,∀i:Int,es[j]?=some i->cur[j]?=some (.int .i64 i)
def RowJ (H:Nat->Option Obj) (v:Value) (es:List Int):Prop:=
 (es=[]∧v= .slice none 0 0)∨∃(g cap:Nat) (cur:Array Value) (ty:TypeId),v= .slice (some ⟨g,0,none⟩) es.length cap∧H g=some (.cells cur ty (0,0))∧es.length<=cap∧cur.size=cap∧∀j:Nat,∀i:Int,es[j]?=some i->cur[j]?=some (.int .i64 i)
variable {H:Nat->Option Obj} {es:List Int}
theorem RowI.j (h:RowI H v es):RowJ H v es:=h.imp id fun⟨g,cap,cur,ty,_,h⟩=>⟨g,cap,cur,ty,h⟩
theorem RowJ.i (h:RowJ H v es) (hne:es≠[]):RowI H v es:=h.imp id fun⟨g,cap,cur,ty,h⟩=>⟨g,cap,cur,ty,hne,h⟩
theorem uV {i:TypeInfo} (hu:P.underlying t=some (.slice el)) (hi:P.info? el=some i) (hs:i.size=1) (hz:i.zero=some zv) (hzv:zv.cells.size=1) (hby:i.bytes=8) {H:Nat->Option Obj} {v y:Value} {es:List Int} {x:Int} (hr:RowJ H v es) (hw:∀g ob,H g=some ob->w.heap[g]?=some ob) (hy:Rd m w y (.sl false 1 [.x (.int .i64 x)] none)) (hlen:es.length+1<=100000000):
 ∃(v':Value) (w':World) (g:Nat) (ob:Obj),(Builtin.append_ #[t,t] ty #[v,y]).run P w= .ok v' w'∧w'.os=w.os∧w'.tape=w.tape∧w'.output=w.output∧w.heap.size<=w'.heap.size∧blkOf v'=some g∧w'.heap[g]?=some ob∧(∀k,k<w.heap.size->k≠g->w'.heap[k]?=w.heap[k]?)∧(blkOf v=some g∨w.heap.size<=g)∧∀H',H' g=some ob->RowJ H' v' (es++[x]):=by
 obtain⟨cs,hS⟩:=EU (P:=P) (t:=t) (el:=el) hu hi hy (.inl hs.symm);have hflat:=hS.flat;have hcs:cs=[.int .i64 x]:=by
  have hl:=hflat.len;simp only[ZB,Z5,hs] at hl
  match cs,hl with
  |[c],_=>obtain⟨c',hc,hr⟩:=(hflat.each 0 _ rfl).2 0 _ rfl;simp only[acm,Zm] at hc;cases hc;rw[Rd.x_iff.1 hr]
 subst hcs;have hsnoc:∀(l:List Value),l.length=es.length->(∀(j:Nat) (n:Int),es[j]?=some n->l[j]?=some (.int .i64 n))->∀(r:List Value) (j:Nat) (n:Int),(es++[x])[j]?=some n->(l++[.int .i64 x]++r)[j]?=some (.int .i64 n):=fun l hl h r j n hj=>by
  by_cases hlt:j<es.length
  . rw[Zy hlt] at hj;rw[aam,Zy A0c];exact h j n hj
  . rw[ZQ A0c] at hj;have e:j=es.length:=by have:=(tl.1 hj).1;simp at this;omega
    subst e;rw[aco] at hj;cases hj;rw[aam,ZQ A0c,hl,aco];rfl
 rcases hr with⟨rfl,rfl⟩|⟨g,cap,cur,tyc,rfl,hg,hcap,hsz,hc⟩
 . have hrun:=hS.nil A0l ty zv hz A0l A0l (by rw[hby];simp);have hge:=grownCap_ge w [V.x (.int .i64 x)].length 0 el;simp only[ZB,Z5,Zm] at hrun hge;refine⟨_,_,w.heap.size,_,hrun,rfl,rfl,rfl,?_,rfl,World.heap_new w.drew _,fun k hk _=>Below.heap_alloc w.drew _ k hk,.inr (Zt _),fun H' h'=>?_⟩
   . exact Nat.le_of_lt (ae (World.heap_new w.drew _))
   . refine .inr ⟨_,_,_,_,rfl,h',by simpa using hge,?_,fun j n hj=>?_⟩
     . simp only[abs,size_zeroCells,hzv,aaX,ZB,Z5];omega
     . have:=hsnoc [] rfl (fun j n hj=>by simp at hj) (Builtin.zeroCells zv.cells (grownCap w 1 0 el-1)).toList j n hj;rw[<-ZG];simpa using this
 . have hh:=hw g _ hg;have hlt:=ae hh;have hold:∀(j:Nat) (n:Int),es[j]?=some n->(cur.toList.take es.length)[j]?=some (.int .i64 n):=fun j n hj=>by rw[Z9,Zp (tl.1 hj).1,ZG];exact hc j n hj
   have holdl:(cur.toList.take es.length).length=es.length:=by rw[ZS];exact aaW (by rw[show cur.toList.length=cur.size from ZH];omega)
   by_cases hroom:es.length+1<=cap
   . have hrun:=hS.room ty g es.length cap cur (.plain tyc) hh (fun u hu=>by rw[Zn.1 hu];rfl) hroom (by simp only[hs,Zx,ZB,Z5];omega);refine⟨_,_,g,_,hrun,rfl,rfl,rfl,A0l,rfl,setRow_heap w g cur _ tyc (0,0) hh,fun k _ hk=>setRow_other w g k _ hk,.inl rfl,fun H' h'=>?_⟩;refine .inr ⟨_,_,_,_,by rw[Zr];rfl,h',by rw[Zr];exact hroom,?_,fun j n hj=>?_⟩
     . simp only[hs,aaX,Zr,ZS,aa8,ZH,ZB,Z5];omega
     . have:=hsnoc _ holdl hold (cur.toList.drop (es.length+1)) j n hj;rw[aaD];simpa[hs] using this
   . have hrun:=hS.grow A0l ty zv ⟨g,0,none⟩ es.length cap (cur.toList.take es.length) hz (by rw[holdl,hs,Zx]) (fun j u hj=>by
      rw[aK,Zm,Box.cell hh];rw[Z9] at hj;split at hj
      . rwa [ZG] at hj
      . cases hj) A0C A0C (growslice_fits A0C (by rw[hby];simp;omega))
     simp only[ZB,Z5,Zm] at hrun;have hge:=grownCap_ge w (es.length+1) cap el;refine⟨_,_,w.heap.size,_,hrun,rfl,rfl,rfl,?_,rfl,World.heap_new w.drew _,fun k hk _=>Below.heap_alloc w.drew _ k hk,.inr (Zt _),fun H' h'=>?_⟩
     . exact Nat.le_of_lt (ae (World.heap_new w.drew _))
     . refine .inr ⟨_,_,_,_,by rw[Zr];rfl,h',by rw[Zr];exact hge,?_,fun j n hj=>?_⟩
       . simp only[abs,size_zeroCells,hzv,aaX,ZB,Z5,holdl];omega
       . have:=hsnoc _ holdl hold (Builtin.zeroCells zv.cells (grownCap w (es.length+1) cap el-(es.length+1))).toList j n hj;rw[<-ZG];simpa using this
theorem uW {i:TypeInfo} (hu:P.underlying t=some (.slice el)) (hi:P.info? el=some i) (hs:i.size=1) (hz:i.zero=some zv) (hzv:zv.cells.size=1) (hby:i.bytes=8) {H:Nat->Option Obj} {v y:Value} {es:List Int} {x:Int} (hr:RowI H v es) (hw:∀g ob,H g=some ob->w.heap[g]?=some ob) (hy:Rd m w y (.sl false 1 [.x (.int .i64 x)] none)) (hlen:es.length+1<=100000000):
 ∃(v':Value) (w':World) (g:Nat) (ob:Obj),(Builtin.append_ #[t,t] ty #[v,y]).run P w= .ok v' w'∧w'.os=w.os∧w'.tape=w.tape∧w'.output=w.output∧w.heap.size<=w'.heap.size∧blkOf v'=some g∧w'.heap[g]?=some ob∧(∀k,k<w.heap.size->k≠g->w'.heap[k]?=w.heap[k]?)∧(blkOf v=some g∨w.heap.size<=g)∧∀H',H' g=some ob->RowI H' v' (es++[x]):=by
 obtain⟨v',w',g,ob,h1,h2,h3,h4,h5,h6,h7,h8,h9,h10⟩:=uV (ty:=ty) hu hi hs hz hzv hby hr.j hw hy hlen;exact⟨v',w',g,ob,h1,h2,h3,h4,h5,h6,h7,h8,h9,fun H' h=>(h10 H' h).i A0l ⟩
end
section
variable {H:Nat->Option Obj} {vs:List Value} {ess:List (List Int)} {X:List Nat}
variable {v:Value} {es:List Int}
theorem RowI.blk (h:RowI H v es) {g:Nat} (hb:blkOf v=some g):H g≠none:=by
 rcases h with⟨_,rfl⟩|⟨g',cap,cur,ty,_,rfl,hg,_⟩
 . cases hb
 . cases hb;show H g'≠none;rw[hg];exact fun h=>by cases h
theorem RowI.other (h:RowI H v es) {g:Nat} {o:Option Obj} (hne:blkOf v≠some g):RowI (upd H g o) v es:=by
 rcases h with h|⟨g',cap,cur,ty,h0,rfl,hg,h1⟩
 . exact .inl h
 . refine .inr ⟨g',cap,cur,ty,h0,rfl,?_,h1⟩;rw[ag _ _ (fun e=>hne (by rw[<-e];rfl))];exact hg
structure Piles (H:Nat->Option Obj) (vs:List Value) (ess:List (List Int)) (X:List Nat):Prop where
 len:vs.length=ess.length
 row:∀(i:Nat) (v:Value) (es:List Int),vs[i]?=some v->ess[i]?=some es->RowI H v es
 sep:∀(i j:Nat) (v v':Value) (g:Nat),i≠j->vs[i]?=some v->vs[j]?=some v'->blkOf v=some g->blkOf v'≠some g
 out:∀(i:Nat) (v:Value) (g:Nat),vs[i]?=some v->blkOf v=some g->g∉X
theorem Piles.set (h:Piles H vs ess X) {i:Nat} {v v':Value} {es':List Int} {g:Nat} {ob:Obj} (hi:vs[i]?=some v) (hX:∀x∈X,H x≠none) (hb:blkOf v'=some g) (hg:blkOf v=some g∨H g=none) (hr:RowI (upd H g (some ob)) v' es'):Piles (upd H g (some ob)) (vs.set i v') (ess.set i es') X:=by
 have hil:=(tl.1 hi).1;have hgn:∀j u,j≠i->vs[j]?=some u->blkOf u≠some g:=fun j u hj hu e=>by
  rcases hg with hg|hg
  . exact h.sep i j v u g (aaJ hj) hi hu hg e
  . have hjl:=(tl.1 hu).1;obtain⟨e0,he0⟩:∃e0,ess[j]?=some e0:=⟨_,eq (by rw[<-h.len];exact hjl)⟩;exact(h.row j u e0 hu he0).blk e hg
 have hv:∀j u,(vs.set i v')[j]?=some u->(j=i∧u=v')∨(j≠i∧vs[j]?=some u):=fun j u hu=>by
  by_cases e:j=i
  . subst e;rw[abS hil] at hu;cases hu;exact .inl ⟨rfl,rfl⟩
  . rw[abm (aaJ e)] at hu;exact .inr ⟨e,hu⟩
 refine⟨by rw[ZW,ZW];exact h.len,fun j u e hu he=>?_,fun j k u u' b hjk hu hu' hb1 hb2=>?_,fun j u b hu hbu=>?_⟩
 . rcases hv j u hu with⟨rfl,rfl⟩|⟨hj,hu⟩
   . rw[abS (by rw[<-h.len];exact hil)] at he;cases he;exact hr
   . rw[abm (aaJ hj)] at he;exact(h.row j u e hu he).other (hgn j u hj hu)
 . rcases hv j u hu with⟨rfl,rfl⟩|⟨hj,hu2⟩
   . rw[hb] at hb1;cases hb1;rcases hv k u' hu' with⟨rfl,rfl⟩|⟨hk,hu3⟩
     . exact hjk rfl
     . exact hgn k u' hk hu3 hb2
   . rcases hv k u' hu' with⟨rfl,rfl⟩|⟨hk,hu3⟩
     . rw[hb] at hb2;cases hb2;exact hgn j u hj hu2 hb1
     . exact h.sep j k u u' b hjk hu2 hu3 hb1 hb2
 . rcases hv j u hu with⟨rfl,rfl⟩|⟨hj,hu2⟩
   . rw[hb] at hbu;cases hbu;rcases hg with hg|hg
     . exact h.out _ v _ hi hg
     . exact fun hx=>hX _ hx hg
   . exact h.out j u b hu2 hbu
theorem Piles.other (h:Piles H vs ess X) {x:Nat} {o:Option Obj} (hx:x∈X):Piles (upd H x o) vs ess X:=
 ⟨h.len,fun i v es hi he=>(h.row i v es hi he).other (fun e=>h.out i v x hi e hx),h.sep,h.out⟩
end
def qd (ops:List Oper):Bool:=(List.range ops.length).all fun i=>match ops[i]? with|some o=>(directV o).all (fun k=>decide (k<i))|none=>true
def ClosedM (ops:List Oper) (L:Nat):Prop:=∀j o,ops[j]?=some o->L.testBit j=true->∀k∈directV o,L.testBit k=true
variable {ops:List Oper} {L:Nat} {o:Oper}
theorem lz {i:Nat} (ho:ops[i]?=some o) (hr:bB ops L i=true):L.testBit i=false∧∀k∈directV o,L.testBit k=true:=by unfold bB at hr;rw[ho,Zq,aaP] at hr;exact⟨hr.1,Zw.1 hr.2⟩
theorem ClosedM.next {i:Nat} (h:ClosedM ops L) (ho:ops[i]?=some o) (hr:bB ops L i=true):ClosedM ops (L|||2^i):=by
 intro j o' ho' hj k hk;rw[abr,aa9,aaG,ZV] at hj⊢;rcases hj with hj|rfl
 . exact .inl (h j o' ho' hj k hk)
 . rw[ho] at ho';cases ho';exact .inl ((lz ho hr).2 k hk)
variable {P:Program} {r:Option Nat} {w:World} {Q:Exit->Act->World->Prop}
theorem uX {a:Act} (hm:P.follows .mixedOrders=true) (hok:qd ops=true) (J:Nat->Act->World->Prop)
 (hstep:∀(L i:Nat) (o:Oper) (a:Act) (w:World) (K:Act->World->Prop),ops[i]?=some o->bB ops L i=true->ClosedM ops L->J L a w->(∀a' w',J (L|||2^i) a' w'->K a' w')->wpOpIn (aX r) 0 P ⟨ops⟩ Q i K a w) (hQ:∀a w,J (2^ops.length-1) a w->Q .normal a w) {id:Nat} (h0:J 0 a {w with drawn:=w.drawn+1}):(Code.region id ⟨ops⟩ true).wpIn (aX r) 0 P Q a w:=by
 refine wpIn_region_any hm ?_;have hready:∀(L:Nat) (Ls:List Nat) (listed:Array Bool),listed.size=ops.length->(∀i,(listed.getD i false=true↔i∈Ls))->(∀i,i∈Ls↔L.testBit i=true)->∀i,i∈Region.ready .any ⟨ops⟩ listed↔i<ops.length∧bB ops L i=true:=by
  intro L Ls listed hsz hag hbit i;have hb:∀k,listed.getD k false=true↔L.testBit k=true:=fun k=>(hag k).trans (hbit k)
  rw[cb];constructor
  . rintro⟨h1,o,h2,h3⟩;have h2:ops[i]?=some o:=by simpa using h2
    have hlt:=aP h2;refine⟨hlt,?_⟩;rw[bJ (ops:=⟨ops⟩) hsz hlt] at h1;have hn:L.testBit i=false:=by
     cases hb':L.testBit i with
     |false=>rfl
     |true=>rw[(hb i).2 hb'] at h1;cases h1
    simp only[bB,hn,abR,aaY,h2,Zw];exact fun k hk=>(hb k).1 (h3 k hk)
  . rintro⟨hlt,hr⟩;simp only[bB,Zq,aaP] at hr;obtain⟨hn,hd⟩:=hr;split at hd
    case h_2=>cases hd
    rename_i o ho;refine⟨?_,o,by simpa using ho,fun k hk=>(hb k).2 (Zw.1 hd k hk)⟩;rw[bJ (ops:=⟨ops⟩) hsz hlt];cases hg:listed.getD i false with
    |false=>rfl
    |true=>rw[(hb i).1 hg] at hn;cases hn
 have hSL:∀L,L<2^ops.length->(L=2^ops.length-1∨∃i,i<ops.length∧bB ops L i=true):=by
  intro L hL;by_cases hall:∀i,i<ops.length->L.testBit i=true
  . refine .inl (Nat.eq_of_testBit_eq fun i=>?_);rw[Nat.testBit_two_pow_sub_one];by_cases hi:i<ops.length
    . rw[hall i hi];simp[hi]
    . rw[Nat.testBit_lt_two_pow (Z3 hL (Nat.pow_le_pow_right A0b A0c))];simp[hi]
  . have hex:∃i,i<ops.length∧L.testBit i=false:=by
     apply Classical.byContradiction;intro hno;refine hall (fun i hi=>?_);cases hb:L.testBit i with
     |true=>rfl
     |false=>exact absurd ⟨i,hi,hb⟩ hno
    obtain⟨i0,hi0,hb0⟩:=hex;obtain⟨i,⟨hi,hb⟩,hmin⟩:=Ay (fun i=>i<ops.length∧L.testBit i=false) i0 ⟨hi0,hb0⟩;refine .inr ⟨i,hi,?_⟩;have ho:ops[i]?=some ops[i]:=eq hi;unfold bB;rw[ho,hb];simp only[abR,aaY,Zw];intro k hk;have htk:=Zw.1 hok i (ZT.2 hi);rw[ho] at htk;have hki:k<i:=ZO (Zw.1 htk k hk);cases hbk:L.testBit k with
    |true=>rfl
    |false=>have:=hmin k ⟨A0c,hbk⟩;omega
 have key:∀(fuel L:Nat) (Ls:List Nat) (listed:Array Bool) (a:Act) (w:World),L<2^ops.length->ClosedM ops L->listed.size=ops.length->(∀i,(listed.getD i false=true↔i∈Ls))->(∀i,i∈Ls↔L.testBit i=true)->
  ((List.range ops.length).filter fun j=> !Ls.contains j).length<=fuel->J L a w->wpAnyIn (aX r) 0 P .any ⟨ops⟩ Q fuel listed a w:=by
  intro fuel
  induction fuel with
  | zero=>
    intro L Ls listed a w hL hcl hsz hag hbit hrem h;have hno:∀i,i<ops.length->i∈Ls:=fun i hi=>by
     have h0:((List.range ops.length).filter fun j=> !Ls.contains j)=[]:=abf.1 (Nat.le_zero.1 hrem);by_cases hm:i∈Ls
     . exact hm
     . have:i∈((List.range ops.length).filter fun j=> !Ls.contains j):=aaa.2 ⟨ZT.2 hi,by simpa using hm⟩;rw[h0] at this;cases this
    have hnr:∀i,i<ops.length->bB ops L i=false:=fun i hi=>by simp[bB,(hbit i).1 (hno i hi)]
    have hfull:L=2^ops.length-1:=by
     rcases hSL L hL with h1|⟨i,hi,hr⟩
     . exact h1
     . rw[hnr i hi] at hr;cases hr
    refine⟨?_,hQ a w (hfull▸h)⟩;rw[aa6];intro i hi;obtain⟨h1,h2⟩:=(hready L Ls listed hsz hag hbit i).1 hi;rw[hnr i h1] at h2;cases h2
  | succ f ih=>
    intro L Ls listed a w hL hcl hsz hag hbit hrem h;refine⟨fun hr=>?_,fun i hi=>?_⟩
    . have hfull:L=2^ops.length-1:=by
       rcases hSL L hL with h1|⟨i,hi,hr'⟩
       . exact h1
       . have:=(hready L Ls listed hsz hag hbit i).2 ⟨hi,hr'⟩;rw[hr] at this;cases this
      exact hQ a w (hfull▸h)
    . obtain⟨hlt,hr⟩:=(hready L Ls listed hsz hag hbit i).1 hi;have ho:ops[i]?=some ops[i]:=eq hlt;have hn:i∉Ls:=fun hm=>by simp only[bB,(hbit i).1 hm,abd,abG] at hr;cases hr
      refine hstep L i ops[i] a w (fun a' w'=>wpAnyIn (aX r) 0 P .any ⟨ops⟩ Q f (listed.setIfInBounds i true) a' w') ho hr hcl h (fun a' w' h'=>by
       refine ih (L|||2^i) (i::Ls) _ a' w' (Nat.or_lt_two_pow hL (Nat.pow_lt_pow_right A0b hlt)) (hcl.next ho hr) A1f (fun j=>?_) (fun j=>?_) (by have:=gy hlt hn;omega) h'
       . by_cases e:j=i
         . subst e;rw[cU A0c];simp
         . rw[getD_set_ne _ (aaJ e),hag j];simp[e]
       . rw[abr,aa9,aaG,<-hbit j,ZE,ZV];constructor
         . rintro(rfl|h)
           . exact .inr rfl
           . exact .inl h
         . rintro(h|rfl)
           . exact .inr h
           . exact .inl rfl)
 refine key _ 0 [] _ a _ (Nat.pow_pos A0b) (fun j o _ h=>by simp at h) A0l (fun i=>?_) (fun i=>by simp) ?_ h0
 . simp only[ZF,aa0];split<;>simp
 . exact ZL (aa2 _ _) A0l
section
variable {E:Env} {n:Nat} {B:Hb} {H H':Nat->Option Obj} {w w':World} {st:St} {a:Act} {r:Option Nat}
variable {d:Tmp} {v:Value}
theorem aM {K:Act->World->Prop} {i:Nat} (hi:ops[i]?=some o) (hdef:∀c,o.op≠ .defer c) (hd:o.dst=some d) (hg:o.guard=none) (hrun:(execOp a.eval o).run E.P w= .ok (.value v) w')
 (hK:K (a.put (some d) v) w'):wpOpIn (aX r) 0 E.P ⟨ops⟩ Q i K a w:=by
 unfold wpOpIn;have hi':(⟨ops⟩:Array Oper)[i]?=some o:=A0m
 rw[hi'];simp only;rw[Zp A0u];refine⟨fun _ _=>trivial,?_⟩;rw[Oper.semAt_eq _ _ _ hdef,hrun];show K (a.put o.dst v) w';rw[hd];exact hK
theorem iX {K:Act->World->Prop} {i:Nat} (hi:ops[i]?=some o) (hdef:∀c,o.op≠ .defer c) (hd:o.dst=none) (hg:o.guard=none) (hrun:(execOp a.eval o).run E.P w= .ok .skip w') (hK:K a w'):wpOpIn (aX r) 0 E.P ⟨ops⟩ Q i K a w:=by
 unfold wpOpIn;have hi':(⟨ops⟩:Array Oper)[i]?=some o:=A0m
 rw[hi'];simp only;rw[Zp A0u];refine⟨fun _ _=>trivial,?_⟩;rw[Oper.semAt_eq _ _ _ hdef,hrun];show K (a.put o.dst undef) w';rw[hd];exact hK
theorem cu {i:Nat} {rest:List Nat} (hi:ops[i]?=some o) (hdef:∀c,o.op≠ .defer c) (hd:o.dst=some d) (hdn:d<n) (hWd:B.W d=true) (hg:o.guard=none) (h:HoldH E n B H st a w) (hrun:(execOp a.eval o).run E.P w= .ok (.value v) w)
 (hK:∀a',HoldH E n B H (st.put (some d) (.x v)) a' w->wpOpsIn (aX r) 0 E.P ⟨ops⟩ Q rest a' w):wpOpsIn (aX r) 0 E.P ⟨ops⟩ Q (i::rest) a w:=by
 rw[wpOpsIn_cons];exact aM hi hdef hd hg hrun (hK _ (h.putX hdn hWd v))
def fh (st:St) (val:Nat->V) (ops:List Oper) (L:Nat):St:=⟨fun k=>if ce ops L k=true then val k else st.t k,st.b⟩
theorem Ms (st:St) (val:Nat->V) (ops:List Oper):fh st val ops 0=st:=by unfold fh ce;simp
variable {k:Nat}
theorem aq {val:Nat->V} (h:(ops.all fun o=>o.dst !=some k)=true):(fh st val ops L).t k=st.t k:=by
 show(if ce ops L k=true then val k else st.t k)=_;rw[Zs];unfold ce;intro hd;obtain⟨i,_,hi⟩:=aaF.1 hd;rw[Zq] at hi;split at hi
 . rename_i o ho;have:=Zw.1 h o (Zo ho);rw[eq_of_beq hi.2] at this;simp at this
 . cases hi.2
theorem A7 {i:Nat} {val val':Nat->V} (hi:ops[i]?=some o) (hv:∀k,o.dst≠some k->val' k=val k):Le (fh st val' ops (L|||2^i)) (match o.dst with|some d=>(fh st val ops L).put (some d) (val' d)|none=>fh st val ops L):=by
 cases hd:o.dst with
 | none=>
   have e:fh st val' ops (L|||2^i)=fh st val ops L:=by unfold fh;congr 1;funext k;rw[mK hi,hd,hv k (by rw[hd];exact fun h=>by cases h)];simp
   rw[e];exact Le.refl _
 | some d=>
   refine⟨fun k=> .inr (.inl ?_),fun s cs h=>⟨cs,h,fp cs⟩⟩;show(if ce ops (L|||2^i) k=true then val' k else st.t k)=upd (fh st val ops L).t d (val' d) k;rw[mK hi,hd,aB];by_cases e:k=d
   . subst e;simp
   . have e':(some d==some k)=false:=by simpa using fun h=>e h.symm
     rw[Zs e,e',ab2,hv k (by rw[hd];exact fun h=>e (by cases h;rfl))];rfl
theorem rH {n j:Nat} (hcl:ClosedM ops L) (ho:ops[n]?=some o) (hall:((List.range n).all fun k=>(directV o).contains k)=true) (hj:j<=n) (hb:L.testBit j=false):L.testBit n=false:=by
 cases h:L.testBit n with
 |false=>rfl
 | true=>
   rcases Nat.lt_or_eq_of_le hj with h1|rfl
   . have:=hcl n o ho h j (by simpa using Zw.1 hall j (ZT.2 h1));rw[hb] at this;cases this
   . rw[hb] at h;cases h
theorem ar (L:Nat) {i k:Nat} (h:i≠k):(L|||2^i).testBit k=L.testBit k:=by rw[abr,aa9];simp[h]
theorem bR (L i:Nat):(L|||2^i).testBit i=true:=by rw[abr,aa9];simp
def ij (ops:List Oper) (k j:Nat):Bool:=match ops[j]? with|some o=>o.dst==some k|none=>false
theorem yV (hE:EnvOK E) (hm:E.P.follows .mixedOrders=true) (hok:qd ops=true) (need:Nat->List Nat) (hps:((List.range ops.length).all fun i=>(match ops[i]? with|some o=>(need i).all fun k=>(directV o).any (ij ops k)|none=>true))=true) (I:Nat->(Nat->Option Obj)->(Nat->V)->Prop)
 (hstep:∀(L i:Nat) (o:Oper) (H:Nat->Option Obj) (val:Nat->V) (a:Act) (w:World) (K:Act->World->Prop),ops[i]?=some o->L.testBit i=false->(∀k∈directV o,L.testBit k=true)->ClosedM ops L->I L H val->HoldH E n B H (fh st val ops L) a w->(∀k∈need i,(fh st val ops L).t k=val k)->
  (∀a' w' H' val',(∀k,o.dst≠some k->val' k=val k)->I (L|||2^i) H' val'->HoldH E n B H' (match o.dst with|some d=>(fh st val ops L).put (some d) (val' d)|none=>fh st val ops L) a' w'->K a' w')->wpOpIn (aX r) 0 E.P ⟨ops⟩ Q i K a w)
 (val0:Nat->V) (hI:I 0 H val0) (hQ:∀a w H val,I (2^ops.length-1) H val->HoldH E n B H (fh st val ops (2^ops.length-1)) a w->Q .normal a w) {id:Nat} (h:HoldH E n B H st a w):(Code.region id ⟨ops⟩ true).wpIn (aX r) 0 E.P Q a w:=by
 refine uX hm hok (fun L a w=>∃H val,I L H val∧HoldH E n B H (fh st val ops L) a w) ?_ (fun a w ⟨H,val,h1,h2⟩=>hQ a w H val h1 h2) ⟨H,val0,hI,by rw[Ms];exact h.drew hE⟩;rintro L i o a w K ho hr hcl ⟨H,val,h1,h2⟩ hK;obtain⟨hb,hd⟩:=lz ho hr;refine hstep L i o H val a w K ho hb hd hcl h1 h2 (fun k hk=>?_) (fun a' w' H' val' hv hI' h'=>hK a' w' ⟨H',val',hI',h'.le (A7 ho hv)⟩);show(if ce ops L k=true then val k else st.t k)=_;rw[Zp];have h3:=Zw.1 hps i (ZT.2 (tl.1 ho).1);rw[ho] at h3;obtain⟨j,hj,hjk⟩:=aaF.1 (Zw.1 h3 k hk);unfold ce;refine aaF.2 ⟨j,ZT.2 ?_,by rw[hd j hj,aaY];exact hjk⟩;unfold ij at hjk;split at hjk
 . rename_i o' ho';exact(tl.1 ho').1
 . cases hjk
end
end Go.Proofs.Ytmfojhkjbkombaa
