/- MI -/
import Derived.RangeFuncLeaves
import Derived.RangeFuncSeq
import Derived.RangeFuncRecord
import Derived.RangeFuncIn
import Derived.Test.YtiepfeebmnfbdaaGreatMPO
import Derived.Maps.RangeRun
namespace Go.Proofs.YtiepfeebmnfbdaaGreat
set_option linter.unusedSimpArgs false
open Go Go.RowKit
theorem ZE{P:Prop}(h:P:=by cases e<;>simp only[eL,adO,reduceCtorEq] at ho;exact hQ _ _ (ht.le (aK hK.1 hK.2))):P:=h
theorem ZD{P:Prop}(h:P:=by obtain⟨rfl,h1,h2⟩:=hK;cases e<;>simp only[eL,adO,reduceCtorEq,Out.exit.injEq] at ho;subst ho;exact hQ _ _ (ht.le (aK h1 h2))):P:=h
theorem ZC{P:Prop}(h:P:=by rw[hu] at hi;simp only[aeI] at hi;have:=adr.1 hdat u (adg hu);rw[hi] at this;simp[V.dat] at this):P:=h
theorem ZB{P:Prop}(h:P:=by exact hO0 k ((q6 k).2 (.inl hk)) (fun e=>q4 (e▸hk)) (fun e=>q5 (e▸hk))):P:=h
variable{F:Fence}{k:Nat}{P:Program}{ops:Array Oper}{a:Act}{w:World}{Q:Exit->Act->World->Prop}
theorem it{i:Nat}{K K':Act->World->Prop}{Q':Exit->Act->World->Prop}(hK:∀a' w',K a' w'->K' a' w')(hQ:∀e a' w',Q e a' w'->Q' e a' w')(h:wpOpIn F k P ops Q i K a w):wpOpIn F k P ops Q' i K' a w:=by
 unfold wpOpIn at h⊢;split
 . rename_i ho;rw[ho] at h;exact hK _ _ h
 . rename_i o ho;rw[ho] at h;simp only at h⊢;split
   . rename_i hw;rw[adl hw] at h;refine⟨h.1,?_⟩;have h2:=h.2;generalize (o.semAt F.round a.eval).run P w=q at h2
     have hend:∀(e:Ending) (w:World),(match e with| .returned v=>K (a.put o.dst v) w| .panicked chain=>Q (.panic chain) a w| .outgrown=>LetsOut Q)->
      (match e with| .returned v=>K' (a.put o.dst v) w| .panicked chain=>Q' (.panic chain) a w| .outgrown=>LetsOut Q'):=by
      intro e w h;cases e with
      |returned v=>exact hK _ _ h
      |panicked ch=>exact hQ _ _ _ h
      |outgrown=>obtain⟨a0,w0,h⟩:=h;exact⟨a0,w0,hQ _ _ _ h⟩
     cases q with
     | ok x w'=>
       cases x<;>simp only[Oper.uponIn] at h2⊢ <;>
        first
         |exact hK _ _ h2
         |exact⟨h2.1,CallsIn.mono h2.2 (fun e w'' he=>by have:=hend e w'';cases e<;>exact this he)⟩
         |exact⟨h2.1,_root_.Go.RowsIn.mono h2.2 (fun v w'' he=>hK _ _ he)⟩
         |exact⟨h2.1,RoundIn.mono h2.2 (fun e w'' he=>by have:=hend e w'';cases e<;>exact this he)⟩
         |exact h2.elim
     |halt x w'=>cases x<;>simp only[Oper.uponIn] at h2⊢ <;>first|exact h2.elim|exact hQ _ _ _ h2
   . rename_i hw;rw[adq hw] at h;exact⟨h.1,hK _ _ h.2⟩
structure Step (S:Nat->Prop) (m:Lim) (w:World) (m':Lim) (w':World):Prop where
 os:w'.os=w.os
 tape:w'.tape=w.tape
 output:w'.output=w.output
 ext:Ext m w m' w'
 same:∀k,k<w.heap.size-> ¬S k->w'.heap[k]?=w.heap[k]?∧m' k=m k
theorem Step.refl(S:Nat->Prop)(m:Lim)(w:World):Step S m w m w:=⟨rfl,rfl,rfl,Ext.refl _ _,fun _ _ _=>⟨rfl,rfl⟩⟩
variable{S S1:Nat->Prop}{m:Lim}
theorem Step.next{m1 m2:Lim}{w1 w2:World}(h:Step S m w m1 w1)(k:Step S1 m1 w1 m2 w2)(hS:∀i,i<w.heap.size->S1 i->S i):Step S m w m2 w2:=by refine⟨k.os.trans h.os,k.tape.trans h.tape,k.output.trans h.output,h.ext.trans k.ext,fun i hi hn=>?_⟩;obtain⟨h1,h2⟩:=h.same i hi hn;obtain⟨k1,k2⟩:=k.same i (ad1 hi h.ext.size) (fun hs=>hn (hS i hi hs));exact⟨k1.trans h1,k2.trans h2⟩
variable{m':Lim}{w':World}
theorem Step.mono(h:Step S m w m' w')(hS:∀i,i<w.heap.size->S i->S1 i):Step S1 m w m' w':=
 ⟨h.os,h.tape,h.output,h.ext,fun k hk hn=>h.same k hk (fun hs=>hn (hS k hk hs))⟩
theorem Step.of_below(hb:Below w.heap.size w w')(hm:∀k,k<w.heap.size->m' k=m k):Step S m w m' w':=
 ⟨hb.os,hb.tape,hb.output,Ext.of_below hb hm,fun k hk _=>⟨hb.block k hk,hm k hk⟩⟩
theorem Step.below(h:Step S m w m' w')(hS:∀k,k<w.heap.size-> ¬S k):Below w.heap.size w w':=
 ⟨h.os,h.tape,h.output,h.ext.size,fun k hk=>(h.same k hk (hS k hk)).1⟩
theorem Step.bel(h:Step S m w m' w'){X:List Nat}(hS:∀k,k<w.heap.size->S k->k∈X):Bel X w w':=
 ⟨h.os,h.tape,h.output,h.ext.size,fun k hk hx=>(h.same k hk (fun hs=>hx (hS k hk hs))).1⟩
open Classical in
noncomputable def lst(O:Nat->Prop)(k:Nat):List Nat:=(List.range k).filter fun i=>decide (O i)
theorem bv{O:Nat->Prop}{i:Nat}:i∈lst O k↔i<k∧O i:=by unfold lst;rw[adZ,adU];simp
section
variable{E:Env}{n:Nat}{pm:Pm}{m0 m m':Lim}{w0 w w':World}{β:Nat->Nat}{st:St}{a:Act}{S O:Nat->Prop}
theorem Rel.here(h:Rel E n pm m0 w0 m β st a w)(hs:Step S m w m' w')(hS:∀k,k<w.heap.size->(w0.heap.size<=k∨k∈pm.X)-> ¬S k){L:List Nat}(hL:∀k,k<w.heap.size->(w0.heap.size<=k∨k∈pm.X)->k∈L)
 (hK:∀x∈L,E.K<=x) (hJ:E.J w'):Rel E n ⟨L,pm.b,L,pm.D⟩ m' w' m' β st a w':=by
 have hb:∀g o,w.heap[g]?=some o->(w0.heap.size<=g∨g∈pm.X)->w'.heap[g]?=w.heap[g]?∧m' g=m g:=fun g o hg ho=>hs.same g (ag hg) (hS g (ag hg) ho)
 have he:=hs.ext;refine⟨fun i=>(h.tmps i).mono he,h.size,fun s cs hs=>?_,h.inj,Bel.refl _ _,⟨h.par.1,h.par.2.1,hK⟩,⟨fun _ _ _=>rfl,Ext.refl _ _,fun y hy=>hy⟩,?_,h.own.sub (fun i s sz len cs hi hs=>⟨i,cs,hi,rfl,hs,adp _,rfl,fun cur ty hh=>?_⟩),h.defers,fun g=>(h.glob g).mono he,hJ,?_⟩
 rotate_right 2
 . obtain⟨_,hge⟩:=h.boxes s cs hs;exact⟨cur,ty,by rw[(hb _ _ hh hge).1];exact hh,rfl⟩
 . refine⟨fun i s ks vs hi=>?_,fun i j s s' ks vs ks' vs' hi hj e=>h.maps.inj _ _ _ _ _ _ _ _ hi hj e⟩;obtain⟨⟨ents,clock,hh,hrd,h1,h2,h4⟩,h3⟩:=h.maps.holds i s ks vs hi;exact⟨⟨ents,clock,by rw[(hb _ _ hh h3).1];exact hh,hrd.mono he,h1,h2,by rw[(hb _ _ hh h3).2];exact h4⟩,.inr (hL _ (ag hh) h3)⟩
 . obtain⟨⟨hl,vals,ty,xs,rest,hh,hx,hr⟩,hge⟩:=h.boxes s cs hs;obtain⟨h1,h2⟩:=hb _ _ hh hge;exact⟨⟨by rw[h2];exact hl,vals,ty,xs,rest,by rw[h1];exact hh,hx,hr.mono he⟩,.inr (hL _ (ag hh) hge)⟩
 . obtain⟨ρ,hr⟩:=h.rows
   have hB:∀v sz es s,Bear E w' β st (fun i=>a.tmps.getD i undef) v (.sl false sz es (some s))->Bear E w β st (fun i=>a.tmps.getD i undef) v (.sl false sz es (some s)):=fun v sz es s hi=>
    hi.from (fun i hi=> .inl ⟨i,hi,rfl⟩) (fun k cs j h1 h2 h3 h4=>by obtain⟨⟨_,vals,ty,xs,rest,hh,_,_⟩,hge⟩:=h.boxes k cs h2;rw[bc (hb _ _ hh hge).1] at h4;exact .inr ⟨k,cs,j,h1,h2,h3,h4⟩)
   refine⟨ρ,fun v sz es s hi=>?_,fun v sz es s v' sz' es' s' hi hi' e=>hr.sep _ _ _ _ _ _ _ _ (hB _ _ _ _ hi) (hB _ _ _ _ hi') e,fun v sz es s k cs hi hk=>hr.box _ _ _ _ _ _ (hB _ _ _ _ hi) hk⟩;obtain⟨lo,lim,cap,cur,ty,hv,hh,hc,hsz⟩:=hr.row v sz es s (hB _ _ _ _ hi);have hge:=lo.imp id (h.mold.2.2 _);obtain⟨h1,h2⟩:=hb _ _ hh hge;exact⟨.inr (hL _ (ag hh) hge),by rw[h2];exact lim,cap,cur,ty,hv,by rw[h1];exact hh,hc,hsz⟩
structure Now (E:Env) (n:Nat) (D:List Deferred) (O:Nat->Prop) (m:Lim) (st:St) (a:Act) (w:World):Prop where
 rel:∃b β,Rel E n ⟨lst O w.heap.size,b,lst O w.heap.size,D⟩ m w m β st a w
 lt:∀k,O k->k<w.heap.size
variable{D:List Deferred}
theorem Now.J(h:Now E n D O m st a w):E.J w:=by obtain⟨_,_,h⟩:=h.rel;exact h.j
theorem Now.K(h:Now E n D O m st a w):∀k,O k->E.K<=k:=fun k hk=>by obtain⟨_,_,hr⟩:=h.rel;exact hr.par.2.2 k (bv.2 ⟨h.lt k hk,hk⟩)
theorem Now.other(h:Now E n D O m st a w)(hs:Step S m w m' w')(hS:∀k,O k-> ¬S k)(hJ:E.J w'):Now E n D O m' st a w':=by
 have hK:=h.K;obtain⟨⟨b,β,hr⟩,hlt⟩:=h;refine⟨⟨b,β,hr.here hs (fun k hk ho=>?_) (fun k hk ho=>?_) (fun x hx=>hK x (bv.1 hx).2) hJ⟩,fun k hk=>ad1 (hlt k hk) hs.ext.size⟩
 . rcases ho with ho|ho
   . exact absurd hk (ad0.2 ho)
   . exact hS k (bv.1 ho).2
 . rcases ho with ho|ho
   . exact absurd hk (ad0.2 ho)
   . exact bv.2 ⟨ad1 hk hs.ext.size,(bv.1 ho).2⟩
variable{b:Nat->Nat}
theorem Now.first(h:Rel E n ⟨[],b,[],D⟩ m w m β st a w):Now E n D (fun _=>False) m st a w:=
 ⟨⟨b,β,by
   have:=h.here (Step.refl (fun _=>False) m w) (fun _ _ _ h=>h) (L:=lst (fun _=>False) w.heap.size) (fun k hk ho=>by
    rcases ho with ho|ho
    . exact absurd hk (ad0.2 ho)
    . cases ho) (fun x hx=>(bv.1 hx).2.elim) h.j
   exact this⟩,fun _ h=>h.elim⟩
def pK(O:Nat->Prop)(w w':World)(k:Nat):Prop:=k<w'.heap.size∧(O k∨w.heap.size<=k)
variable{st':St}{a':Act}
theorem Now.of_rel{β':Nat->Nat}(hE:EnvOK E)(hlt:∀k,O k->k<w.heap.size)(h:Rel E n ⟨lst O w.heap.size,b,lst O w.heap.size,D⟩ m w m' β' st' a' w'):
 Now E n D (pK O w w') m' st' a' w'∧Step O m w m' w':=by
 have hsz:=h.below.size;have hJ:=hE.keep _ _ _ h.par.2.2 h.j h.below;refine⟨⟨⟨b,β',?_⟩,fun k hk=>hk.1⟩,⟨h.below.os,h.below.tape,h.below.output,h.mold.2.1,fun k hk hn=>⟨h.below.block k hk (fun hx=>hn (bv.1 hx).2),h.mold.1 k hk (fun hx=>hn (bv.1 hx).2)⟩⟩⟩;refine h.here (Step.refl (fun _=>False) m' w') (fun _ _ _ h=>h) (fun k hk ho=>bv.2 ⟨hk,hk,?_⟩) (fun x hx=>?_) hJ
 . rcases ho with ho|ho
   . exact .inr ho
   . exact .inl (bv.1 ho).2
 . obtain⟨hx1,hx2,hx3⟩:=bv.1 hx;rcases hx3 with hx3|hx3
   . exact h.par.2.2 x (bv.2 ⟨hlt x hx3,hx3⟩)
   . exact adJ (hE.high _ h.j) hx3
def eL:Exit->Option Out
 | .normal=>some .normal
 | .ret=>some .ret
 | .exit id=>some (.exit id)
 |_=>none
def QD(W:Nat->Bool)(E:Env)(n:Nat)(D:List Deferred)(O:Nat->Prop)(m:Lim)(a:Act)(w:World)(K:Out->St->Prop):Exit->Act->World->Prop:=
 fun e a' w'=>KeepT W a.tmps a'.tmps∧∃o st' m',eL e=some o∧K o st'∧Now E n D (pK O w w') m' st' a' w'∧Step O m w m' w'
variable{W:Nat->Bool}
theorem jA{r:Option Nat}(hE:EnvOK E)(hm:E.P.follows .mixedOrders=true){c:Code}{K:Out->St->Prop}(hok:be E.any n c=true)(hW:mE W c=true)(h:Now E n D O m st a w)(hr:run E c st K):
 c.wpIn (bg r) 0 E.P (QD W E n D O m a w K) a w:=by
 obtain⟨⟨b,β,hrel⟩,hlt⟩:=h;refine wpIn_mono (lJ (hE.x (.inr (fun _ h=>h))) hm c K st a w m β hok hW hrel hr) ?_;rintro e a' w' ⟨hp,hk⟩;have fin:∀o,(∃st' m' β',K o st'∧Rel E n ⟨lst O w.heap.size,b,lst O w.heap.size,D⟩ m w m' β' st' a' w')->eL e=some o->QD W E n D O m a w K e a' w':=by rintro o ⟨st',m',β',h1,h2⟩ ho;obtain⟨h3,h4⟩:=Now.of_rel hE hlt h2;exact⟨hk,o,st',m',ho,h1,h3,h4⟩
 cases e with
 |normal=>exact fin _ hp rfl
 |ret=>exact fin _ hp rfl
 |exit id=>exact fin _ hp rfl
 |goto l=>exact hp.elim
 |panic ch=>exact hp.elim
 |outgrown=>exact hp.elim
theorem Now.le(h:Now E n D O m st a w)(hl:Le st' st):Now E n D O m st' a w:=by obtain⟨⟨b,β,hr⟩,hlt⟩:=h;exact⟨⟨b,β,hr.le hl⟩,hlt⟩
variable{D':List Deferred}
theorem Now.marks(h:Now E n D O m st a w)(ht:a'.tmps=a.tmps)(hd:a'.defers=D'):Now E n D' O m st a' w:=by
 obtain⟨⟨b,β,hr⟩,hlt⟩:=h;refine⟨⟨b,β,⟨fun i=>by rw[ht];exact hr.tmps i,by rw[ht];exact hr.size,hr.boxes,hr.inj,hr.below,hr.par,hr.mold,?_,?_,hd,hr.glob,hr.j,⟨hr.maps.holds,hr.maps.inj⟩⟩⟩,hlt⟩
 . obtain⟨ρ,hrw⟩:=hr.rows;refine⟨ρ,?_⟩;rw[ht];exact⟨fun v sz es s hi=>⟨(hrw.row v sz es s hi).lo,(hrw.row v sz es s hi).lim,(hrw.row v sz es s hi).is⟩,hrw.sep,hrw.box⟩
 . intro i s sz len cs hi hb;have:=hr.own i s sz len cs hi hb;rw[ht];exact this
def sH(W:Nat->Bool)(st:St):St:=⟨fun i=>bif W i then .undef else st.t i,st.b⟩
theorem Now.back(h:Now E n D O m st a w)(hk:KeepT W a'.tmps a.tmps)(hz:a'.tmps.size=n)(hd:a'.defers=D'):Now E n D' O m (sH W st) a' w:=by
 obtain⟨⟨b,β,hr⟩,hlt⟩:=h;have hcut:∀i u,(sH W st).t i=u->u≠ .undef->W i=false∧st.t i=u:=by
  intro i u hi hu;simp only[sH] at hi;cases hw:W i with
  |true=>rw[hw] at hi;exact absurd hi.symm hu
  |false=>rw[hw] at hi;exact⟨rfl,hi⟩
 have hBr:∀v sz es s,Bear E w β (sH W st) (fun i=>a'.tmps.getD i undef) v (.sl false sz es (some s))->Bear E w β st (fun i=>a.tmps.getD i undef) v (.sl false sz es (some s)):=by
  rintro v sz es s (⟨i,h1,h2⟩|h2)
  . obtain⟨h3,h4⟩:=hcut i _ h1 A0I;exact .inl ⟨i,h4,by rw[<-h2];exact hk i h3⟩
  . exact .inr h2
 refine⟨⟨b,β,⟨fun i=>?_,hz,hr.boxes,hr.inj,hr.below,hr.par,hr.mold,?_,?_,hd,hr.glob,hr.j,?_⟩⟩,hlt⟩
 . show Rs m w β _ (bif W i then .undef else st.t i);cases hw:W i with
   |true=>exact .of (.undef _)
   |false=>rw[<-hk i hw];exact hr.tmps i
 . obtain⟨ρ,hrw⟩:=hr.rows;exact⟨ρ,fun v sz es s hi=>⟨(hrw.row _ _ _ _ (hBr _ _ _ _ hi)).lo,(hrw.row _ _ _ _ (hBr _ _ _ _ hi)).lim,(hrw.row _ _ _ _ (hBr _ _ _ _ hi)).is⟩,fun v sz es s v' sz' es' s' hi hi' e=>hrw.sep _ _ _ _ _ _ _ _ (hBr _ _ _ _ hi) (hBr _ _ _ _ hi') e,fun v sz es s k cs hi hk'=>hrw.box _ _ _ _ _ _ (hBr _ _ _ _ hi) hk'⟩
 . intro i s sz len cs hi hb;obtain⟨h3,h4⟩:=hcut i _ hi A0I;have:=hr.own i s sz len cs h4 hb;have e:a.tmps.getD i undef=a'.tmps.getD i undef:=hk i h3;show OwnAt w β (a'.tmps.getD i undef) s sz len cs;rw[<-e];exact this
 . refine⟨fun i s ks vs hi=>hr.maps.holds i s ks vs (hcut i _ hi A0I).2,fun i j s s' ks vs ks' vs' hi hj e=>hr.maps.inj _ _ _ _ _ _ _ _ (hcut i _ hi A0I).2 (hcut j _ hj A0I).2 e⟩
theorem Now.put(h:Now E n D O m st a w){d:Tmp}(hd:d<n){v:Value}{u:V}(hv:Rd m w v u):Now E n D O m (st.put (some d) u.bare) (a.put (some d) v) w:=by obtain⟨⟨b,β,hr⟩,hlt⟩:=h;exact⟨⟨b,β,hr.put (fun k hk=>by cases hk;exact hd) (.of hv.bare) (fD _) (fun s sz len cs e=>by have e:u.bare=_:=e;exact(e▸hv.bare).not_row.elim) (fun s ks vs e=>by have e:u.bare=_:=e;exact(e▸hv.bare).not_mp.elim)⟩,hlt⟩
end
def j9(E:Env)(G:Nat->Prop)(gf:FuncId)(lb:Array Value)(Ok Done:List U->Prop)(m:Lim)(w:World):Prop:=
 ∀ (l:Nat) (A Ax:List U->(Nat->Prop)->Lim->World->Prop) (O:Nat->Prop),
   (∀pre O m1 w1 S m2 w2,A pre O m1 w1->Step S m1 w1 m2 w2->(∀k,O k-> ¬S k)->E.J w2->A pre O m2 w2)->
   (∀pre O m1 w1 S m2 w2,Ax pre O m1 w1->Step S m1 w1 m2 w2->(∀k,O k-> ¬S k)->E.J w2->Ax pre O m2 w2)->
   (∀pre O m1 w1,A pre O m1 w1->∀k,O k->k<w1.heap.size∧E.K<=k)->
   (∀pre O m1 w1,Ax pre O m1 w1->∀k,O k->k<w1.heap.size∧E.K<=k)->
   (∀pre x O m1 w1 (vs:Array Value),Ok (pre++[x])->A pre O m1 w1->RdL m1 w1 vs.toList x->x.all V.dat=true->
    YieldAt (bg none) 0 E.P l vs w1 fun e w2=>∃m2 O2,Step O m1 w1 m2 w2∧(∀k,O2 k->O k∨w1.heap.size<=k)∧E.J w2∧
     ((e= .returned (.bool true)∧A (pre++[x]) O2 m2 w2)∨(e= .returned (.bool false)∧Ax (pre++[x]) O2 m2 w2)))->
   A [] O m w->(∀k,O k-> ¬G k)->E.J w->
   Calls E.P gf (#[.func (.yield l) #[] #[]]++lb) w fun e w'=>(∃v,e= .returned v)∧∃m' O',Step O m w m' w'∧(∀k,O' k->O k∨w.heap.size<=k)∧E.J w'∧
    ((∃xs,Done xs∧A xs O' m' w')∨∃pre,Ax pre O' m' w')
noncomputable def ul:List Tmp->U->St->St
 |p::ps,u::us,st=>ul ps us (st.put (some p) u.bare)
 |_,_,st=>st
structure Mk (O:Nat->Prop) (lo b:Nat) (w:World):Prop where
 lo:lo<=b
 is:w.heap[b]?=some (.deferred (some []))
 no: ¬O b
abbrev markD(b:Nat):Deferred:={target:= .collected b,args:= #[]}
section
variable{E:Env}{n:Nat}{m:Lim}{w:World}{st:St}{a:Act}{O:Nat->Prop}{D:List Deferred}
theorem pM{W:Nat->Bool}:∀{ps:List Tmp} {vs:List Value} {us:U} {st:St} {a:Act},Now E n D O m st a w->RdL m w vs us->(∀p∈ps,W p=true∧p<n)->
 Now E n D O m (ul ps us st) {a with tmps:=(ps.zip vs).foldl (fun t x=>t.setIfInBounds x.1 x.2) a.tmps} w∧KeepT W a.tmps ((ps.zip vs).foldl (fun t x=>t.setIfInBounds x.1 x.2) a.tmps)
 |[],vs,us,st,a,h,_,_=>⟨by cases us<;>exact h,KeepT.refl _ _⟩
 |p::ps,[],[],st,a,h,_,_=>⟨h,KeepT.refl _ _⟩
 |p::ps,v::vs,u::us,st,a,h,hr,hp=>by obtain⟨h1,h2⟩:=hp p A0k;have hput:=h.put h2 hr.1;obtain⟨h3,h4⟩:=pM (W:=W) (ps:=ps) hput hr.2 (fun q hq=>hp q (by simp[hq]));exact⟨h3,(KeepT.put (a:=a) (d:=some p) (v:=v) (KeepT.refl W a.tmps) (fun k e=>by cases e;exact h1)).trans h4⟩
 |_::_,[],_::_,_,_,_,hr,_=>hr.elim
 |_::_,_::_,[],_,_,_,hr,_=>hr.elim
variable{l:Nat}{r:Loop}
theorem F1(h:w.heap[l]?=some (.loop r))(k:Nat):w.cell? ⟨l,k,none⟩=none:=by simp[World.cell?,h]
theorem Step.record{r':Loop}(h:w.heap[l]?=some (.loop r)):Step (fun k=>k=l) m w m (w.putObj l (.loop r')):=by
 refine⟨rfl,rfl,rfl,⟨A0k,fun blk off v hb _ hc=>?_,fun blk _ fr hf=>⟨fr,hf,adp _⟩,fun blk es c _ hc=>by rw[World.putObj_heap_other (fun e=>by rw[e,h] at hc;cases hc)];exact hc⟩,fun k _ hn=>⟨World.putObj_heap_other hn,rfl⟩⟩;by_cases e:blk=l
 . subst e;rw[F1 h] at hc;cases hc
 . rw[bc (World.putObj_heap_other e)];exact hc
structure Holds (E:Env) (A:(Nat->Prop)->Lim->World->Prop):Prop where
 stab:∀O m1 w1 S m2 w2,A O m1 w1->Step S m1 w1 m2 w2->(∀k,O k-> ¬S k)->E.J w2->A O m2 w2
 lt:∀O m1 w1,A O m1 w1->∀k,O k->k<w1.heap.size∧E.K<=k
theorem sI(hE:EnvOK E)(hj0:E.J w){g:Operand}{ps:Array Tmp}{assign body:Code}{Q:Exit->Act->World->Prop}{gf:FuncId}{lb:Array Value}
 (hg:a.eval g= .func (.func gf) #[] lb) (hcall:∀args w,(callFunc gf args).run E.P w= .ok (.enter gf args) w) {Ok Done:List U->Prop} {G:Nat->Prop} (hG:∀k,G k->k<w.heap.size∧ ¬O k)
 (hit:∀m1 w1,Step (fun _=>False) m w m1 w1->E.J w1->j9 E G gf lb Ok Done m1 w1) (hlen:∀pre x,Ok (pre++[x])->x.length=ps.size)
 (J:List U->(Nat->Prop)->Lim->World->Prop) (J1:List U->U->Act->(Nat->Prop)->Lim->World->Prop) (Jx:Code->List U->(Nat->Prop)->Lim->World->Prop)
 (hJ:∀pre,Holds E (J pre)) (hJ1:∀pre x a,Holds E (J1 pre x a)) (hJ1w:∀pre x a O m w,J1 pre x a O m w->E.J w) (hJx:∀c pre,Holds E (Jx c pre)) (h0:J [] O m w)
 (hassign:∀pre x l O m1 w1 (vs:Array Value),Ok (pre++[x])->J pre O m1 w1->RdL m1 w1 vs.toList x->
  assign.wpIn (bg (some l)) 0 E.P (fun e a1 w2=>e= .normal∧∃m2 O2,Step O m1 w1 m2 w2∧(∀k,O2 k->O k∨w1.heap.size<=k)∧J1 pre x a1 O2 m2 w2) {tmps:=(ps.toList.zip vs.toList).foldl (fun t x=>t.setIfInBounds x.1 x.2) a.tmps,defers:=[]} w1)
 (hbody:∀pre x l a1 O m1 w1,Ok (pre++[x])->J1 pre x a1 O m1 w1->
  body.wpIn (bg (some l)) 0 E.P (fun e _ w2=>(∃m2 O2,Step O m1 w1 m2 w2∧(∀k,O2 k->O k∨w1.heap.size<=k)∧E.J w2∧(match e with| .normal=>J (pre++[x]) O2 m2 w2| .ret=>Jx .ret (pre++[x]) O2 m2 w2| .exit id=>Jx (.exit id) (pre++[x]) O2 m2 w2|_=>False))) a1 w1)
 (hdone:∀xs O' m' w' b,Done xs->J xs O' m' w'->E.J w'->Step O m w m' w'->(∀k,O' k->O k∨w.heap.size<=k)->Mk O' w.heap.size b w'->Q .normal {a with defers:=markD b::a.defers} w')
 (hstop:∀c pre O' m' w' b,Jx c pre O' m' w'->E.J w'->Step O m w m' w'->(∀k,O' k->O k∨w.heap.size<=k)->Mk O' w.heap.size b w'->c.wpIn (bg none) 0 E.P Q {a with defers:=markD b::a.defers} w'):
 (Code.rangeFunc g ps assign body).wpIn (bg none) 0 E.P Q a w:=by
 refine wpIn_rangeFunc ?_;intro fn hfn;have hlt0:=(hJ []).lt _ _ _ h0;have hKB:E.K<=w.heap.size:=hE.high _ hj0;obtain⟨rec,hrec⟩:∃rec:LoopState->Option Code->Loop,rec=fun st pe=>{state:=st,pending:=pe,fn,tmps:=a.tmps,params:=ps,assign,body,defers:=w.heap.size}:=⟨_,rfl⟩
 obtain⟨W1,hW1⟩:∃W1,(w.alloc (.deferred (some []))).alloc (.loop (rec .ready none))=W1:=⟨_,rfl⟩;have hL1:W1.heap[w.heap.size+1]?=some (.loop (rec .ready none)):=by rw[<-hW1];have:=World.alloc_heap_new (w.alloc (.deferred (some []))) (.loop (rec .ready none));rwa [World.size_alloc] at this
 have hK1:W1.heap[w.heap.size]?=some (.deferred (some [])):=by rw[<-hW1];exact(Below.heap_alloc _ _ _ A0k).trans (World.alloc_heap_new w _)
 have hbl:Below w.heap.size w W1:=by rw[<-hW1];exact((Below.refl _ w).alloc (adp _) _).alloc A0k _
 have hs1:Step (fun _=>False) m w m W1:=Step.of_below hbl (fun _ _=>rfl);have hj1:E.J W1:=hE.keep [] _ _ (fun x hx=>by cases hx) hj0 ⟨hbl.os,hbl.tape,hbl.output,hbl.size,fun k hk _=>hbl.block k hk⟩
 have hJs:∀{S:Nat->Prop} {m1 m2:Lim} {w1 w2:World},E.J w1->Step S m1 w1 m2 w2->(∀k,k<w1.heap.size->S k->E.K<=k)->E.J w2:=fun {S m1 m2 w1 w2} hj hs hk=>
  hE.keep (lst S w1.heap.size) _ _ (fun x hx=>hk x (bv.1 hx).1 (bv.1 hx).2) hj (hs.bel (fun k h1 h2=>bv.2 ⟨h1,h2⟩))
 let A:List U->(Nat->Prop)->Lim->World->Prop:=fun pre O' m' w'=>∃Oc,J pre Oc m' w'∧w'.heap[w.heap.size]?=some (.deferred (some []))∧w'.heap[w.heap.size+1]?=some (.loop (rec .ready none))∧ ¬Oc w.heap.size∧ ¬Oc (w.heap.size+1)∧
  ∀k,O' k↔(Oc k∨k=w.heap.size∨k=w.heap.size+1)
 let Ax:List U->(Nat->Prop)->Lim->World->Prop:=fun pre O' m' w'=>∃Oc c,Jx c pre Oc m' w'∧w'.heap[w.heap.size]?=some (.deferred (some []))∧w'.heap[w.heap.size+1]?=some (.loop (rec .done (some c)))∧ ¬Oc w.heap.size∧ ¬Oc (w.heap.size+1)∧
  ∀k,O' k↔(Oc k∨k=w.heap.size∨k=w.heap.size+1)
 have hA0:A [] (fun k=>O k∨k=w.heap.size∨k=w.heap.size+1) m W1:=by
  refine⟨O,(hJ []).stab _ _ _ _ _ _ h0 hs1 (fun _ _ h=>h) hj1,hK1,hL1,fun hn=>?_,fun hn=>?_,fun k=>agp⟩
  . have:=(hlt0 _ hn).1;omega
  . have:=(hlt0 _ hn).1;omega
 have hcalls:=hit m W1 hs1 hj1 (w.heap.size+1) A Ax (fun k=>O k∨k=w.heap.size∨k=w.heap.size+1) ?stabA ?stabX ?lt ?ltX ?yield hA0 (fun k hk hg=>by
  obtain⟨h1,h2⟩:=hG k hg;rcases hk with hk|hk|hk
  . exact h2 hk
  . omega
  . omega) hj1
 case stabA=>rintro pre O1 m1 w1 S m2 w2 ⟨Oc,h1,h2,h3,h4,h5,h6⟩ hs hS hj;have hb:w2.heap[w.heap.size]?=w1.heap[w.heap.size]?:=(hs.same _ (ag h2) (hS _ ((h6 _).2 (.inr (.inl rfl))))).1;have hl:w2.heap[w.heap.size+1]?=w1.heap[w.heap.size+1]?:=(hs.same _ (ag h3) (hS _ ((h6 _).2 (.inr (.inr rfl))))).1;exact⟨Oc,(hJ pre).stab _ _ _ _ _ _ h1 hs (fun k hk=>hS k ((h6 k).2 (.inl hk))) hj,hb.trans h2,hl.trans h3,h4,h5,h6⟩
 case stabX=>rintro pre O1 m1 w1 S m2 w2 ⟨Oc,c,h1,h2,h3,h4,h5,h6⟩ hs hS hj;have hb:w2.heap[w.heap.size]?=w1.heap[w.heap.size]?:=(hs.same _ (ag h2) (hS _ ((h6 _).2 (.inr (.inl rfl))))).1;have hl:w2.heap[w.heap.size+1]?=w1.heap[w.heap.size+1]?:=(hs.same _ (ag h3) (hS _ ((h6 _).2 (.inr (.inr rfl))))).1;exact⟨Oc,c,(hJx c pre).stab _ _ _ _ _ _ h1 hs (fun k hk=>hS k ((h6 k).2 (.inl hk))) hj,hb.trans h2,hl.trans h3,h4,h5,h6⟩
 case lt=>
  rintro pre O1 m1 w1 ⟨Oc,h1,h2,h3,h4,h5,h6⟩ k hk;rcases(h6 k).1 hk with hk|rfl|rfl
  . exact(hJ pre).lt _ _ _ h1 k hk
  . exact⟨ag h2,hKB⟩
  . exact⟨ag h3,afN hKB⟩
 case ltX=>
  rintro pre O1 m1 w1 ⟨Oc,c,h1,h2,h3,h4,h5,h6⟩ k hk;rcases(h6 k).1 hk with hk|rfl|rfl
  . exact(hJx c pre).lt _ _ _ h1 k hk
  . exact⟨ag h2,hKB⟩
  . exact⟨ag h3,afN hKB⟩
 case yield=>
  rintro pre x O1 m1 w1 vs hok ⟨Oc,h1,h2,h3,h4,h5,h6⟩ hvs _;have hvl:vs.size=ps.size:=by have e1:=hvs.length;have e2:=hlen pre x hok;simp only[adD] at e1;omega
  have hy:=run_yield (P:=E.P) (args:=vs) h3 (by rw[hrec];exact hvl);rw[hrec] at hy;refine⟨fn,_,assign,body,hy,roundIn_of_wpIn (F:=bg none) hfn ?_⟩;have hz:(ps.zip vs).foldl (fun tmps (x:Tmp×Value)=>tmps.setIfInBounds x.1 x.2) a.tmps=(ps.toList.zip vs.toList).foldl (fun t x=>t.setIfInBounds x.1 x.2) a.tmps:=by rw[<-Array.foldl_toList,Array.toList_zip]
  have e0:({tmps:=(ps.zip vs).foldl (fun tmps x=>tmps.setIfInBounds x.1 x.2) a.tmps,defers:=[]}:Act)={tmps:=(ps.toList.zip vs.toList).foldl (fun t x=>t.setIfInBounds x.1 x.2) a.tmps,defers:=[]}:=by rw[hz]
  show Code.wpIn (bg (some (w.heap.size+1))) 0 E.P assign _ {tmps:=(ps.zip vs).foldl (fun tmps x=>tmps.setIfInBounds x.1 x.2) a.tmps,defers:=[]} w1;rw[e0];refine wpIn_mono (hassign pre x (w.heap.size+1) Oc m1 w1 vs hok h1 hvs) ?_;rintro e a1 w2 ⟨rfl,m2,O2,hs2,hO2,hj1⟩;have hw1:=ag h3;have hB2:=(hs2.same _ (ag h2) h4).1.trans h2;have hL2:=(hs2.same _ (ag h3) h5).1.trans h3;have hg4: ¬O2 w.heap.size:=fun hg=>by
   rcases hO2 _ hg with hg|hg
   . exact h4 hg
   . omega
  have hg5: ¬O2 (w.heap.size+1):=fun hg=>by
   rcases hO2 _ hg with hg|hg
   . exact h5 hg
   . omega
  refine⟨_,run_beginRound hL2 (by rw[hrec]),?_⟩;have hs3:Step (fun k=>k=w.heap.size+1) m2 w2 m2 (w2.putObj (w.heap.size+1) (.loop {rec .ready none with state:= .busy})):=Step.record hL2;have hj3:=hJs (hJ1w _ _ _ _ _ _ hj1) hs3 (fun k _ e=>by rw[e];exact afN hKB);have hn3:=(hJ1 pre x a1).stab _ _ _ _ _ _ hj1 hs3 (fun k hk e=>hg5 (e▸hk)) hj3;have hL3:(w2.putObj (w.heap.size+1) (.loop {rec .ready none with state:= .busy})).heap[w.heap.size+1]?=some (.loop {rec .ready none with state:= .busy}):=World.putObj_heap_same (ag hL2);have hB3:(w2.putObj (w.heap.size+1) (.loop {rec .ready none with state:= .busy})).heap[w.heap.size]?=some (.deferred (some [])):=(World.putObj_heap_other A0b).trans hB2;show Code.wpIn (bg (some (w.heap.size+1))) 0 E.P body _ a1 _;refine wpIn_mono (hbody pre x (w.heap.size+1) a1 O2 m2 _ hok hn3) ?_;rintro e2 a2 w4 ⟨m4,O4,hs4,hO4,hj4,hend⟩;have hB4:=(hs4.same _ (ag hB3) hg4).1.trans hB3;have hL4:=(hs4.same _ (ag hL3) hg5).1.trans hL3;have fin:∀jump:Option Code,(Instr.endRound (w.heap.size+1) jump).run E.P w4= .ok (.bool jump.isNone) (w4.putObj (w.heap.size+1) (.loop (rec (if jump.isNone then .ready else .done) jump))):=fun jump=>by have:=run_endRound (P:=E.P) jump hL4;rw[hrec] at this⊢;exact this
  have hO6:∀k,O4 k->Oc k∨w1.heap.size<=k:=fun k hk=>by
   rcases hO4 k hk with hk|hk
   . exact hO2 k hk
   . right;have e1:=hs2.ext.size;simp only[World.putObj_size] at hk;omega
  have hn5: ¬O4 w.heap.size:=fun hg=>by
   rcases hO6 _ hg with hg|hg
   . exact h4 hg
   . omega
  have hn6: ¬O4 (w.heap.size+1):=fun hg=>by
   rcases hO6 _ hg with hg|hg
   . exact h5 hg
   . omega
  have all:∀(B:(Nat->Prop)->Lim->World->Prop) (hB:Holds E B) (_:B O4 m4 w4) (jump:Option Code),B O4 m4 (w4.putObj (w.heap.size+1) (.loop (rec (if jump.isNone then .ready else .done) jump)))∧
   (w4.putObj (w.heap.size+1) (.loop (rec (if jump.isNone then .ready else .done) jump))).heap[w.heap.size]?=some (.deferred (some []))∧
   (w4.putObj (w.heap.size+1) (.loop (rec (if jump.isNone then .ready else .done) jump))).heap[w.heap.size+1]?=some (.loop (rec (if jump.isNone then .ready else .done) jump))∧
   E.J (w4.putObj (w.heap.size+1) (.loop (rec (if jump.isNone then .ready else .done) jump)))∧
   Step O1 m1 w1 m4 (w4.putObj (w.heap.size+1) (.loop (rec (if jump.isNone then .ready else .done) jump))):=fun B hB hb jump=>by
   have hs5:Step (fun k=>k=w.heap.size+1) m4 w4 m4 (w4.putObj (w.heap.size+1) (.loop (rec (if jump.isNone then .ready else .done) jump))):=Step.record hL4;have hj5:=hJs hj4 hs5 (fun k _ e=>by rw[e];exact afN hKB);refine⟨hB.stab _ _ _ _ _ _ hb hs5 (fun k hk e=>hn6 (e▸hk)) hj5,(World.putObj_heap_other A0b).trans hB4,World.putObj_heap_same (ag hL4),hj5,?_⟩;have hO:∀k,k=w.heap.size+1->O1 k:=fun k e=>(h6 k).2 (.inr (.inr e))
   refine(((hs2.mono (S1:=O1) (fun k _ hk=>(h6 k).2 (.inl hk))).next hs3 (fun k _ e=>hO k e)).next hs4 (fun k hk hg=>?_)).next hs5 (fun k _ e=>hO k e);rcases hO2 k hg with hg|hg
   . exact(h6 k).2 (.inl hg)
   . omega
  have res:∀k,(O4 k∨k=w.heap.size∨k=w.heap.size+1)->O1 k∨w1.heap.size<=k:=fun k hk=>by
   rcases hk with hk|hk
   . rcases hO6 k hk with hk|hk
     . exact .inl ((h6 k).2 (.inl hk))
     . exact .inr hk
   . exact .inl ((h6 k).2 (.inr hk))
  cases e2 with
  |normal=>obtain⟨q1,q2,q3,q7,q8⟩:=all _ (hJ _) hend none;exact⟨_,_,fin none,m4,fun k=>O4 k∨k=w.heap.size∨k=w.heap.size+1,q8,res,q7,.inl ⟨rfl,O4,q1,q2,q3,hn5,hn6,fun k=>agp⟩⟩
  |ret=>obtain⟨q1,q2,q3,q7,q8⟩:=all _ (hJx .ret _) hend (some .ret);exact⟨_,_,fin (some .ret),m4,fun k=>O4 k∨k=w.heap.size∨k=w.heap.size+1,q8,res,q7,.inr ⟨rfl,O4,.ret,q1,q2,q3,hn5,hn6,fun k=>agp⟩⟩
  |exit id=>obtain⟨q1,q2,q3,q7,q8⟩:=all _ (hJx (.exit id) _) hend (some (.exit id));exact⟨_,_,fin (some (.exit id)),m4,fun k=>O4 k∨k=w.heap.size∨k=w.heap.size+1,q8,res,q7,.inr ⟨rfl,O4,.exit id,q1,q2,q3,hn5,hn6,fun k=>agp⟩⟩
  |goto t=>exact hend.elim
  |panic ch=>exact hend.elim
  |outgrown=>exact hend.elim
 refine⟨w.heap.size+1,[markD w.heap.size],W1,{target:= .fn (.func gf) lb,args:= #[.func (.yield (w.heap.size+1)) #[] #[]]},W1,gf,
  #[.func (.yield (w.heap.size+1)) #[] #[]]++lb,W1,?_,?_,fun _ _=>trivial,?_,(fun e=>by cases e),?_⟩
 . rw[<-hW1,hrec];exact run_enterLoop_outer _ _ _ _ _
 . simp only[resolve,hg];simp[go_sem]
 . simp[invoke,go_sem,hcall]
 . refine cm.2 (hcalls.mono ?_);rintro e w5 ⟨⟨v,rfl⟩,m5,O5,hs5,hO5,hj5,hend⟩;have hO0:∀k,O5 k->k≠w.heap.size->k≠w.heap.size+1->O k∨w.heap.size<=k:=fun k hk h1 h2=>by
    rcases hO5 k hk with(hk|hk|hk)|hk
    . exact .inl hk
    . exact absurd hk h1
    . exact absurd hk h2
    . have:=hbl.size;omega
   have hstep:Step O m w m5 w5:=(hs1.mono (fun _ _ h=>h.elim)).next hs5 (fun k hk hO=>by
    rcases hO with hO|hO|hO
    . exact hO
    . omega
    . omega)
   rcases hend with⟨xs,hD,Oc,q1,q2,q3,q4,q5,q6⟩|⟨pre,Oc,c,q1,q2,q3,q4,q5,q6⟩
   . have hs6:Step (fun k=>k=w.heap.size+1) m5 w5 m5 (w5.putObj (w.heap.size+1) (.loop {rec .ready none with state:= .exhausted})):=Step.record q3;have hj6:=hJs hj5 hs6 (fun k _ e=>by rw[e];exact afN hKB);have hn6:=(hJ xs).stab _ _ _ _ _ _ q1 hs6 (fun k hk e=>q5 (e▸hk)) hj6;refine⟨none,w5.putObj (w.heap.size+1) (.loop {rec .ready none with state:= .exhausted}),?_,?_⟩
     . have h9:=run_endLoop (P:=E.P) q3 (by rw[hrec];simp);have hp:(rec .ready none).pending=none:=by rw[hrec]
       exact h9.trans (ae6 (fun z=>Result.ok z _) hp)
     refine hdone xs Oc m5 _ w.heap.size hD hn6 hj6 (hstep.next hs6 (fun k hk e=>by omega)) (fun k hk=>?_) ⟨adp _,(World.putObj_heap_other A0b).trans q2,q4⟩;exact ZB
   . have hs6:Step (fun k=>k=w.heap.size+1) m5 w5 m5 (w5.putObj (w.heap.size+1) (.loop {rec .done (some c) with state:= .exhausted})):=Step.record q3;have hj6:=hJs hj5 hs6 (fun k _ e=>by rw[e];exact afN hKB);have hn6:=(hJx c pre).stab _ _ _ _ _ _ q1 hs6 (fun k hk e=>q5 (e▸hk)) hj6;refine⟨some c,w5.putObj (w.heap.size+1) (.loop {rec .done (some c) with state:= .exhausted}),?_,?_⟩
     . have h9:=run_endLoop (P:=E.P) q3 (by rw[hrec];simp);have hp:(rec .done (some c)).pending=some c:=by rw[hrec]
       exact h9.trans (ae6 (fun z=>Result.ok z _) hp)
     refine hstop c pre Oc m5 _ w.heap.size hn6 hj6 (hstep.next hs6 (fun k hk e=>by omega)) (fun k hk=>?_) ⟨adp _,(World.putObj_heap_other A0b).trans q2,q4⟩;exact ZB
end
variable{c:Code}
theorem cI{X:Type}(J:X->Act->World->Prop)(μ:X->Nat)(x0:X)(h0:J x0 a w)
 (hround:∀x a w,J x a w->c.wpIn F k P (fun e a' w'=>match e with| .normal=>∃x',J x' a' w'∧μ x'<μ x|e=>Q e a' w') a w):(Code.loop c).wpIn F k P Q a w:=by
 let S:Act->World->Nat->Prop:=fun a w k=>∃x,μ x=k∧J x a w
 let ν:Act->World->Nat:=fun a w=>Classical.epsilon fun k=>S a w k∧∀j,S a w j->k<=j
 have hspec:∀a w,(∃k,S a w k)->S a w (ν a w)∧∀j,S a w j->ν a w<=j:=fun a w ⟨k,hk⟩=>ago (Dy _ k hk)
 refine wpIn_loop (fun a w=>∃k,S a w k) ν ⟨_,x0,rfl,h0⟩ ?_;intro a1 w hS;obtain⟨x,hx,hj⟩:=(hspec a1 w hS).1;refine wpIn_mono (hround x a1 w hj) ?_;intro e a' w' he;cases e with
 |normal=>obtain⟨x',hj',hlt⟩:=he;have hS':S a' w' (μ x'):=⟨x',rfl,hj'⟩;have:ν a' w'<=μ x':=(hspec a' w' ⟨_,hS'⟩).2 _ hS';exact⟨⟨_,hS'⟩,A0b⟩
 |exit id=>exact he
 |goto l=>exact he
 |ret=>exact he
 |panic ch=>exact he
 |outgrown=>exact he
section
variable{E:Env}{n:Nat}{m:Lim}{w:World}{st:St}{a:Act}{O:Nat->Prop}
def Two(E:Env)(n:Nat)(Os:Nat->Prop)(ms:Lim)(ws:World)(A:(Nat->Prop)->Lim->World->Prop)(st:St)(a:Act)(w:World):Prop:=
 ∃m Oi O,Now E n [] Oi m st a w∧A O m w∧(∀k,O k-> ¬Oi k)∧(∀k,Oi k->ws.heap.size<=k)∧(∀k,O k->Os k∨ws.heap.size<=k)∧Step Os ms ws m w
variable{Os:Nat->Prop}{ms:Lim}{ws:World}{A:(Nat->Prop)->Lim->World->Prop}
variable{st':St}
theorem Two.le(h:Two E n Os ms ws A st a w)(hl:Le st' st):Two E n Os ms ws A st' a w:=by obtain⟨m,Oi,O,h1,h2⟩:=h;exact⟨m,Oi,O,h1.le hl,h2⟩
variable{a':Act}{Oi:Nat->Prop}
theorem Two.grown(hA:Holds E A)(h2:A O m w)(h3:∀k,O k-> ¬Oi k)(h4:∀k,Oi k->ws.heap.size<=k)(h5:∀k,O k->Os k∨ws.heap.size<=k)(h6:Step Os ms ws m w)
 (hn:Now E n [] (pK Oi w w') m' st' a' w') (hs:Step Oi m w m' w'):Two E n Os ms ws A st' a' w':=by
 refine⟨m',_,O,hn,hA.stab _ _ _ _ _ _ h2 hs h3 hn.J,fun k hk hg=>?_,fun k hg=>?_,h5,h6.next hs (fun i hi ho=>absurd hi (ad0.2 (h4 i ho)))⟩
 . rcases hg.2 with hg|hg
   . exact h3 k hk hg
   . exact absurd (hA.lt _ _ _ h2 k hk).1 (ad0.2 hg)
 . rcases hg.2 with hg|hg
   . exact h4 k hg
   . exact adJ h6.ext.size hg
variable{W:Nat->Bool}
theorem um(hE:EnvOK E)(hm:E.P.follows .mixedOrders=true)(hA:Holds E A){c:Code}{K:Out->St->Prop}(hok:be E.any n c=true)(hW:mE W c=true)(h:Two E n Os ms ws A st a w)(hr:run E c st K):
 c.wpIn (bg none) 0 E.P (fun e a' w'=>KeepT W a.tmps a'.tmps∧∃o st',eL e=some o∧K o st'∧Two E n Os ms ws A st' a' w') a w:=by
 obtain⟨m,Oi,O,h1,h2,h3,h4,h5,h6⟩:=h;refine wpIn_mono (jA (r:=none) hE hm hok hW h1 hr) ?_;rintro e a' w' ⟨hk,o,st',m',ho,hK,hn,hs⟩;exact⟨hk,o,st',ho,hK,Two.grown hA h2 h3 h4 h5 h6 hn hs⟩
theorem So(hE:EnvOK E)(hA:Holds E A){ops:Array Oper}{i:Nat}{o:Oper}(hi:ops[i]?=some o)(hd:∀k,o.dst=some k->k<n){st':St}(h:Two E n Os ms ws A st a w)(hx:iR E ops o st=some st'){K:Act->World->Prop}{Q:Exit->Act->World->Prop}
 (hK:∀a' w',Two E n Os ms ws A st' a' w'->K a' w'):wpOpIn (bg none) 0 E.P ops Q i K a w:=by
 obtain⟨m,Oi,O,h1,h2,h3,h4,h5,h6⟩:=h;obtain⟨⟨b,β,hrel⟩,hlt⟩:=h1;refine dC (hE.x (.inr (fun _ h=>h))) hrel hi hd hx ?_;intro a' w' m' β' hr;obtain⟨hn,hs⟩:=Now.of_rel hE hlt hr;exact hK _ _ (Two.grown hA h2 h3 h4 h5 h6 hn hs)
variable{l:Nat}
theorem nC{A1 Ax:(Nat->Prop)->Lim->World->Prop}{i:Nat}{o:Oper}(hi:ops[i]?=some o){d:Tmp}(hd:o.dst=some d)(hdn:d<n){c x:Operand}{ts:Array TypeId}(hop:o.op= .call {callee:= .value c,args:= #[x],argTypes:=ts})
 (hg:cu ops st.t o.guard=some true) (hc:ev E st c= .x (.func (.yield l) #[] #[])) (h:Two E n Os ms ws A st a w) {u:V} (hx:ev E st x=u) (hxd:u.bare.dat=true)
 (hy:∀O m1 w1 (vs:Array Value),A O m1 w1->RdL m1 w1 vs.toList [u.bare]->YieldAt (bg none) 0 E.P l vs w1 fun e w2=>∃m2 O2,Step O m1 w1 m2 w2∧(∀k,O2 k->O k∨w1.heap.size<=k)∧E.J w2∧
  ((e= .returned (.bool true)∧A1 O2 m2 w2)∨(e= .returned (.bool false)∧Ax O2 m2 w2)))
 {K:Act->World->Prop} {Q:Exit->Act->World->Prop} (hK1:∀a' w',Two E n Os ms ws A1 (st.put (some d) (.bool true)) a' w'->K a' w') (hK2:∀a' w',Two E n Os ms ws Ax (st.put (some d) (.bool false)) a' w'->K a' w'):wpOpIn (bg none) 0 E.P ops Q i K a w:=by
 obtain⟨m,Oi,O,h1,h2,h3,h4,h5,h6⟩:=h;have hlt:=h1.lt;obtain⟨b,β,hrel⟩:=h1.rel;unfold wpOpIn;rw[hi];simp only;rw[adl (by rw[gb hrel hg])];refine⟨fun _ _=>trivial,?_⟩;rw[Oper.semAt_eq _ _ _ A0J];have hcv:a.eval c= .func (.yield l) #[] #[]:=(hc▸aQ hrel c:Rs m w β (a.eval c) (.x (.func (.yield l) #[] #[]))).x;have hxv:Rd m w (a.eval x) u.bare:=(hx▸aQ hrel x:Rs m w β (a.eval x) u).bare.dat hxd;obtain⟨fn,tmps,assign,body,hyr,hR⟩:=hy O m w #[a.eval x] h2 ⟨hxv,trivial⟩;have hrun:(execOp a.eval o).run E.P w= .ok (.round l fn tmps assign body) w:=by simp only[execOp,hop,resolve,Gc,hcv,Deferred.ofValue,Gd,Ge,invoke];simpa using hyr
 rw[hrun];refine⟨(fun e=>by cases e),RoundIn.mono hR ?_⟩;rintro e w2 ⟨m2,O2,hs,hO2,hJ,hend⟩;have hdis:∀k,Oi k-> ¬O k:=fun k hk ho=>h3 k ho hk
 have fin:∀(A':(Nat->Prop)->Lim->World->Prop) (t:Bool),A' O2 m2 w2->Two E n Os ms ws A' (st.put (some d) (.bool t)) (a.put (some d) (.bool t)) w2:=fun A' t ha=>by
  have hn:=h1.other hs hdis hJ;have hp:=hn.put hdn (v:= .bool t) (u:= .bool t) (.x _);rw[dB] at hp;refine⟨m2,Oi,O2,hp,ha,fun k hk ho=>?_,h4,fun k hk=>?_,h6.next hs (fun i hi ho=>?_)⟩
  . rcases hO2 k hk with hk|hk
    . exact h3 k hk ho
    . exact absurd (hlt k ho) (ad0.2 hk)
  . rcases hO2 k hk with hk|hk
    . exact h5 k hk
    . exact .inr (adJ h6.ext.size hk)
  . rcases h5 i ho with h|h
    . exact h
    . exact absurd hi (ad0.2 h)
 rcases hend with⟨rfl,ha⟩|⟨rfl,ha⟩
 . show K (a.put o.dst (.bool true)) w2;rw[hd];exact hK1 _ _ (fin _ true ha)
 . show K (a.put o.dst (.bool false)) w2;rw[hd];exact hK2 _ _ (fin _ false ha)
variable{vs:Array Value}{us:U}
theorem gx(hr:RdL m w vs.toList us)(hdat:us.all V.dat=true)(hl:us.length=k)(hk:k<=n)(hn1:n<=1000)(hj:E.J w)(hg:∀g,Rd m w (.p g) (E.G g)):
 Rel E n ⟨[],id,[],[]⟩ m w m id (start us) {tmps:=vs++Array.replicate (n-vs.size) undef,defers:=[]} w:=by
 have hlen:=hr.length;simp only[adD] at hlen;have hat:∀i,(start us).t i=(us[i]?).getD .undef:=fun i=>by have:=iW us 0 i;simpa[start] using this
 have hnot:∀i sz es s,(start us).t i= .sl false sz es (some s)->False:=by
  intro i sz es s hi;rw[hat i] at hi;cases hu:us[i]? with
  |none=>rw[hu] at hi;cases hi
  |some u=>exact ZC
 have hnomp:∀i s ks vs,(start us).t i= .mp s ks vs->False:=by
  intro i s ks vs hi;rw[hat i] at hi;cases hu:us[i]? with
  |none=>rw[hu] at hi;cases hi
  |some u=>exact ZC
 have hnob:∀v sz es s,Bear E w id (start us) (fun i=>(vs++Array.replicate (n-vs.size) undef).getD i undef) v (.sl false sz es (some s))->False:=by
  intro v sz es s hi;rcases hi with⟨i,h1,_⟩|⟨k',c,j,_,h2,_⟩
  . exact hnot i sz es s h1
  . simp[start] at h2
 refine⟨fun i=>?_,A0F,fun s cs hs=>by simp[start] at hs,fun s s' cs cs' hs=>by simp[start] at hs,Bel.refl _ _,⟨hn1,fun _ _=>rfl,fun x hx=>by cases hx⟩,⟨fun _ _ _=>rfl,Ext.refl _ _,fun x hx=>by cases hx⟩,⟨id,fun v sz es s hi=>(hnob v sz es s hi).elim,fun v sz es s v' sz' es' s' hi=>(hnob v sz es s hi).elim,fun v sz es s k cs hi=>(hnob v sz es s hi).elim⟩,fun i s sz len cs hi hs=>by simp[start] at hs,rfl,hg,hj,⟨fun i s ks vs hi=>(hnomp i s ks vs hi).elim,fun i j s s' ks vs ks' vs' hi=>(hnomp i s ks vs hi).elim⟩⟩;show Rs m w id _ ((start us).t i);rw[hat i];rcases aeb i us.length with h'|h'
 . have hu:us[i]?=some us[i]:=io h';have hv:vs.toList[i]?=some (vs[i]' A0b):=A0k
   rw[hu];have h1:(vs++Array.replicate (n-vs.size) undef).getD i undef=vs[i]' A0b:=by rw[adC,aet A0b,adG A0b];rfl
   simp only[h1,aeI];exact .of (hr.get i _ _ hv hu)
 . rw[adM h'];exact .of (.undef _)
theorem un{gf:FuncId}{fn:Func}{lb:Array Value}{Ok Done:List U->Prop}{G:Nat->Prop}(hf:E.P.funcs[gf]?=some fn)(hb:fn.body=some c)(hn:fn.ntmps=n)(hres:fn.results= #[])(hl:us.length+1<=n)(hn1:n<=1000)
 (hr:RdL m w lb.toList us) (hdat:us.all V.dat=true) (hg:∀g,Rd m w (.p g) (E.G g))
 (hbody:∀(l:Nat) (A Ax:List U->(Nat->Prop)->Lim->World->Prop) (a:Act) (O:Nat->Prop),(∀pre,Holds E (A pre))->(∀pre,Holds E (Ax pre))->
  (∀pre x O m1 w1 (vs:Array Value),Ok (pre++[x])->A pre O m1 w1->RdL m1 w1 vs.toList x->x.all V.dat=true->
   YieldAt (bg none) 0 E.P l vs w1 fun e w2=>∃m2 O2,Step O m1 w1 m2 w2∧(∀k,O2 k->O k∨w1.heap.size<=k)∧E.J w2∧
    ((e= .returned (.bool true)∧A (pre++[x]) O2 m2 w2)∨(e= .returned (.bool false)∧Ax (pre++[x]) O2 m2 w2)))->
  Two E n O m w (A []) (start (.x (.func (.yield l) #[] #[])::us)) a w->(∀k,O k-> ¬G k)->
  c.wpIn (bg none) 0 E.P (fun e a' w'=>(e= .normal∨e= .ret)∧((∃xs st',Done xs∧Two E n O m w (A xs) st' a' w')∨∃pre st',Two E n O m w (Ax pre) st' a' w')) a w):j9 E G gf lb Ok Done m w:=by
 intro l A Ax O hA hX hlt hltx hy h0 hOG hj;have hr1:RdL m w (#[Value.func (.yield l) #[] #[]]++lb).toList (.x (.func (.yield l) #[] #[])::us):=by rw[Array.toList_append];exact⟨.x _,hr⟩
 have hrel:=gx (E:=E) (n:=n) (k:=us.length+1) hr1 (by rw[aeo,hdat];rfl) rfl hl hn1 hj hg;have hnow:=Now.first hrel;have hHA:∀pre,Holds E (A pre):=fun pre=>⟨fun O m1 w1 S m2 w2=>hA pre O m1 w1 S m2 w2,fun O m1 w1=>hlt pre O m1 w1⟩
 have hHX:∀pre,Holds E (Ax pre):=fun pre=>⟨fun O m1 w1 S m2 w2=>hX pre O m1 w1 S m2 w2,fun O m1 w1=>hltx pre O m1 w1⟩
 have hwp:=hbody l A Ax _ O hHA hHX hy ⟨m,_,O,hnow,h0,fun _ _ h=>h,fun _ h=>h.elim,fun _ h=> .inl h,Step.refl _ _ _⟩ hOG;refine cm.1 (callsIn_of_wp (F:=bg none) (n:=0) hf hb trivial ?_);rw[hn];refine wpIn_mono hwp ?_;rintro e a' w' ⟨he,hend⟩;have hd:a'.defers=[]∧∃m' O',Step O m w m' w'∧(∀k,O' k->O k∨w.heap.size<=k)∧E.J w'∧((∃xs,Done xs∧A xs O' m' w')∨∃pre,Ax pre O' m' w'):=by
  rcases hend with⟨xs,st',hD,m',Oi,O',h1,h2,h3,h4,h5,h6⟩|⟨pre,st',m',Oi,O',h1,h2,h3,h4,h5,h6⟩
  . exact⟨by obtain⟨_,_,hr⟩:=h1.rel;exact hr.defers,m',O',h6,h5,h1.J,.inl ⟨xs,hD,h2⟩⟩
  . exact⟨by obtain⟨_,_,hr⟩:=h1.rel;exact hr.defers,m',O',h6,h5,h1.J,.inr ⟨pre,h2⟩⟩
 have hfin:a'.defers=[]∧∃v,(results fn a'.tmps).run E.P w'= .ok v w'∧((∃v',Ending.returned v= .returned v')∧∃m' O',Step O m w m' w'∧(∀k,O' k->O k∨w.heap.size<=k)∧E.J w'∧((∃xs,Done xs∧A xs O' m' w')∨∃pre,Ax pre O' m' w')):=
  ⟨hd.1,_,results_none hres _ _ _,⟨_,rfl⟩,hd.2⟩
 rcases he with rfl|rfl
 . exact hfin
 . exact hfin
end
def pN(ts:List (Nat×V))(bs:List (Nat×U)):Out->St->Prop
 | .normal,st=>gw st ts∧gL st bs
 | .ret,_=>False
 | .exit _,_=>False
def wU(id:Nat)(ts:List (Nat×V))(bs:List (Nat×U)):Out->St->Prop
 | .normal,_=>False
 | .ret,_=>False
 | .exit i,st=>i=id∧gw st ts∧gL st bs
def JR(ts:List (Nat×V))(bs:List (Nat×U)):Out->St->Prop
 | .normal,_=>False
 | .ret,st=>gw st ts∧gL st bs
 | .exit _,_=>False
section
variable(ts:List (Nat×V))(bs:List (Nat×U))(st:St)(id i:Nat)
theorem JS:JR ts bs .ret st=(gw st ts∧gL st bs):=rfl
theorem wW:pN ts bs .normal st=(gw st ts∧gL st bs):=rfl
theorem F3:pN ts bs (.exit id) st=False:=rfl
theorem F4:wU id ts bs (.exit i) st=(i=id∧gw st ts∧gL st bs):=rfl
end
attribute [go_sem] JS wW F3 F4
section
variable{E:Env}{n:Nat}{ms:Lim}{ws:World}{st:St}{a:Act}{w:World}{Os:Nat->Prop}{A:(Nat->Prop)->Lim->World->Prop}
theorem dl(hE:EnvOK E)(hm:E.P.follows .mixedOrders=true)(hA:Holds E A){c:Code}(ts:List (Nat×V))(bs:List (Nat×U))(hok:be E.any n c=true)(h:Two E n Os ms ws A st a w)(hr:run E c st (pN ts bs)){Q:Exit->Act->World->Prop}
 (hQ:∀a' w',Two E n Os ms ws A (aq ts bs) a' w'->Q .normal a' w'):c.wpIn (bg none) 0 E.P Q a w:=by
 refine wpIn_mono (um (W:=fun _=>true) hE hm hA hok (ik c) h hr) ?_;rintro e a' w' ⟨_,o,st',ho,hK,ht⟩;cases o with
 |ret=>exact hK.elim
 |exit id=>exact hK.elim
 |normal=>exact ZE
theorem DH(hE:EnvOK E)(hm:E.P.follows .mixedOrders=true)(hA:Holds E A){c:Code}(id:Nat)(ts:List (Nat×V))(bs:List (Nat×U))(hok:be E.any n c=true)(h:Two E n Os ms ws A st a w)(hr:run E c st (wU id ts bs)){Q:Exit->Act->World->Prop}
 (hQ:∀a' w',Two E n Os ms ws A (aq ts bs) a' w'->Q (.exit id) a' w'):c.wpIn (bg none) 0 E.P Q a w:=by
 refine wpIn_mono (um (W:=fun _=>true) hE hm hA hok (ik c) h hr) ?_;rintro e a' w' ⟨_,o,st',ho,hK,ht⟩;cases o with
 |ret=>exact hK.elim
 |normal=>exact hK.elim
 |exit i=>exact ZD
theorem DI(hE:EnvOK E)(hm:E.P.follows .mixedOrders=true)(hA:Holds E A){c:Code}(ts:List (Nat×V))(bs:List (Nat×U))(hok:be E.any n c=true)(h:Two E n Os ms ws A st a w)(hr:run E c st (JR ts bs)){Q:Exit->Act->World->Prop}
 (hQ:∀a' w',Two E n Os ms ws A (aq ts bs) a' w'->Q .ret a' w'):c.wpIn (bg none) 0 E.P Q a w:=by
 refine wpIn_mono (um (W:=fun _=>true) hE hm hA hok (ik c) h hr) ?_;rintro e a' w' ⟨_,o,st',ho,hK,ht⟩;cases o with
 |normal=>exact hK.elim
 |exit id=>exact hK.elim
 |ret=>exact ZE
theorem QE(hE:EnvOK E)(hA:Holds E A){ops:List Oper}{Q:Exit->Act->World->Prop}(ts:List (Nat×V))(bs:List (Nat×U))(rest:List Nat):∀(l:List Oper) (is:List Nat) (st:St) (a:Act) (w:World),(is.map fun i=>ops[i]?)=l.map some->bu n l=true->
 Two E n Os ms ws A st a w->(bH E ⟨ops⟩ l st fun st'=>gw st' ts∧gL st' bs)->(∀a' w',Two E n Os ms ws A (aq ts bs) a' w'->wpOpsIn (bg none) 0 E.P ⟨ops⟩ Q rest a' w')->wpOpsIn (bg none) 0 E.P ⟨ops⟩ Q (is++rest) a w
 |[],[],st,a,w,_,_,h,hr,hK=>hK a w (h.le (aK hr.1 hr.2))
 |[],i::is,st,a,w,hi,_,h,hr,hK=>by simp at hi
 |o::l,[],st,a,w,hi,_,h,hr,hK=>by simp at hi
 | o::l,i::is,st,a,w,hi,hd,h,hr,hK=>by
   rw[aee,wpOpsIn_cons];simp only[adL,adW] at hi;obtain⟨st',hs,hl,hb⟩:=da _ _ hr;unfold eV at hs;split at hs
   . rename_i st1 h1;refine So hE hA (by simpa using hi.1) (du hd A0k) h h1 (fun a' w' h'=>?_);refine QE hE hA ts bs rest l is st1 a' w' hi.2 ?_ h' (gI _ _ hs ⟨hl,hb⟩) hK;simp only[bu,aeo,ado] at hd;exact hd.2
   . cases hs
theorem iX(ops:List Oper)(k j:Nat)(h:k+j<=ops.length):((List.range' k j).map fun i=>ops[i]?)=((ops.drop k).take j).map some:=by
 apply aeB;intro i;rw[ac9,ac9,ad6];by_cases hi:i<j
 . rw[List.getElem?_range' hi,adl hi,aeA];simp only[aea,afu];rw[io A0b];rfl
 . rw[adq hi,adM A0F];rfl
theorem fZ(hE:EnvOK E)(hA:Holds E A){ops:List Oper}{Q:Exit->Act->World->Prop}(k j:Nat)(ts:List (Nat×V))(bs:List (Nat×U))(rest:List Nat)(hl:k+j<=ops.length)(hd:bu n ((ops.drop k).take j)=true)
 (h:Two E n Os ms ws A st a w) (hr:bH E ⟨ops⟩ ((ops.drop k).take j) st fun st'=>gw st' ts∧gL st' bs) (hK:∀a' w',Two E n Os ms ws A (aq ts bs) a' w'->wpOpsIn (bg none) 0 E.P ⟨ops⟩ Q rest a' w'):wpOpsIn (bg none) 0 E.P ⟨ops⟩ Q (List.range' k j++rest) a w:=
 QE hE hA ts bs rest _ _ st a w (iX ops k j hl) hd h hr hK
end
structure Marks (D:List Deferred) (O:Nat->Prop) (lo:Nat) (w:World):Prop where
 nd:D.Nodup
 is:∀d∈D,∃b,d=markD b∧lo<=b∧w.heap[b]?=some (.deferred (some []))∧ ¬O b
structure Kno where
 P:Lim->World->Prop
 mono:∀m w m' w',P m w->Ext m w m' w'->P m' w'
def Kno.top:Kno:=⟨fun _ _=>True,fun _ _ _ _ _ _=>trivial⟩
def Kno.rd(v:Value)(u:V):Kno:=⟨fun m w=>Rd m w v u,fun _ _ _ _ h he=>h.mono he⟩
structure Bs where
 D:List Deferred
 Kn:Kno
 W:Nat->Bool
 t0:Array Value
 Os:Nat->Prop
 ms:Lim
 ws:World
def One(E:Env)(n:Nat)(B:Bs)(st:St)(a:Act)(w:World):Prop:=
 ∃m O,Now E n B.D O m st a w∧(∀k,O k->B.Os k∨B.ws.heap.size<=k)∧Step B.Os B.ms B.ws m w∧Marks B.D O B.ws.heap.size w∧B.Kn.P m w∧KeepT B.W B.t0 a.tmps
section
variable(W:Nat->Bool)(ko:List U->Prop)(I:List U->St)(Jx:Code->List U->St->Prop)(pre:List U)(st:St)(id:Nat)
theorem XV(i:Nat):(sH W st).t i=bif W i then .undef else st.t i:=rfl
theorem OK{st:St}(s n tok:Nat)(pre post:U){n0:Nat}{k0:Option Nat}(h:st.b s=some (pre++ .sl true n0 [] k0::post)):Le ⟨st.t,upd st.b s (some (pre++ .sl true n [] (some tok)::post))⟩ st:=by
 refine⟨fun _=> .inr (.inl rfl),fun s' cs' hs'=>?_⟩;have hs':upd st.b s (some (pre++ .sl true n [] (some tok)::post)) s'=some cs':=hs';by_cases e:s'=s
 . subst e;rw[aj] at hs';cases hs';refine⟨_,h,A0k,fun i u' u hu' hu=>?_⟩;by_cases hi:i<pre.length
   . rw[adu hi] at hu hu';rw[hu] at hu';cases hu';exact .inr (.inl rfl)
   . rw[adH A0b] at hu hu';cases hj:i-pre.length with
     |zero=>rw[hj] at hu hu';cases hu;cases hu';exact .inr (.inr ⟨_,_,_,_,rfl,rfl⟩)
     |succ j=>rw[hj] at hu hu';rw[aeV] at hu hu';rw[hu] at hu';cases hu';exact .inr (.inl rfl)
 . rw[ah _ _ e] at hs';exact⟨cs',hs',fG _⟩
theorem uo(W:Nat->Bool)(st:St):∀{l:List (Nat×U)},gL st l->gL (sH W st) l
 |[],_=>trivial
 |(_,_)::_,h=>⟨h.1,uo W st h.2⟩
theorem XW(i:Nat):(sH W st).b i=st.b i:=rfl
theorem F5(p:Tmp)(ps:List Tmp)(u:V)(us:U)(s:St):ul (p::ps) (u::us) s=ul ps us (s.put (some p) u.bare):=rfl
theorem JV(us:U)(s:St):ul [] us s=s:=by cases us<;>rfl
end
attribute [go_sem] XV XW F5 JV
section
variable{E:Env}{n:Nat}{D:List Deferred}{B:Bs}{m ms:Lim}{ws w:World}{st:St}{a:Act}{O:Nat->Prop}{r:Option Nat}
variable{st':St}
theorem One.le(h:One E n B st a w)(hl:Le st' st):One E n B st' a w:=by obtain⟨m,O,h1,h2⟩:=h;exact⟨m,O,h1.le hl,h2⟩
variable{a':Act}
theorem One.grown(h2:∀k,O k->B.Os k∨B.ws.heap.size<=k)(h3:Step B.Os B.ms B.ws m w)(h4:Marks B.D O B.ws.heap.size w)(h5:B.Kn.P m w)(hkt:KeepT B.W B.t0 a'.tmps)
 (hn:Now E n B.D (pK O w w') m' st' a' w') (hs:Step O m w m' w'):One E n B st' a' w':=by
 refine⟨m',_,hn,fun k hg=>?_,h3.next hs (fun i hi ho=>(h2 i ho).resolve_right (afg.2 hi)),⟨h4.nd,fun d hd=>?_⟩,B.Kn.mono _ _ _ _ h5 hs.ext,hkt⟩
 . rcases hg.2 with hg|hg
   . exact h2 k hg
   . exact .inr (adJ h3.ext.size hg)
 . obtain⟨b,rfl,q1,q2,q3⟩:=h4.is d hd;refine⟨b,rfl,q1,(hs.same b (ag q2) q3).1.trans q2,fun hg=>?_⟩;rcases hg.2 with hg|hg
   . exact q3 hg
   . exact absurd (ag q2) (ad0.2 hg)
theorem up(hE:EnvOK E)(hm:E.P.follows .mixedOrders=true){c:Code}{K:Out->St->Prop}(hok:be E.any n c=true)(hW:mE B.W c=true)(h:One E n B st a w)(hr:run E c st K):
 c.wpIn (bg r) 0 E.P (fun e a' w'=>∃o st',eL e=some o∧K o st'∧One E n B st' a' w') a w:=by
 obtain⟨m,O,h1,h2,h3,h4,h5,h6⟩:=h;refine wpIn_mono (jA (r:=r) (W:=B.W) hE hm hok hW h1 hr) ?_;rintro e a' w' ⟨hk,o,st',m',ho,hK,hn,hs⟩;exact⟨o,st',ho,hK,One.grown h2 h3 h4 h5 (h6.trans hk) hn hs⟩
theorem fk(hE:EnvOK E)(hm:E.P.follows .mixedOrders=true){c:Code}(ts:List (Nat×V))(bs:List (Nat×U))(hok:be E.any n c=true)(hW:mE B.W c=true)(h:One E n B st a w)(hr:run E c st (pN ts bs)){Q:Exit->Act->World->Prop}
 (hQ:∀a' w',One E n B (aq ts bs) a' w'->Q .normal a' w'):c.wpIn (bg r) 0 E.P Q a w:=by
 refine wpIn_mono (up hE hm hok hW h hr) ?_;rintro e a' w' ⟨o,st',ho,hK,ht⟩;cases o with
 |ret=>exact hK.elim
 |exit id=>exact hK.elim
 |normal=>exact ZE
theorem JW(hE:EnvOK E)(hm:E.P.follows .mixedOrders=true){c:Code}(id:Nat)(ts:List (Nat×V))(bs:List (Nat×U))(hok:be E.any n c=true)(hW:mE B.W c=true)(h:One E n B st a w)(hr:run E c st (wU id ts bs)){Q:Exit->Act->World->Prop}
 (hQ:∀a' w',One E n B (aq ts bs) a' w'->Q (.exit id) a' w'):c.wpIn (bg r) 0 E.P Q a w:=by
 refine wpIn_mono (up hE hm hok hW h hr) ?_;rintro e a' w' ⟨o,st',ho,hK,ht⟩;cases o with
 |ret=>exact hK.elim
 |normal=>exact hK.elim
 |exit i=>exact ZD
theorem wZ(hE:EnvOK E)(hm:E.P.follows .mixedOrders=true){c:Code}(ts:List (Nat×V))(bs:List (Nat×U))(hok:be E.any n c=true)(h:One E n B st a w)(hr:run E c st (pN ts bs)){Q:Exit->Act->World->Prop}
 (hQ:∀a' w',One E n B (aq ts bs) a' w'->Q .normal a' w') (hW:B.W=fun _=>true:=by rfl):c.wpIn (bg r) 0 E.P Q a w:=
 fk hE hm ts bs hok (by rw[hW];exact ik c) h hr hQ
theorem DJ(hE:EnvOK E){ops:List Oper}{Q:Exit->Act->World->Prop}(ts:List (Nat×V))(bs:List (Nat×U))(rest:List Nat):∀(l:List Oper) (is:List Nat) (st:St) (a:Act) (w:World),(is.map fun i=>ops[i]?)=l.map some->bu n l=true->ol B.W l=true->ol B.W ops=true->
 One E n B st a w->(bH E ⟨ops⟩ l st fun st'=>gw st' ts∧gL st' bs)->(∀a' w',One E n B (aq ts bs) a' w'->wpOpsIn (bg r) 0 E.P ⟨ops⟩ Q rest a' w')->wpOpsIn (bg r) 0 E.P ⟨ops⟩ Q (is++rest) a w
 |[],[],st,a,w,_,_,_,_,h,hr,hK=>hK a w (h.le (aK hr.1 hr.2))
 |[],i::is,st,a,w,hi,_,_,_,h,hr,hK=>by simp at hi
 |o::l,[],st,a,w,hi,_,_,_,h,hr,hK=>by simp at hi
 | o ::l,i::is,st,a,w,hi,hd,hW,hWo,h,hr,hK=>by
   rw[aee,wpOpsIn_cons];simp only[adL,adW] at hi;obtain⟨st',hs,hl,hb⟩:=da _ _ hr;unfold eV at hs;split at hs
   . rename_i st1 h1;obtain⟨m,O,q1,q2,q3,q4,q5,q6⟩:=h;have hlt:=q1.lt;obtain⟨b,β,hrel⟩:=q1.rel;have hi1:(⟨ops⟩:Array Oper)[i]?=some o:=by simpa using hi.1
     have hwp:wpOpIn (bg r) 0 E.P ⟨ops⟩ Q i (fun a' w'=>One E n B st1 a' w'∨(∃m' β',Rel E n ⟨lst O w.heap.size,b,lst O w.heap.size,B.D⟩ m w m' β' st1 a' w')) a w:=dC (hE.x (.inr (fun _ h=>h))) hrel hi1 (du hd A0k) h1 (fun a' w' m' β' hr'=> .inr ⟨m',β',hr'⟩);have hkeep:=eQ (W:=B.W) (t:=B.t0) (by simpa using hWo) q6 (K':=fun a' w'=>One E n B st1 a' w') (fun a' w' hK' hkt=>by
      rcases hK' with hK'|⟨m',β',hr'⟩
      . exact hK'
      . obtain⟨hn,hst⟩:=Now.of_rel hE hlt hr';exact One.grown q2 q3 q4 q5 hkt hn hst) hwp
     have hWl:ol B.W l=true:=by simp only[ol,aeo,ado] at hW;exact hW.2
     have hdl:bu n l=true:=by simp only[bu,aeo,ado] at hd;exact hd.2
     exact it (fun a' w' h'=>DJ hE ts bs rest l is st1 a' w' hi.2 hdl hWl hWo h' (gI _ _ hs ⟨hl,hb⟩) hK) (fun e a' w' h'=>h'.1) hkeep
   . cases hs
theorem fR(hE:EnvOK E){ops:List Oper}{Q:Exit->Act->World->Prop}(k j:Nat)(ts:List (Nat×V))(bs:List (Nat×U))(rest:List Nat)(hl:k+j<=ops.length)(hd:bu n ((ops.drop k).take j)=true)(hW:ol B.W ops=true)
 (h:One E n B st a w) (hr:bH E ⟨ops⟩ ((ops.drop k).take j) st fun st'=>gw st' ts∧gL st' bs) (hK:∀a' w',One E n B (aq ts bs) a' w'->wpOpsIn (bg r) 0 E.P ⟨ops⟩ Q rest a' w'):wpOpsIn (bg r) 0 E.P ⟨ops⟩ Q (List.range' k j++rest) a w:=
 DJ hE ts bs rest _ _ st a w (iX ops k j hl) hd (adr.2 (fun o ho=>adr.1 hW o (af9 (afL ho)))) hW h hr hK
theorem DK(hE:EnvOK E){ops:List Oper}{Q:Exit->Act->World->Prop}(k j:Nat)(ts:List (Nat×V))(bs:List (Nat×U))(rest:List Nat)(hl:k+j<=ops.length)(hd:bu n ((ops.drop k).take j)=true)
 (h:One E n B st a w) (hr:bH E ⟨ops⟩ ((ops.drop k).take j) st fun st'=>gw st' ts∧gL st' bs) (hK:∀a' w',One E n B (aq ts bs) a' w'->wpOpsIn (bg r) 0 E.P ⟨ops⟩ Q rest a' w') (hW:B.W=fun _=>true:=by rfl):wpOpsIn (bg r) 0 E.P ⟨ops⟩ Q (List.range' k j++rest) a w:=
 fR hE k j ts bs rest hl hd (by rw[hW];exact adr.2 (fun o _=>by cases o.dst<;>rfl)) h hr hK
variable{d:Tmp}
theorem One.after{Kn':Kno}(hd:d<n){v:Value}{u:V}(h1:Now E n B.D O m st a w)(h2:∀k,O k->B.Os k∨B.ws.heap.size<=k)(h3:Step B.Os B.ms B.ws m w)(h4:Marks B.D O B.ws.heap.size w)(h6:KeepT B.W B.t0 a.tmps)(hWd:B.W d=true)(hs:Step (fun _=>False) m w m' w')(hJ:E.J w')(hv:Rd m' w' v u)(hk:Kn'.P m' w'):
 One E n {B with Kn:=Kn'} (st.put (some d) u.bare) (a.put (some d) v) w':=by
 refine⟨m',O,(h1.other hs (fun _ _ h=>h) hJ).put hd hv,h2,h3.next hs (fun _ _ h=>h.elim),⟨h4.nd,fun x hx=>?_⟩,hk,h6.put (fun k e=>by cases e;exact hWd)⟩;obtain⟨b,rfl,q1,q2,q3⟩:=h4.is x hx;exact⟨b,rfl,q1,(hs.same b (ag q2) (fun h=>h)).1.trans q2,q3⟩
theorem pP(Kn':Kno){ops:List Oper}{Q:Exit->Act->World->Prop}{i:Nat}{rest:List Nat}{o:Oper}{d:Tmp}{f:FuncId}{args:Array Operand}{ts:Array TypeId}{R:Ending->World->Prop}(hi:ops[i]?=some o)(hop:o.op= .call {callee:= .value (.func f),args:=args,argTypes:=ts})(hd:o.dst=some d)(hdn:d<n)(hg:o.guard=none)
 (hcall:∀args w,(callFunc f args).run E.P w= .ok (.enter f args) w) (h:One E n B st a w)
 (hc:∀m O,Now E n B.D O m st a w->B.Kn.P m w->Calls E.P f (args.map a.eval) w R)
 (hR:∀m O,Now E n B.D O m st a w->B.Kn.P m w->∀e w',R e w'->∃v m' u,e= .returned v∧Step (fun _=>False) m w m' w'∧E.J w'∧Rd m' w' v u∧Kn'.P m' w'∧(One E n {B with Kn:=Kn'} (st.put (some d) u.bare) (a.put (some d) v) w'->wpOpsIn (bg r) 0 E.P ⟨ops⟩ Q rest (a.put (some d) v) w')) (hWd:B.W d=true:=by rfl):wpOpsIn (bg r) 0 E.P ⟨ops⟩ Q (i::rest) a w:=by
 obtain⟨m,O,h1,h2,h3,h4,h5,h6⟩:=h;rw[wpOpsIn_cons];unfold wpOpIn;have hi':(⟨ops⟩:Array Oper)[i]?=some o:=A0m
 rw[hi'];simp only;rw[adl A0u];refine⟨fun _ _=>trivial,?_⟩;rw[Oper.semAt_eq _ _ _ A0J];have hrun:(execOp a.eval o).run E.P w= .ok (.enter f (args.map a.eval)) w:=by simp only[execOp,hop,resolve,Gc,Act.eval,Deferred.ofValue,Gd,Ge,invoke];simpa using hcall _ _
 rw[hrun];refine⟨(fun e=>by cases e),cm.2 ((hc m O h1 h5).mono ?_)⟩;intro e w' hr;obtain⟨v,m',u,rfl,hs,hJ,hv,hk,hK⟩:=hR m O h1 h5 e w' hr;show wpOpsIn (bg r) 0 E.P ⟨ops⟩ Q rest (a.put o.dst v) w';rw[hd];exact hK (One.after hdn h1 h2 h3 h4 h6 hWd hs hJ hv hk)
theorem now_holds(E:Env)(n:Nat)(D:List Deferred)(Kn:Kno)(st:St)(a:Act):Holds E (fun O m w=>Now E n D O m st a w∧Kn.P m w):=
 ⟨fun _ _ _ _ _ _ h hs hS hJ=>⟨h.1.other hs hS hJ,Kn.mono _ _ _ _ h.2 hs.ext⟩,fun _ _ _ h k hk=>⟨h.1.lt k hk,h.1.K k hk⟩⟩
theorem pQ(hE:EnvOK E)(h:One E n B st a w){g:Operand}{ps:Array Tmp}{assign body:Code}{Q:Exit->Act->World->Prop}{gf:FuncId}{lb:Array Value}(W:Nat->Bool)
 (hg:a.eval g= .func (.func gf) #[] lb) (hcall:∀args w,(callFunc gf args).run E.P w= .ok (.enter gf args) w) {Ok Done:List U->Prop} {G:Nat->Prop} (hG:∀k,G k->k<B.ws.heap.size∧ ¬B.Os k)
 (hit:∀m O,Now E n B.D O m st a w->B.Kn.P m w->Step B.Os B.ms B.ws m w->∀m1 w1,Step (fun _=>False) m w m1 w1->E.J w1->j9 E G gf lb Ok Done m1 w1)
 (hps:∀p∈ps.toList,W p=true∧p<n) (hlen:∀pre x,Ok (pre++[x])->x.length=ps.size)
 (ko:List U->Prop) (I:List U->St) (S1:List U->U->St) (Jx:Code->List U->St->Prop) (hi0:ko []) (h0:Le (I []) st)
 (hassign:∀pre x l B' a1 w1,Ok (pre++[x])->ko pre->B'.D=[]->B'.Kn=B.Kn->B'.W=W->B'.t0=a.tmps->One E n B' (ul ps.toList x (I pre)) a1 w1->assign.wpIn (bg (some l)) 0 E.P (fun e a2 w2=>e= .normal∧One E n B' (S1 pre x) a2 w2) a1 w1)
 (hbody:∀pre x l B' a1 w1,Ok (pre++[x])->ko pre->B'.D=[]->B'.Kn=B.Kn->B'.W=W->B'.t0=a.tmps->One E n B' (S1 pre x) a1 w1->body.wpIn (bg (some l)) 0 E.P (fun e a2 w2=>∃st',One E n B' st' a2 w2∧(match e with| .normal=>ko (pre++[x])∧Le (I (pre++[x])) (sH W st')| .ret=>Jx .ret (pre++[x]) (sH W st')| .exit id=>Jx (.exit id) (pre++[x]) (sH W st')|_=>False)) a1 w1)
 (hdone:∀xs b a' w',Done xs->ko xs->a'.tmps=a.tmps->One E n {B with D:=markD b::B.D} (I xs) a' w'->Q .normal a' w')
 (hstop:∀c pre st2 b a' w',Jx c pre st2->One E n {B with D:=markD b::B.D} st2 a' w'->c.wpIn (bg none) 0 E.P Q a' w'):(Code.rangeFunc g ps assign body).wpIn (bg none) 0 E.P Q a w:=by
 obtain⟨m,O,h1,h2,h3,h4,h5,h6⟩:=h;have hd0:a.defers=B.D:=by obtain⟨_,_,hr⟩:=h1.rel;exact hr.defers
 have hz0:a.tmps.size=n:=by obtain⟨_,_,hr⟩:=h1.rel;exact hr.size
 have fin:∀{st2:St} {O':Nat->Prop} {m':Lim} {w':World} {b:Nat},Now E n B.D O' m' st2 a w'->B.Kn.P m' w'->Step O m w m' w'->(∀k,O' k->O k∨w.heap.size<=k)->Mk O' w.heap.size b w'->One E n {B with D:=markD b::B.D} st2 {a with defers:=markD b::a.defers} w':=by
  intro st2 O' m' w' b q1 hkn q2 q3 q4;refine⟨m',O',q1.marks rfl (by show markD b::a.defers=_;rw[hd0]),fun k hk=>?_,h3.next q2 (fun i hi ho=>(h2 i ho).resolve_right (afg.2 hi)),⟨adY.2 ⟨fun hmem=>?_,h4.nd⟩,fun d hd=>?_⟩,hkn,h6⟩
  . rcases q3 k hk with hk|hk
    . exact h2 k hk
    . exact .inr (adJ h3.ext.size hk)
  . obtain⟨b',e,_,r2,_⟩:=h4.is _ hmem;have:b=b':=by simpa[markD] using e
    have:=ag r2;have:=q4.lo;omega
  . rcases adA.1 hd with rfl|hd
    . exact⟨b,rfl,adJ h3.ext.size q4.lo,q4.is,q4.no⟩
    . obtain⟨b',rfl,r1,r2,r3⟩:=h4.is d hd;refine⟨b',rfl,r1,(q2.same b' (ag r2) r3).1.trans r2,fun hO=>?_⟩;rcases q3 b' hO with hO|hO
      . exact r3 hO
      . exact absurd (ag r2) (ad0.2 hO)
 refine sI hE h1.J hg hcall (fun k hk=>⟨ad1 (hG k hk).1 h3.ext.size,fun hO=>by
  rcases h2 k hO with h|h
  . exact(hG k hk).2 h
  . exact absurd (hG k hk).1 (ad0.2 h)⟩) (hit m O h1 h5 h3) hlen
  (fun pre O' m' w'=>ko pre∧Now E n B.D O' m' (I pre) a w'∧B.Kn.P m' w')
  (fun pre x a1 O' m' w'=>ko pre∧(Now E n [] O' m' (S1 pre x) a1 w'∧B.Kn.P m' w')∧KeepT W a.tmps a1.tmps)
  (fun c pre O' m' w'=>∃st2,Jx c pre st2∧Now E n B.D O' m' st2 a w'∧B.Kn.P m' w')
  (fun pre=>⟨fun _ _ _ _ _ _ h hs hS hJ=>⟨h.1,(now_holds E n B.D B.Kn (I pre) a).stab _ _ _ _ _ _ h.2 hs hS hJ⟩,fun _ _ _ h=>(now_holds E n B.D B.Kn (I pre) a).lt _ _ _ h.2⟩)
  (fun pre x a1=>⟨fun _ _ _ _ _ _ h hs hS hJ=>⟨h.1,(now_holds E n [] B.Kn (S1 pre x) a1).stab _ _ _ _ _ _ h.2.1 hs hS hJ,h.2.2⟩,fun _ _ _ h=>(now_holds E n [] B.Kn (S1 pre x) a1).lt _ _ _ h.2.1⟩)
  (fun _ _ _ _ _ _ h=>h.2.1.1.J)
  (fun c pre=>⟨fun _ _ _ _ _ _ ⟨st2,h,h'⟩ hs hS hJ=>⟨st2,h,(now_holds E n B.D B.Kn st2 a).stab _ _ _ _ _ _ h' hs hS hJ⟩,fun _ _ _ ⟨st2,_,h'⟩=>(now_holds E n B.D B.Kn st2 a).lt _ _ _ h'⟩)
  ⟨hi0,h1.le h0,h5⟩ ?assign ?body ?done ?stop
 case assign=>rintro pre x l O1 m1 w1 vs hok ⟨hinv,hn,hkn⟩ hvs;obtain⟨hn0,hk0⟩:=pM (W:=W) (hn.marks (a':={a with defers:=[]}) (D':=[]) rfl rfl) hvs hps;have:=hassign pre x l ⟨[],B.Kn,W,a.tmps,O1,m1,w1⟩ _ w1 hok hinv rfl rfl rfl rfl ⟨m1,O1,hn0,fun k hk=> .inl hk,Step.refl _ _ _,⟨ad3,fun d hd=>by cases hd⟩,hkn,hk0⟩;refine wpIn_mono this ?_;rintro e a2 w2 ⟨rfl,m2,O2,q1,q2,q3,_,q5,q6⟩;exact⟨rfl,m2,O2,q3,q2,hinv,⟨q1,q5⟩,q6⟩
 case body=>
  rintro pre x l a1 O1 m1 w1 hok ⟨hinv,⟨hn,hkn⟩,hk0⟩;have:=hbody pre x l ⟨[],B.Kn,W,a.tmps,O1,m1,w1⟩ a1 w1 hok hinv rfl rfl rfl rfl ⟨m1,O1,hn,fun k hk=> .inl hk,Step.refl _ _ _,⟨ad3,fun d hd=>by cases hd⟩,hkn,hk0⟩;refine wpIn_mono this ?_;rintro e a2 w2 ⟨st',⟨m2,O2,q1,q2,q3,_,q5,q6⟩,hend⟩;have hb:=q1.back (a':=a) (D':=B.D) (W:=W) q6 hz0 hd0;refine⟨m2,O2,q3,q2,q1.J,?_⟩;cases e with
  |normal=>exact⟨hend.1,hb.le hend.2,q5⟩
  |ret=>exact⟨_,hend,hb,q5⟩
  |exit id=>exact⟨_,hend,hb,q5⟩
  |goto t=>exact hend.elim
  |panic ch=>exact hend.elim
  |outgrown=>exact hend.elim
 case done=>rintro xs O' m' w' b hD ⟨hinv,hn,hkn⟩ _ q2 q3 q4;exact hdone xs b _ w' hD hinv rfl (fin hn hkn q2 q3 q4)
 case stop=>rintro c pre O' m' w' b ⟨st2,hj,hn,hkn⟩ _ q2 q3 q4;exact hstop c pre st2 b _ w' hj (fin hn hkn q2 q3 q4)
def Bh(W:Nat->Bool)(ko:List U->Prop)(T:List U->List (Nat×V))(B:List U->List (Nat×U))(Rx:Prop)(TX:List (Nat×V))(BX:List (Nat×U))(pre:List U):Out->St->Prop
 | .normal,st=>ko pre∧gw (sH W st) (T pre)∧gL st (B pre)
 | .ret,st=>Rx∧gw (sH W st) TX∧gL st BX
 | .exit _,_=>False
theorem rJ(W:Nat->Bool)(ko:List U->Prop)(T:List U->List (Nat×V))(B:List U->List (Nat×U))(Rx:Prop)(TX:List (Nat×V))(BX:List (Nat×U))(pre:List U)(st:St):Bh W ko T B Rx TX BX pre .normal st=(ko pre∧gw (sH W st) (T pre)∧gL st (B pre)):=rfl
attribute [go_sem] rJ
theorem Bj(hE:EnvOK E)(hm:E.P.follows .mixedOrders=true)(h:One E n B st a w){g:Operand}{ps:Array Tmp}{assign body:Code}{Q:Exit->Act->World->Prop}{gf:FuncId}{lb:Array Value}(W:Nat->Bool)
 (hg:a.eval g= .func (.func gf) #[] lb) (hcall:∀args w,(callFunc gf args).run E.P w= .ok (.enter gf args) w) {Ok Done:List U->Prop} {G:Nat->Prop} (hG:∀k,G k->k<B.ws.heap.size∧ ¬B.Os k)
 (hit:∀m O,Now E n B.D O m st a w->B.Kn.P m w->Step B.Os B.ms B.ws m w->∀m1 w1,Step (fun _=>False) m w m1 w1->E.J w1->j9 E G gf lb Ok Done m1 w1)
 (hoka:be E.any n assign=true) (hokb:be E.any n body=true) (hWa:mE W assign=true) (hWb:mE W body=true) (hps:∀p∈ps.toList,W p=true∧p<n)
 (hlen:∀pre x,Ok (pre++[x])->x.length=ps.size)
 (ko:List U->Prop) (T:List U->List (Nat×V)) (BB:List U->List (Nat×U)) (Rx:Prop) (TX:List (Nat×V)) (BX:List (Nat×U)) (hi0:ko []) (h0:gw st (T [])∧gL st (BB []))
 (TA:List U->U->List (Nat×V)) (BA:List U->U->List (Nat×U))
 (hassign:∀pre x,Ok (pre++[x])->ko pre->run E assign (ul ps.toList x (aq (T pre) (BB pre))) (pN (TA pre x) (BA pre x)))
 (hround:∀pre x,Ok (pre++[x])->ko pre->run E body (aq (TA pre x) (BA pre x)) (Bh W ko T BB Rx TX BX (pre++[x])))
 (hdone:∀xs b a' w',Done xs->ko xs->One E n {B with D:=markD b::B.D} (aq (T xs) (BB xs)) a' w'->Q .normal a' w')
 (hstop:∀b a' w',Rx->One E n {B with D:=markD b::B.D} (aq TX BX) a' w'->Q .ret a' w'):(Code.rangeFunc g ps assign body).wpIn (bg none) 0 E.P Q a w:=by
 refine pQ hE h W hg hcall hG hit hps hlen ko (fun pre=>aq (T pre) (BB pre)) (fun pre x=>aq (TA pre x) (BA pre x)) (fun c _ st=>c= .ret∧Rx∧Le (aq TX BX) st) hi0 (aK h0.1 h0.2) ?_ ?_ (fun xs b a' w' h1 h2 _ h3=>hdone xs b a' w' h1 h2 h3) ?_
 . intro pre x l B' a1 w1 hok hinv _ _ hW' _ ho;exact fk hE hm _ _ hoka (by rw[hW'];exact hWa) ho (hassign pre x hok hinv) (fun a2 w2 h2=>⟨rfl,h2⟩)
 . intro pre x l B' a1 w1 hok hinv _ _ hW' _ ho;refine wpIn_mono (up hE hm hokb (by rw[hW'];exact hWb) ho (hround pre x hok hinv)) ?_;rintro e a2 w2 ⟨o,st',hoe,hK,h2⟩;refine⟨st',h2,?_⟩;cases o with
   |ret=>cases e<;>simp only[eL,adO,reduceCtorEq] at hoe;exact⟨rfl,hK.1,aK hK.2.1 (uo W st' hK.2.2)⟩
   |exit id=>exact hK.elim
   |normal=>cases e<;>simp only[eL,adO,reduceCtorEq] at hoe;exact⟨hK.1,aK hK.2.1 (uo W st' hK.2.2)⟩
 . rintro c pre st2 b a' w' ⟨rfl,hx,hle⟩ h3;exact wpIn_ret (hstop b a' w' hx (h3.le hle))
variable{o:Obj}
theorem Step.mark{b:Nat}(h:w.heap[b]?=some (.deferred (some []))):Step (fun k=>k=b) m w m (w.putObj b o):=by
 refine⟨rfl,rfl,rfl,⟨A0k,fun blk off v hb _ hc=>?_,fun blk _ fr hf=>⟨fr,hf,adp _⟩,fun blk es c _ hc=>by rw[World.putObj_heap_other (fun e=>by rw[e,h] at hc;cases hc)];exact hc⟩,fun k _ hn=>⟨World.putObj_heap_other hn,rfl⟩⟩;by_cases e:blk=b
 . subst e;simp[World.cell?,h] at hc
 . rw[bc (World.putObj_heap_other e)];exact hc
theorem mK(hE:EnvOK E){fn:Func}{R:Ending->World->Prop}{r:V}(hr:oL E st fn.results.toList=some r∨eX E st fn.results.toList=some r)
 (hR:∀v m' w',Rd m' w' v r->(∀sz es k,r= .sl false sz es (some k)->∃g,RowIs m' w' v g sz es.length∧ws.heap.size<=g)->Step (fun _=>False) ms ws m' w'->E.J w'->R (.returned v) w'):∀(D':List Deferred) (w:World) (m:Lim) (O:Nat->Prop),Now E n D O m st a w->(∀k,O k->ws.heap.size<=k)->Step (fun _=>False) ms ws m w->Marks D' O ws.heap.size w->E.K<=ws.heap.size->LeavesInM (bg none) 0 E.P fn a.tmps R D' .returning w
 | [],w,m,O,h1,h2,h3,h4,hK=>by
   obtain⟨b,β,hrel⟩:=h1.rel;obtain⟨v,hv,hd,hrow⟩:=pH hrel hr;refine⟨v,hv,hR v m w hd (fun sz es k e=>?_) h3 h1.J⟩;obtain⟨g,hg1,hg2⟩:=hrow sz es k e;refine⟨g,hg1,?_⟩;rcases hg2 with hg2|hg2
   . exact adJ h3.ext.size hg2
   . exact h2 g (bv.1 hg2).2
 |d::D',w,m,O,h1,h2,h3,h4,hK=>by obtain⟨b,rfl,q1,q2,q3⟩:=h4.is d (adP ..);have hs:Step (fun k=>k=b) m w m (w.putObj b (.deferred none)):=Step.mark q2;have hJ:E.J (w.putObj b (.deferred none)):=hE.keep [b] _ _ (fun x hx=>by rw[adj.1 hx];exact adJ hK q1) h1.J (hs.bel (fun k _ e=>adj.2 e));have hnb:=(adY.1 h4.nd).1;refine⟨ A0I,.inl ⟨b,_,rfl,run_takeDeferred q2,mK hE hr hR D' _ m O (h1.other hs (fun k hk e=>q3 (e▸hk)) hJ) h2 (h3.next hs (fun i hi e=>absurd hi (ad0.2 (e▸q1)))) ⟨(adY.1 h4.nd).2,fun x hx=>?_⟩ hK⟩⟩;obtain⟨b',rfl,r1,r2,r3⟩:=h4.is x (adE _ hx);refine⟨b',rfl,r1,(World.putObj_heap_other (fun e=>hnb (by rw[e] at hx;exact hx))).trans r2,r3⟩
theorem DL(hE:EnvOK E){fn:Func}{R:Ending->World->Prop}{r:V}(h:One E n B st a w)(hOs:B.Os=fun _=>False)(hr:oL E st fn.results.toList=some r∨eX E st fn.results.toList=some r)
 (hR:∀v m' w',Rd m' w' v r->(∀sz es k,r= .sl false sz es (some k)->∃g,RowIs m' w' v g sz es.length∧B.ws.heap.size<=g)->Step (fun _=>False) B.ms B.ws m' w'->E.J w'->R (.returned v) w') (hK:E.K<=B.ws.heap.size):LeavesInM (bg none) 0 E.P fn a.tmps R a.defers .returning w:=by
 obtain⟨m,O,h1,h2,h3,h4,h5⟩:=h;have hd:a.defers=B.D:=by obtain⟨_,_,hr⟩:=h1.rel;exact hr.defers
 rw[hd];rw[hOs] at h2 h3;exact mK hE hr hR B.D w m O h1 (fun k hk=>(h2 k hk).resolve_left (fun h=>h)) h3 h4 hK
theorem uq(hE:EnvOK E){f:FuncId}{fn:Func}{c:Code}{vs:Array Value}{us:U}{k:Nat}{Pr:V->Prop}(hf:E.P.funcs[f]?=some fn)(hb:fn.body=some c)(hn:fn.ntmps=n)(hk:k<=n)(hn1:n<=1000)
 (hr:RdL m w vs.toList us) (hdat:us.all V.dat=true) (hl:us.length=k) (hj:E.J w) (hg:∀g,Rd m w (.p g) (E.G g)) {Kn:Kno} (hkn:Kn.P m w)
 (hbody:∀a:Act,One E n ⟨[],Kn,fun _=>true,#[],fun _=>False,m,w⟩ (start us) a w->c.wpIn (bg none) 0 E.P (fun e a' w'=>(e= .normal∨e= .ret)∧∃D' Kn' W' t' st' r,One E n ⟨D',Kn',W',t',fun _=>False,m,w⟩ st' a' w'∧(oL E st' fn.results.toList=some r∨eX E st' fn.results.toList=some r)∧Pr r) a w):
 Calls E.P f vs w fun e w'=>∃v m' r,e= .returned v∧Pr r∧Rd m' w' v r∧(∀sz es k,r= .sl false sz es (some k)->∃g,RowIs m' w' v g sz es.length∧w.heap.size<=g)∧Step (fun _=>False) m w m' w'∧E.J w':=by
 have hone:∀t,One E n ⟨[],Kn,fun _=>true,t,fun _=>False,m,w⟩ (start us) {tmps:=vs++Array.replicate (n-vs.size) undef,defers:=[]} w:=fun t=>
  ⟨m,_,Now.first (gx hr hdat hl hk hn1 hj hg),fun _ h=>h.elim,Step.refl _ _ _,⟨ad3,fun d hd=>by cases hd⟩,hkn,fun i hi=>by cases hi⟩
 refine cm.1 (callsIn_of_wp_marks (F:=bg none) (n:=0) hf hb trivial ?_);rw[hn];refine wpIn_mono (hbody _ (hone _)) ?_;rintro e a' w' ⟨he,D',Kn',W',t',st',r,ho,hres,hp⟩;have:=DL (R:=fun e w'=>∃v m' r,e= .returned v∧Pr r∧Rd m' w' v r∧(∀sz es k,r= .sl false sz es (some k)->∃g,RowIs m' w' v g sz es.length∧w.heap.size<=g)∧Step (fun _=>False) m w m' w'∧E.J w') hE ho rfl hres (fun v m' w' h1 h2 h3 h4=>⟨v,m',r,rfl,hp,h1,h2,h3,h4⟩) (hE.high _ hj);rcases he with rfl|rfl
 . exact this
 . exact this
theorem pR(hE:EnvOK E){f:FuncId}{fn:Func}{c:Code}{F:U->Option V}{k:Nat}(hf:E.P.funcs[f]?=some fn)(hb:fn.body=some c)
 (hcall:∀args w,(callFunc f args).run E.P w= .ok (.enter f args) w) (hn:fn.ntmps=n) (hk:k<=n) (hn1:n<=1000)
 (hbody:∀(us:U) (r:V) (m:Lim) (w:World) (a:Act),F us=some r->us.all V.dat=true->(us.length=k->One E n ⟨[],Kno.top,fun _=>true,#[],fun _=>False,m,w⟩ (start us) a w)->us.length=k∧
  c.wpIn (bg none) 0 E.P (fun e a' w'=>(e= .normal∨e= .ret)∧∃D' Kn W' t' st',One E n ⟨D',Kn,W',t',fun _=>False,m,w⟩ st' a' w'∧eX E st' fn.results.toList=some r) a w):Fun E f F:=by
 refine⟨hcall,fun m w vs us r hF hdat hr hj hg=>?_⟩
 have hone:∀t,us.length=k->One E n ⟨[],Kno.top,fun _=>true,t,fun _=>False,m,w⟩ (start us) {tmps:=vs++Array.replicate (n-vs.size) undef,defers:=[]} w:=fun t hl=>
  ⟨m,_,Now.first (gx hr hdat hl hk hn1 hj hg),fun _ h=>h.elim,Step.refl _ _ _,⟨ad3,fun d hd=>by cases hd⟩,trivial,fun i hi=>by cases hi⟩
 obtain⟨hl,hwp⟩:=hbody us r m w _ hF hdat (hone _);refine cm.1 (callsIn_of_wp_marks (F:=bg none) (n:=0) hf hb trivial ?_);rw[hn];refine wpIn_mono hwp ?_;rintro e a' w' ⟨he,D',Kn,W',t',st',ho,hres⟩;have:=DL (R:=fun e w'=>∃v m',e= .returned v∧Rd m' w' v r∧Below w.heap.size w w'∧∀blk,blk<w.heap.size->m' blk=m blk) hE ho rfl (.inr hres) (fun v m' w' h1 _ h3 _=>⟨v,m',rfl,h1,h3.below (fun _ _ h=>h),fun k hk=>(h3.same k hk (fun h=>h)).2⟩) (hE.high _ hj);rcases he with rfl|rfl
 . exact this
 . exact this
end
open Go.ChangeMaps (setBlock)
section
variable{E:Env}{n:Nat}{m ms:Lim}{ws w:World}{st:St}{a:Act}{O Os:Nat->Prop}
variable{v:Value}
theorem fI{ops:List Oper}{K:Act->World->Prop}{i:Nat}{o:Oper}(hi:ops[i]?=some o)(hg:o.guard=none)(hdef:∀c,o.op≠ .defer c)(hrun:(execOp a.eval o).run P w= .ok (.value v) w')(hK:K (a.put o.dst v) w'):
 wpOpIn (bg none) 0 P ⟨ops⟩ Q i K a w:=by
 unfold wpOpIn;have hi':(⟨ops⟩:Array Oper)[i]?=some o:=A0m
 rw[hi'];simp only;rw[adl A0u];refine⟨fun _ _=>trivial,?_⟩;rw[Oper.semAt_eq _ _ _ hdef,hrun];exact hK
variable{Oi:Nat->Prop}{d:Tmp}
theorem Two.raw{A':(Nat->Prop)->Lim->World->Prop}{O':Nat->Prop}{u:V}(hn:Now E n [] Oi m st a w)(hs:Step S m w m' w')(hS:∀k,Oi k-> ¬S k)(hJ:E.J w')(hA':A' O' m' w')(hdis:∀k,O' k-> ¬Oi k)(h4:∀k,Oi k->ws.heap.size<=k)
 (h5:∀k,O' k->Os k∨ws.heap.size<=k) (h6:Step Os ms ws m w) (hSO:∀i,i<ws.heap.size->S i->Os i) (hd:d<n) (hv:Rd m' w' v u):Two E n Os ms ws A' (st.put (some d) u.bare) (a.put (some d) v) w':=
 ⟨m',Oi,O',(hn.other hs hS hJ).put hd hv,hA',hdis,h4,h5,h6.next hs hSO⟩
def KeyFr(A:List U->(Nat->Prop)->Lim->World->Prop)(g r:Nat)(ents:Array MapEntry)(clock:Nat)(mg:Option Nat)(sp sq:List (MapEntry×V)):(Nat->Prop)->Lim->World->Prop:=fun O m w=>
 ∃O1,A (sp.map fun p=>[p.2]) O1 m w∧ ¬O1 g∧ ¬O1 r∧g≠r∧(∀k,O k↔(O1 k∨k=g∨k=r))∧w.heap[g]?=some (.map ents clock)∧m g=mg∧w.heap[r]?=some (.mapIter (some g) clock (sq.map fun p=>p.1.born).toArray clock)
variable{A Ax:List U->(Nat->Prop)->Lim->World->Prop}{g r:Nat}{ents:Array MapEntry}{clock:Nat}{mg:Option Nat}{sp sq:List (MapEntry×V)}
theorem KeyFr.holds(hA:∀pre,Holds E (A pre))(hg:E.K<=g)(hr:E.K<=r):Holds E (KeyFr A g r ents clock mg sp sq):=by
 refine⟨?_,?_⟩
 . rintro O m1 w1 S m2 w2 ⟨O1,h1,h2,h3,h4,h5,h6,h7,h8⟩ hs hS hJ;have q1:=hs.same g (ag h6) (hS g ((h5 g).2 (.inr (.inl rfl))));have q2:=hs.same r (ag h8) (hS r ((h5 r).2 (.inr (.inr rfl))));exact⟨O1,(hA _).stab O1 m1 w1 S m2 w2 h1 hs (fun k hk=>hS k ((h5 k).2 (.inl hk))) hJ,h2,h3,h4,h5,q1.1.trans h6,q1.2.trans h7,q2.1.trans h8⟩
 . rintro O m1 w1 ⟨O1,h1,h2,h3,h4,h5,h6,h7,h8⟩ k hk;rcases(h5 k).1 hk with hk|rfl|rfl
   . exact(hA _).lt O1 m1 w1 h1 k hk
   . exact⟨ag h6,hg⟩
   . exact⟨ag h8,hr⟩
variable{l:Nat}{vs:Array Value}
theorem KeyFr.yield{e:MapEntry}{kv:V}{m1:Lim}{w1:World}
 (hy:∀O1,A (sp.map fun p=>[p.2]) O1 m1 w1->YieldAt (bg none) 0 P l vs w1 fun e' w2=>∃m2 O2,Step O1 m1 w1 m2 w2∧(∀k,O2 k->O1 k∨w1.heap.size<=k)∧E.J w2∧
  ((e'= .returned (.bool true)∧A ((sp++[(e,kv)]).map fun p=>[p.2]) O2 m2 w2)∨(e'= .returned (.bool false)∧Ax ((sp++[(e,kv)]).map fun p=>[p.2]) O2 m2 w2)))
 (O1:Nat->Prop) (h1:A (sp.map fun p=>[p.2]) O1 m1 w1) (h2: ¬O1 g) (h3: ¬O1 r) (h4:g≠r) (h5:∀k,O k↔(O1 k∨k=g∨k=r)) (h6:w1.heap[g]?=some (.map ents clock)) (h7:m1 g=mg)
 (h8:w1.heap[r]?=some (.mapIter (some g) clock ((sp++[(e,kv)]).map fun p=>p.1.born).toArray clock)):
 YieldAt (bg none) 0 P l vs w1 fun e' w2=>∃m2 O2,Step O m1 w1 m2 w2∧(∀k,O2 k->O k∨w1.heap.size<=k)∧E.J w2∧
  ((e'= .returned (.bool true)∧KeyFr A g r ents clock mg (sp++[(e,kv)]) (sp++[(e,kv)]) O2 m2 w2)∨(e'= .returned (.bool false)∧KeyFr Ax g r ents clock mg (sp++[(e,kv)]) (sp++[(e,kv)]) O2 m2 w2)):=by
 obtain⟨fn,tmps,assign,body,hyr,hR⟩:=hy O1 h1;refine⟨fn,tmps,assign,body,hyr,RoundIn.mono hR ?_⟩;rintro e' w2 ⟨m2,O2,hs,hO,hJ,hend⟩;have q1:=hs.same g (ag h6) h2;have q2:=hs.same r (ag h8) h3;have n1: ¬O2 g:=fun h=>by rcases hO g h with h|h;exact h2 h;exact absurd (ag h6) (ad0.2 h)
 have n2: ¬O2 r:=fun h=>by rcases hO r h with h|h;exact h3 h;exact absurd (ag h8) (ad0.2 h)
 refine⟨m2,fun k=>O2 k∨k=g∨k=r,hs.mono (fun k _ hk=>(h5 k).2 (.inl hk)),fun k hk=>?_,hJ,?_⟩
 . rcases hk with hk|hk
   . rcases hO k hk with hk|hk
     . exact .inl ((h5 k).2 (.inl hk))
     . exact .inr hk
   . exact .inl ((h5 k).2 (.inr hk))
 . rcases hend with⟨rfl,ha⟩|⟨rfl,ha⟩
   . exact .inl ⟨rfl,O2,ha,n1,n2,h4,fun _=>agp,q1.1.trans h6,q1.2.trans h7,q2.1.trans h8⟩
   . exact .inr ⟨rfl,O2,ha,n1,n2,h4,fun _=>agp,q1.1.trans h6,q1.2.trans h7,q2.1.trans h8⟩
theorem Two.unframe(h:Two E n (fun k=>Os k∨k=g) ms ws (KeyFr A g r ents clock mg sp sq) st a w)(h1:ws.heap[g]?=some (.map ents clock))(h2:ms g=mg)(hOs: ¬Os g):Two E n Os ms ws (A (sp.map fun p=>[p.2])) st a w:=by
 obtain⟨m,Oi,O,q1,⟨O1,k1,k2,k3,k4,k5,k6,k7,k8⟩,q3,q4,q5,q6⟩:=h;refine⟨m,Oi,O1,q1,k1,fun k hk=>q3 k ((k5 k).2 (.inl hk)),q4,fun k hk=>?_,⟨q6.os,q6.tape,q6.output,q6.ext,fun k hk hn=>?_⟩⟩
 . rcases q5 k ((k5 k).2 (.inl hk)) with(h|rfl)|h
   . exact .inl h
   . exact absurd hk k2
   . exact .inr h
 . by_cases e:k=g
   . subst e;exact⟨k6.trans h1.symm,k7.trans h2.symm⟩
   . exact q6.same k hk (fun h=>by rcases h with h|h;exact hn h;exact e h)
variable{o:Obj}
theorem Step.iter{w1:World}{r:Nat}{b:Option Nat}{s:Nat}{sn:Array Nat}{c:Nat}(hw:w1=w∨w1=w.drew)(h:w.heap[r]?=some (.mapIter b s sn c)):Step (fun k=>k=r) m w m (setBlock w1 r o):=by
 have hh:w1.heap=w.heap:=by rcases hw with rfl|rfl<;>rfl
 have hoth:∀k,k≠r->(setBlock w1 r o).heap[k]?=w.heap[k]?:=fun k hk=>by show(w1.heap.setIfInBounds r o)[k]?=_;rw[hh,afO (aeM hk)]
 refine⟨by rcases hw with rfl|rfl<;>rfl,by rcases hw with rfl|rfl<;>rfl,by rcases hw with rfl|rfl<;>rfl,⟨by show _<=(w1.heap.setIfInBounds r o).size;rw[hh];simp,fun blk off v hb _ hc=>?_,fun blk _ fr hf=>⟨fr,hf,adp _⟩,fun blk es c _ hc=>by rw[hoth blk (fun e=>by rw[e,h] at hc;cases hc)];exact hc⟩,fun k _ hn=>⟨hoth k hn,rfl⟩⟩;by_cases e:blk=r
 . subst e;simp[World.cell?,h] at hc
 . rw[bc (hoth blk e)];exact hc
theorem lq{w1:World}{r:Nat}{o':Obj}(hw:w1=w∨w1=w.drew)(h:w.heap[r]?=some o'):(setBlock w1 r o).heap[r]?=some o:=by
 have hh:w1.heap=w.heap:=by rcases hw with rfl|rfl<;>rfl
 show(w1.heap.setIfInBounds r o)[r]?=_;rw[hh];have:=ag h;simp[this]
theorem lr{t k e:TypeId}{g:Nat}{ents:Array MapEntry}{clock:Nat}(hu:P.underlying t=some (.map k e))(h:w.heap[g]?=some (.map ents clock)):
 (Instr.range t (.map (some g))).run P w= .ok (.pointer (some ⟨w.heap.size,0,none⟩)) (w.alloc (.mapIter (some g) clock #[] clock)):=by
 have hu':=run_underlying (P:=P) (w:=w) hu;simp only[Instr.range,Gc,hu',Ge,getObj,Sem.run,h,Gd,run_newObj];rfl
theorem eY{α β:Type}(f:α->β){l:List α}(h:(l.map f).Nodup):l.Nodup:=by have:=afP.1 h;exact this.imp (fun hne e=>hne (ae6 f e))
theorem pS{α β:Type}(f:α->β):∀{l:List α},(l.map f).Nodup->∀{x y:α},x∈l->y∈l->f x=f y->x=y
 |[],_,_,_,hx,_,_=>by cases hx
 | a ::l,h,x,y,hx,hy,e=>by
   rw[adL,adY] at h;rcases adA.1 hx with hx1|hx1
   . rcases adA.1 hy with hy1|hy1
     . rw[hx1,hy1]
     . exact absurd (ads.2 ⟨y,hy1,by rw[<-e,hx1]⟩) h.1
   . rcases adA.1 hy with hy1|hy1
     . exact absurd (ads.2 ⟨x,hx1,by rw[e,hy1]⟩) h.1
     . exact pS f h.2 hx1 hy1 e
theorem MapAt.step{m m':Lim}{w w':World}{g:Nat}{ks vs:U}(h:MapAt m w g ks vs)(hs:Step (fun _=>False) m w m' w'):MapAt m' w' g ks vs:=by obtain⟨ents,clock,hh,hrd,h1,h2,h3⟩:=h;exact⟨ents,clock,(hs.same g (ag hh) (fun h=>h)).1.trans hh,hrd.mono hs.ext,h1,h2,by rw[(hs.same g (ag hh) (fun h=>h)).2];exact h3⟩
theorem eu{α:Type}:∀{l l':List α},l.Nodup->(∀x∈l,x∈l')->l.length<=l'.length
 |[],_,_,_=>adN _
 | a::l,l',h,hs=>by
   obtain⟨s,t,rfl⟩:=List.append_of_mem (hs a (adP ..));rw[adY] at h;have:=eu (l':=s++t) h.2 (fun x hx=>by
    have h1:=hs x (adE _ hx);rcases adv.1 h1 with h1|h1
    . exact ad2 _ h1
    . rcases adA.1 h1 with h1|h1
      . rw[h1] at hx;exact absurd hx h.1
      . exact aeG _ h1)
   simp only[adh,adm] at this⊢;omega
theorem kd{α:Type}(p q:α->Bool)(himp:∀y,q y=true->p y=true):∀(l:List α) (x:α),x∈l->p x=true->q x=false->(l.filter q).length<(l.filter p).length
 |[],_,hx,_,_=>by cases hx
 | a ::l,x,hx,hp,hq=>by
   have hle:∀l:List α,(l.filter q).length<=(l.filter p).length:=fun l=>by
    induction l with
    |nil=>exact adp _
    | cons b l ih=>
      simp only[afw];cases hb:q b with
      |true=>rw[himp b hb];simpa using ih
      |false=>cases p b<;>simp <;>omega
   rcases adA.1 hx with hx1|hx1
   . subst hx1;simp only[afw,hp,hq,adB,adI,adw,adm];have:=hle l;omega
   . have ih:=kd p q himp l x hx1 hp hq;simp only[afw];cases hb:q a with
     |true=>rw[himp a hb];simpa using ih
     |false=>cases p a<;>simp <;>omega
variable{D:List Deferred}
theorem Now.read_x(h:Now E n D O m st a w)(i:Nat){v:Value}(hi:st.t i= .x v):a.tmps.getD i undef=v:=by obtain⟨b,β,hr⟩:=h.rel;exact(hi▸hr.tmps i:Rs m w β _ (.x v)).x
theorem xb{ps:List (MapEntry×V)}{sp:List (MapEntry×V)}(hnd:(ps.map fun p=>p.1.born).Nodup)(hsub:∀p∈sp,p∈ps)(hspn:(sp.map fun p=>p.1.born).Nodup)(hall:∀p∈ps,p.1.born∈sp.map fun p=>p.1.born):sp.Perm ps:=by have hps:ps.Nodup:=eY _ hnd;have hsn:sp.Nodup:=eY _ hspn;refine(List.perm_ext_iff_of_nodup hsn hps).2 (fun p=>⟨hsub p,fun hp=>?_⟩);obtain⟨q,hq,he⟩:=ads.1 (hall p hp);have:=pS (fun p:MapEntry×V=>p.1.born) hnd (hsub q hq) hp he;exact this▸hq
end
section
variable{E:Env}{n:Nat}{D:List Deferred}{B:Bs}{m:Lim}{w:World}{st:St}{a:Act}{O:Nat->Prop}
theorem One.frame(h:One E n B st a w)(W':Nat->Bool):One E n {B with W:=W',t0:=a.tmps} st a w:=by obtain⟨m,O,h1,h2,h3,h4,h5,_⟩:=h;exact⟨m,O,h1,h2,h3,h4,h5,KeepT.refl _ _⟩
theorem One.kept(h:One E n B st a w){i:Nat}(hi:B.W i=false):a.tmps.getD i undef=B.t0.getD i undef:=by obtain⟨m,O,_,_,_,_,_,h6⟩:=h;exact h6 i hi
theorem pT{d:Nat}:a.put (some d) (a.tmps.getD d undef)=a:=by
 obtain⟨t,df⟩:=a;have:t.setIfInBounds d (t.getD d undef)=t:=by
  apply Array.ext_getElem?;intro i;rw[afx];split
  . rename_i e;subst e;split
    . rename_i h;simp[h]
    . rename_i h;rw[afh A0b]
  . rfl
 show({tmps:=t.setIfInBounds d (t.getD d undef),defers:=df}:Act)=_;rw[this]
theorem Now.alias(h:Now E n D O m st a w){i d s:Nat}{ks vs:U}(hi:st.t i= .mp s ks vs)(hd:d<n)(he:a.tmps.getD d undef=a.tmps.getD i undef):Now E n D O m ⟨upd st.t d (.mp s ks vs),st.b⟩ a w:=by obtain⟨⟨b,β,hr⟩,hlt⟩:=h;refine⟨⟨b,β,?_⟩,hlt⟩;have hv:=hr.tmps i;rw[hi,<-he] at hv;have:=hr.put (d:=some d) (fun k hk=>by cases hk;exact hd) hv (fun sz es s e=>by cases e) (fun s sz len cs e=>by cases e) (fun s' ks' vs' e=>by cases e;exact⟨i,hi⟩);rw[pT] at this;exact this
theorem One.alias(h:One E n B st a w){i d s:Nat}{ks vs:U}(hi:st.t i= .mp s ks vs)(hd:d<n)(he:a.tmps.getD d undef=a.tmps.getD i undef):One E n B ⟨upd st.t d (.mp s ks vs),st.b⟩ a w:=by obtain⟨m,O,h1,h2⟩:=h;exact⟨m,O,h1.alias hi hd he,h2⟩
theorem Now.map_ptr(h:Now E n D O m st a w){i s:Nat}{ks vs:U}(hi:st.t i= .mp s ks vs):∃g,a.tmps.getD i undef= .map (some g):=by
 obtain⟨⟨b,β,hr⟩,_⟩:=h;have hv:=hr.tmps i;rw[hi] at hv;rcases hv with h|⟨s',off,e,_⟩|⟨s',sz,len,cap,e,_⟩|⟨s',ks',vs',e,hv⟩
 . exact h.not_mp.elim
 . cases e
 . cases e
 . exact⟨_,hv⟩
theorem One.map_ptr(h:One E n B st a w){i s:Nat}{ks vs:U}(hi:st.t i= .mp s ks vs):∃g,a.tmps.getD i undef= .map (some g):=by obtain⟨m,O,h1,_⟩:=h;exact h1.map_ptr hi
theorem Now.map_at(h:Now E n D O m st a w){i s g:Nat}{ks vs:U}(hi:st.t i= .mp s ks vs)(hg:a.tmps.getD i undef= .map (some g)):MapAt m w g ks vs∧O g:=by
 obtain⟨⟨b,β,hr⟩,_⟩:=h;have hv:=hr.tmps i;rw[hi,hg] at hv;obtain⟨h1,h2⟩:=hr.maps.holds i s ks vs hi;rcases hv with h|⟨s',off,e,_⟩|⟨s',sz,len,cap,e,_⟩|⟨s',ks',vs',e,hv⟩
 . exact h.not_mp.elim
 . cases e
 . cases e
 . cases e;cases hv;refine⟨h1,?_⟩;rcases h2 with h2|h2
   . obtain⟨_,_,hh,_⟩:=h1;exact absurd (ag hh) (ad0.2 h2)
   . exact(bv.1 h2).2
theorem lu(hE:EnvOK E){ops:List Oper}{Q:Exit->Act->World->Prop}{i:Nat}{rest:List Nat}{o:Oper}{ty:TypeId}{p q:Tmp}{s g:Nat}{st':St}(hi:ops[i]?=some o)(hop:o.op= .store ty (.tmp p) (.tmp q))(hd:o.dst=none)(hg:o.guard=none)
 (h:One E n B st a w) (hp:st.t p= .ptr s 0) (hq:a.tmps.getD q undef= .map (some g)) (hx:iG E st ty (.ptr s 0) (.x (.map (some g)))=some st') (hK:∀w',One E n B st' a w'->wpOpsIn (bg none) 0 E.P ⟨ops⟩ Q rest a w'):wpOpsIn (bg none) 0 E.P ⟨ops⟩ Q (i::rest) a w:=by
 obtain⟨m,O,q1,q2,q3,q4,q5,q6⟩:=h;rw[wpOpsIn_cons];have hlt:=q1.lt;obtain⟨b,β,hr⟩:=q1.rel;have hpv:=hr.tmps p;rw[hp] at hpv;have e:a.eval (.tmp q)= .map (some g):=hq;obtain⟨w',hrun,hrel⟩:=mz hr (v:= .map (some g)) (p:=a.eval (.tmp p)) hpv (.inl (.x _)) (fun sz es s' e=>by cases e) hx;obtain⟨hn,hst⟩:=Now.of_rel hE hlt hrel;unfold wpOpIn;have hi':(⟨ops⟩:Array Oper)[i]?=some o:=A0m
 rw[hi'];simp only;rw[adl A0u];refine⟨fun _ _=>trivial,?_⟩;rw[Oper.semAt_eq _ _ _ A0J];have hr2:(execOp a.eval o).run E.P w= .ok .skip w':=by simp only[execOp,hop,Gc,e,hrun,Ge,Gd]
 rw[hr2];show wpOpsIn (bg none) 0 E.P ⟨ops⟩ Q rest (a.put o.dst undef) w';rw[hd];exact hK _ (One.grown q2 q3 q4 q5 q6 hn hst)
end
