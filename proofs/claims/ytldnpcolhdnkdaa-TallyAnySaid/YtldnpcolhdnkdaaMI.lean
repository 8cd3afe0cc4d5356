/- Two that work by turns in one memory, each with blocks of its own: what the run holds now; steps of the other; loops over iterators. No program is named here. -/
import Derived.Test.YtldnpcolhdnkdaaMPB
import Derived.RangeFuncLeaves
import Derived.RangeFuncSeq
import Derived.RangeFuncRecord
import Derived.RangeFuncIn
import Derived.Test.YtldnpcolhdnkdaaMPO
import Derived.Maps.RangeRun
namespace Go.Proofs.Ytldnpcolhdnkdaa
set_option linter.unusedSimpArgs false
open Go Go.RowKit
structure Step (S:Nat->Prop) (m:Lim) (w:World) (m':Lim) (w':World):Prop where
 os:w'.os=w.os
 tape:w'.tape=w.tape
 output:w'.output=w.output
 ext:Ext m w m' w'
 same:∀k,k<w.heap.size-> ¬S k->w'.heap[k]?=w.heap[k]?∧m' k=m k
theorem Step.refl (S:Nat->Prop) (m:Lim) (w:World):Step S m w m w:=⟨rfl,rfl,rfl,Ext.refl _ _,fun _ _ _=>⟨rfl,rfl⟩⟩
variable {S S1:Nat->Prop} {m m1:Lim} {w w1:World}
theorem Step.next {m2:Lim} {w2:World} (h:Step S m w m1 w1) (k:Step S1 m1 w1 m2 w2) (hS:∀i,i<w.heap.size->S1 i->S i):Step S m w m2 w2:=by refine⟨k.os.trans h.os,k.tape.trans h.tape,k.output.trans h.output,h.ext.trans k.ext,fun i hi hn=>?_⟩;obtain⟨h1,h2⟩:=h.same i hi hn;obtain⟨k1,k2⟩:=k.same i (Qf hi h.ext.size) (fun hs=>hn (hS i hi hs));exact⟨k1.trans h1,k2.trans h2⟩
variable {m':Lim} {w':World}
theorem Step.mono (h:Step S m w m' w') (hS:∀i,i<w.heap.size->S i->S1 i):Step S1 m w m' w':=
 ⟨h.os,h.tape,h.output,h.ext,fun k hk hn=>h.same k hk (fun hs=>hn (hS k hk hs))⟩
theorem Step.of_below (hb:Below w.heap.size w w') (hm:∀k,k<w.heap.size->m' k=m k):Step S m w m' w':=
 ⟨hb.os,hb.tape,hb.output,Ext.of_below hb hm,fun k hk _=>⟨hb.block k hk,hm k hk⟩⟩
theorem Step.below (h:Step S m w m' w') (hS:∀k,k<w.heap.size-> ¬S k):Below w.heap.size w w':=
 ⟨h.os,h.tape,h.output,h.ext.size,fun k hk=>(h.same k hk (hS k hk)).1⟩
theorem Step.bel (h:Step S m w m' w') {X:List Nat} (hS:∀k,k<w.heap.size->S k->k∈X):Bel X w w':=
 ⟨h.os,h.tape,h.output,h.ext.size,fun k hk hx=>(h.same k hk (fun hs=>hx (hS k hk hs))).1⟩
open Classical in
noncomputable def lst (O:Nat->Prop) (k:Nat):List Nat:=(List.range k).filter fun i=>decide (O i)
variable {k:Nat}
theorem bB {O:Nat->Prop} {i:Nat}:i∈lst O k↔i<k∧O i:=by unfold lst;rw[QB,Qg];simp
section
variable {E:Env} {n:Nat} {pm:Pm} {m0 m m':Lim} {w0 w w':World} {β:Nat->Nat} {st:St} {a:Act} {S O:Nat->Prop}
theorem Rel.here (h:Rel E n pm m0 w0 m β st a w) (hs:Step S m w m' w') (hS:∀k,k<w.heap.size->(w0.heap.size<=k∨k∈pm.X)-> ¬S k) {L:List Nat} (hL:∀k,k<w.heap.size->(w0.heap.size<=k∨k∈pm.X)->k∈L)
 (hK:∀x∈L,E.K<=x) (hJ:E.J w'):Rel E n ⟨L,pm.b,L,pm.D⟩ m' w' m' β st a w':=by
 have hb:∀g o,w.heap[g]?=some o->(w0.heap.size<=g∨g∈pm.X)->w'.heap[g]?=w.heap[g]?∧m' g=m g:=fun g o hg ho=>hs.same g (al hg) (hS g (al hg) ho)
 have he:=hs.ext;refine⟨fun i=>(h.tmps i).mono he,h.size,fun s cs hs=>?_,h.inj,Bel.refl _ _,⟨h.par.1,h.par.2.1,hK⟩,⟨fun _ _ _=>rfl,Ext.refl _ _,fun y hy=>hy⟩,?_,h.own.sub (fun i s sz len cs hi hs=>⟨i,cs,hi,rfl,hs,PB _,rfl,fun cur ty hh=>?_⟩),h.defers,fun g=>(h.glob g).mono he,hJ,?_⟩
 rotate_right 2
 . obtain⟨_,hge⟩:=h.boxes s cs hs;exact⟨cur,ty,by rw[(hb _ _ hh hge).1];exact hh,rfl⟩
 . refine⟨fun i s ks vs hi=>?_,fun i j s s' ks vs ks' vs' hi hj e=>h.maps.inj _ _ _ _ _ _ _ _ hi hj e⟩;obtain⟨⟨ents,clock,hh,hrd,h1,h2,h4⟩,h3⟩:=h.maps.holds i s ks vs hi;exact⟨⟨ents,clock,by rw[(hb _ _ hh h3).1];exact hh,hrd.mono he,h1,h2,by rw[(hb _ _ hh h3).2];exact h4⟩,.inr (hL _ (al hh) h3)⟩
 . obtain⟨⟨hl,vals,ty,xs,rest,hh,hx,hr⟩,hge⟩:=h.boxes s cs hs;obtain⟨h1,h2⟩:=hb _ _ hh hge;exact⟨⟨by rw[h2];exact hl,vals,ty,xs,rest,by rw[h1];exact hh,hx,hr.mono he⟩,.inr (hL _ (al hh) hge)⟩
 . obtain⟨ρ,hr⟩:=h.rows
   have hB:∀v sz es s,Bear E w' β st (fun i=>a.tmps.getD i Go.undef) v (.sl false sz es (some s))->Bear E w β st (fun i=>a.tmps.getD i Go.undef) v (.sl false sz es (some s)):=fun v sz es s hi=>
    hi.from (fun i hi=> .inl ⟨i,hi,rfl⟩) (fun k cs j h1 h2 h3 h4=>by obtain⟨⟨_,vals,ty,xs,rest,hh,_,_⟩,hge⟩:=h.boxes k cs h2;rw[aT (hb _ _ hh hge).1] at h4;exact .inr ⟨k,cs,j,h1,h2,h3,h4⟩)
   refine⟨ρ,fun v sz es s hi=>?_,fun v sz es s v' sz' es' s' hi hi' e=>hr.sep _ _ _ _ _ _ _ _ (hB _ _ _ _ hi) (hB _ _ _ _ hi') e,fun v sz es s k cs hi hk=>hr.box _ _ _ _ _ _ (hB _ _ _ _ hi) hk⟩;obtain⟨lo,lim,cap,cur,ty,hv,hh,hc,hsz⟩:=hr.row v sz es s (hB _ _ _ _ hi);have hge:=lo.imp id (h.mold.2.2 _);obtain⟨h1,h2⟩:=hb _ _ hh hge;exact⟨.inr (hL _ (al hh) hge),by rw[h2];exact lim,cap,cur,ty,hv,by rw[h1];exact hh,hc,hsz⟩
structure Now (E:Env) (n:Nat) (D:List Deferred) (O:Nat->Prop) (m:Lim) (st:St) (a:Act) (w:World):Prop where
 rel:∃b β,Rel E n ⟨lst O w.heap.size,b,lst O w.heap.size,D⟩ m w m β st a w
 lt:∀k,O k->k<w.heap.size
variable {D:List Deferred}
theorem Now.J (h:Now E n D O m st a w):E.J w:=by obtain⟨_,_,h⟩:=h.rel;exact h.j
theorem Now.K (h:Now E n D O m st a w):∀k,O k->E.K<=k:=fun k hk=>by obtain⟨_,_,hr⟩:=h.rel;exact hr.par.2.2 k (bB.2 ⟨h.lt k hk,hk⟩)
theorem Now.other (h:Now E n D O m st a w) (hs:Step S m w m' w') (hS:∀k,O k-> ¬S k) (hJ:E.J w'):Now E n D O m' st a w':=by
 have hK:=h.K;obtain⟨⟨b,β,hr⟩,hlt⟩:=h;refine⟨⟨b,β,hr.here hs (fun k hk ho=>?_) (fun k hk ho=>?_) (fun x hx=>hK x (bB.1 hx).2) hJ⟩,fun k hk=>Qf (hlt k hk) hs.ext.size⟩
 . rcases ho with ho|ho
   . exact absurd hk (Qw.2 ho)
   . exact hS k (bB.1 ho).2
 . rcases ho with ho|ho
   . exact absurd hk (Qw.2 ho)
   . exact bB.2 ⟨Qf hk hs.ext.size,(bB.1 ho).2⟩
variable {b:Nat->Nat}
theorem Now.first (h:Rel E n ⟨[],b,[],D⟩ m w m β st a w):Now E n D (fun _=>False) m st a w:=
 ⟨⟨b,β,by
   have:=h.here (Step.refl (fun _=>False) m w) (fun _ _ _ h=>h) (L:=lst (fun _=>False) w.heap.size) (fun k hk ho=>by
    rcases ho with ho|ho
    . exact absurd hk (Qw.2 ho)
    . cases ho) (fun x hx=>(bB.1 hx).2.elim) h.j
   exact this⟩,fun _ h=>h.elim⟩
def oT (O:Nat->Prop) (w w':World) (k:Nat):Prop:=k<w'.heap.size∧(O k∨w.heap.size<=k)
variable {st':St} {a':Act}
theorem Now.of_rel {β':Nat->Nat} (hE:EnvOK E) (hlt:∀k,O k->k<w.heap.size) (h:Rel E n ⟨lst O w.heap.size,b,lst O w.heap.size,D⟩ m w m' β' st' a' w'):
 Now E n D (oT O w w') m' st' a' w'∧Step O m w m' w':=by
 have hsz:=h.below.size;have hJ:=hE.keep _ _ _ h.par.2.2 h.j h.below;refine⟨⟨⟨b,β',?_⟩,fun k hk=>hk.1⟩,⟨h.below.os,h.below.tape,h.below.output,h.mold.2.1,fun k hk hn=>⟨h.below.block k hk (fun hx=>hn (bB.1 hx).2),h.mold.1 k hk (fun hx=>hn (bB.1 hx).2)⟩⟩⟩;refine h.here (Step.refl (fun _=>False) m' w') (fun _ _ _ h=>h) (fun k hk ho=>bB.2 ⟨hk,hk,?_⟩) (fun x hx=>?_) hJ
 . rcases ho with ho|ho
   . exact .inr ho
   . exact .inl (bB.1 ho).2
 . obtain⟨hx1,hx2,hx3⟩:=bB.1 hx;rcases hx3 with hx3|hx3
   . exact h.par.2.2 x (bB.2 ⟨hlt x hx3,hx3⟩)
   . exact tl (hE.high _ h.j) hx3
def oU:Exit->Option Out
 | .normal=>some .normal
 | .ret=>some .ret
 | .exit id=>some (.exit id)
 |_=>none
def Gg (W:Nat->Bool) (E:Env) (n:Nat) (D:List Deferred) (O:Nat->Prop) (m:Lim) (a:Act) (w:World) (K:Out->St->Prop):Exit->Act->World->Prop:=
 fun e a' w'=>KeepT W a.tmps a'.tmps∧∃o st' m',oU e=some o∧K o st'∧Now E n D (oT O w w') m' st' a' w'∧Step O m w m' w'
theorem E4 {r:Option Nat} {W:Nat->Bool} (hE:EnvOK E) (hm:E.P.follows .mixedOrders=true) {c:Code} {K:Out->St->Prop} (hok:cz E.any n c=true) (hW:xd W c=true) (h:Now E n D O m st a w) (hr:run E c st K):
 c.wpIn (fK r) 0 E.P (Gg W E n D O m a w K) a w:=by
 obtain⟨⟨b,β,hrel⟩,hlt⟩:=h;refine wpIn_mono (iG (hE.x (.inr (fun _ h=>h))) hm c K st a w m β hok hW hrel hr) ?_;rintro e a' w' ⟨hp,hk⟩;have fin:∀o,(∃st' m' β',K o st'∧Rel E n ⟨lst O w.heap.size,b,lst O w.heap.size,D⟩ m w m' β' st' a' w')->oU e=some o->Gg W E n D O m a w K e a' w':=by rintro o ⟨st',m',β',h1,h2⟩ ho;obtain⟨h3,h4⟩:=Now.of_rel hE hlt h2;exact⟨hk,o,st',m',ho,h1,h3,h4⟩
 cases e with
 |normal=>exact fin _ hp rfl
 |ret=>exact fin _ hp rfl
 |exit id=>exact fin _ hp rfl
 |goto l=>exact hp.elim
 |panic ch=>exact hp.elim
 |outgrown=>exact hp.elim
theorem Now.le (h:Now E n D O m st a w) (hl:Le st' st):Now E n D O m st' a w:=by obtain⟨⟨b,β,hr⟩,hlt⟩:=h;exact⟨⟨b,β,hr.le hl⟩,hlt⟩
def cut (W:Nat->Bool) (st:St):St:=⟨fun i=>bif W i then .undef else st.t i,st.b⟩
theorem Now.put (h:Now E n D O m st a w) {d:Tmp} (hd:d<n) {v:Value} {u:V} (hv:Rd m w v u):Now E n D O m (st.put (some d) u.bare) (a.put (some d) v) w:=by obtain⟨⟨b,β,hr⟩,hlt⟩:=h;exact⟨⟨b,β,hr.put (fun k hk=>by cases hk;exact hd) (.of hv.bare) (dV _) (fun s sz len cs e=>by have e:u.bare=_:=e;exact(e▸hv.bare).not_row.elim) (fun s ks vs e=>by have e:u.bare=_:=e;exact(e▸hv.bare).not_mp.elim)⟩,hlt⟩
end
noncomputable def E5:List Tmp->List V->St->St
 |p::ps,u::us,st=>E5 ps us (st.put (some p) u.bare)
 |_,_,st=>st
def tR (W:Nat->Bool) (Inv:List (List V)->Prop) (I:List (List V)->St) (Jx:Code->List (List V)->St->Prop) (pre:List (List V)):Out->St->Prop
 | .normal,st=>Inv pre∧Le (I pre) (cut W st)
 | .ret,st=>Jx .ret pre (cut W st)
 | .exit id,st=>Jx (.exit id) pre (cut W st)
def E6 (E:Env) (body:Code) (K:Out->St->Prop):Out->St->Prop
 | .normal,st=>run E body st K
 |_,_=>False
abbrev markD (b:Nat):Deferred:={target:= .collected b,args:= #[]}
section
variable {E:Env} {n:Nat} {m:Lim} {w:World} {st:St} {a:Act} {O:Nat->Prop} {D:List Deferred}
structure Holds (E:Env) (A:(Nat->Prop)->Lim->World->Prop):Prop where
 stab:∀O m1 w1 S m2 w2,A O m1 w1->Step S m1 w1 m2 w2->(∀k,O k-> ¬S k)->E.J w2->A O m2 w2
 lt:∀O m1 w1,A O m1 w1->∀k,O k->k<w1.heap.size∧E.K<=k
end
variable {P:Program}
theorem tT {F:Fence} {c:Code} {Q:Exit->Act->World->Prop} {a:Act} {X:Type} (J:X->Act->World->Prop) (μ:X->Nat) (x0:X) (h0:J x0 a w)
 (hround:∀x a w,J x a w->c.wpIn F k P (fun e a' w'=>match e with| .normal=>∃x',J x' a' w'∧μ x'<μ x|e=>Q e a' w') a w):(Code.loop c).wpIn F k P Q a w:=by
 let S:Act->World->Nat->Prop:=fun a w k=>∃x,μ x=k∧J x a w
 let ν:Act->World->Nat:=fun a w=>Classical.epsilon fun k=>S a w k∧∀j,S a w j->k<=j
 have hspec:∀a w,(∃k,S a w k)->S a w (ν a w)∧∀j,S a w j->ν a w<=j:=fun a w ⟨k,hk⟩=>Sl (vO _ k hk)
 refine wpIn_loop (fun a w=>∃k,S a w k) ν ⟨_,x0,rfl,h0⟩ ?_;intro a1 w hS;obtain⟨x,hx,hj⟩:=(hspec a1 w hS).1;refine wpIn_mono (hround x a1 w hj) ?_;intro e a' w' he;cases e with
 |normal=>obtain⟨x',hj',hlt⟩:=he;have hS':S a' w' (μ x'):=⟨x',rfl,hj'⟩;have:ν a' w'<=μ x':=(hspec a' w' ⟨_,hS'⟩).2 _ hS';exact⟨⟨_,hS'⟩,by omega⟩
 |exit id=>exact he
 |goto l=>exact he
 |ret=>exact he
 |panic ch=>exact he
 |outgrown=>exact he
section
variable {E:Env} {n:Nat} {m:Lim} {w:World} {st:St} {a:Act} {O:Nat->Prop}
def Two (E:Env) (n:Nat) (Os:Nat->Prop) (ms:Lim) (ws:World) (A:(Nat->Prop)->Lim->World->Prop) (st:St) (a:Act) (w:World):Prop:=
 ∃m Oi O,Now E n [] Oi m st a w∧A O m w∧(∀k,O k-> ¬Oi k)∧(∀k,Oi k->ws.heap.size<=k)∧(∀k,O k->Os k∨ws.heap.size<=k)∧Step Os ms ws m w
variable {Os:Nat->Prop} {ms:Lim} {ws:World} {A:(Nat->Prop)->Lim->World->Prop}
variable {st':St}
theorem Two.le (h:Two E n Os ms ws A st a w) (hl:Le st' st):Two E n Os ms ws A st' a w:=by obtain⟨m,Oi,O,h1,h2⟩:=h;exact⟨m,Oi,O,h1.le hl,h2⟩
theorem Two.mono {A':(Nat->Prop)->Lim->World->Prop} (h:Two E n Os ms ws A st a w) (hA:∀O m w,A O m w->A' O m w):Two E n Os ms ws A' st a w:=by obtain⟨m,Oi,O,h1,h2,h3⟩:=h;exact⟨m,Oi,O,h1,hA _ _ _ h2,h3⟩
variable {a':Act}
theorem Two.grown {Oi:Nat->Prop} (hA:Holds E A) (h2:A O m w) (h3:∀k,O k-> ¬Oi k) (h4:∀k,Oi k->ws.heap.size<=k) (h5:∀k,O k->Os k∨ws.heap.size<=k) (h6:Step Os ms ws m w)
 (hn:Now E n [] (oT Oi w w') m' st' a' w') (hs:Step Oi m w m' w'):Two E n Os ms ws A st' a' w':=by
 refine⟨m',_,O,hn,hA.stab _ _ _ _ _ _ h2 hs h3 hn.J,fun k hk hg=>?_,fun k hg=>?_,h5,h6.next hs (fun i hi ho=>absurd hi (Qw.2 (h4 i ho)))⟩
 . rcases hg.2 with hg|hg
   . exact h3 k hk hg
   . exact absurd (hA.lt _ _ _ h2 k hk).1 (Qw.2 hg)
 . rcases hg.2 with hg|hg
   . exact h4 k hg
   . exact tl h6.ext.size hg
variable {vs:Array Value}
theorem jT {us:List V} (hr:RdL m w vs.toList us) (hdat:us.all V.dat=true) (hl:us.length=k) (hk:k<=n) (hn1:n<=1000) (hj:E.J w) (hg:∀g,Rd m w (.pointer (some ⟨g,0,none⟩)) (E.G g)):
 Rel E n ⟨[],id,[],[]⟩ m w m id (start us) {tmps:=vs++Array.replicate (n-vs.size) Go.undef,defers:=[]} w:=by
 have hlen:=hr.length;simp only[PR] at hlen;have hat:∀i,(start us).t i=(us[i]?).getD .undef:=fun i=>by have:=fw us 0 i;simpa[start] using this
 have hnot:∀i sz es s,(start us).t i= .sl false sz es (some s)->False:=by
  intro i sz es s hi;rw[hat i] at hi;cases hu:us[i]? with
  |none=>rw[hu] at hi;cases hi
  |some u=>rw[hu] at hi;simp only[QV] at hi;have:=PJ.1 hdat u (PM hu);rw[hi] at this;simp[V.dat] at this
 have hnomp:∀i s ks vs,(start us).t i= .mp s ks vs->False:=by
  intro i s ks vs hi;rw[hat i] at hi;cases hu:us[i]? with
  |none=>rw[hu] at hi;cases hi
  |some u=>rw[hu] at hi;simp only[QV] at hi;have:=PJ.1 hdat u (PM hu);rw[hi] at this;simp[V.dat] at this
 have hnob:∀v sz es s,Bear E w id (start us) (fun i=>(vs++Array.replicate (n-vs.size) Go.undef).getD i Go.undef) v (.sl false sz es (some s))->False:=by
  intro v sz es s hi;rcases hi with⟨i,h1,_⟩|⟨k',c,j,_,h2,_⟩
  . exact hnot i sz es s h1
  . simp[start] at h2
 refine⟨fun i=>?_,by simp;omega,fun s cs hs=>by simp[start] at hs,fun s s' cs cs' hs=>by simp[start] at hs,Bel.refl _ _,⟨hn1,fun _ _=>rfl,fun x hx=>by cases hx⟩,⟨fun _ _ _=>rfl,Ext.refl _ _,fun x hx=>by cases hx⟩,⟨id,fun v sz es s hi=>(hnob v sz es s hi).elim,fun v sz es s v' sz' es' s' hi=>(hnob v sz es s hi).elim,fun v sz es s k cs hi=>(hnob v sz es s hi).elim⟩,fun i s sz len cs hi hs=>by simp[start] at hs,rfl,hg,hj,⟨fun i s ks vs hi=>(hnomp i s ks vs hi).elim,fun i j s s' ks vs ks' vs' hi=>(hnomp i s ks vs hi).elim⟩⟩;show Rs m w id _ ((start us).t i);rw[hat i];rcases Ql i us.length with h'|h'
 . have hu:us[i]?=some us[i]:=Io h';have hv:vs.toList[i]?=some (vs[i]'(by omega)):=by simp
   rw[hu];have h1:(vs++Array.replicate (n-vs.size) Go.undef).getD i Go.undef=vs[i]'(by omega):=by rw[P0,Qz (by omega),PW (by omega)];rfl
   simp only[h1,QV];exact .of (hr.get i _ _ hv hu)
 . rw[Qc h'];exact .of (.undef _)
end
def HG (ts:List (Nat×V)) (bs:List (Nat×List V)):Out->St->Prop
 | .normal,st=>jk st ts∧jl st bs
 | .ret,_=>False
 | .exit _,_=>False
def HI (id:Nat) (ts:List (Nat×V)) (bs:List (Nat×List V)):Out->St->Prop
 | .normal,_=>False
 | .ret,_=>False
 | .exit i,st=>i=id∧jk st ts∧jl st bs
def HJ (ts:List (Nat×V)) (bs:List (Nat×List V)):Out->St->Prop
 | .normal,_=>False
 | .ret,st=>jk st ts∧jl st bs
 | .exit _,_=>False
section
variable (ts:List (Nat×V)) (bs:List (Nat×List V)) (st:St) (id i:Nat)
theorem qI:HJ ts bs .normal st=False:=rfl
theorem Bi:HJ ts bs .ret st=(jk st ts∧jl st bs):=rfl
theorem xU:HJ ts bs (.exit id) st=False:=rfl
theorem qJ:HG ts bs .normal st=(jk st ts∧jl st bs):=rfl
theorem Bj:HG ts bs .ret st=False:=rfl
theorem xV:HG ts bs (.exit id) st=False:=rfl
theorem qK:HI id ts bs .normal st=False:=rfl
theorem Bl:HI id ts bs .ret st=False:=rfl
theorem xW:HI id ts bs (.exit i) st=(i=id∧jk st ts∧jl st bs):=rfl
end
attribute [go_sem] qI Bi xU qJ Bj xV qK Bl xW
section
variable {E:Env} {n:Nat} {ms:Lim} {ws:World} {st:St} {a:Act} {w:World} {Os:Nat->Prop} {A:(Nat->Prop)->Lim->World->Prop}
end
structure Marks (D:List Deferred) (O:Nat->Prop) (lo:Nat) (w:World):Prop where
 nd:D.Nodup
 is:∀d∈D,∃b,d=markD b∧lo<=b∧w.heap[b]?=some (.deferred (some []))∧ ¬O b
structure Kno where
 P:Lim->World->Prop
 mono:∀m w m' w',P m w->Ext m w m' w'->P m' w'
def Kno.top:Kno:=⟨fun _ _=>True,fun _ _ _ _ _ _=>trivial⟩
def Kno.rd (v:Value) (u:V):Kno:=⟨fun m w=>Rd m w v u,fun _ _ _ _ h he=>h.mono he⟩
structure Bs where
 D:List Deferred
 Kn:Kno
 W:Nat->Bool
 t0:Array Value
 Os:Nat->Prop
 ms:Lim
 ws:World
def One (E:Env) (n:Nat) (B:Bs) (st:St) (a:Act) (w:World):Prop:=
 ∃m O,Now E n B.D O m st a w∧(∀k,O k->B.Os k∨B.ws.heap.size<=k)∧Step B.Os B.ms B.ws m w∧Marks B.D O B.ws.heap.size w∧B.Kn.P m w∧KeepT B.W B.t0 a.tmps
theorem lU (E:Env) (body:Code) (K:Out->St->Prop) (st:St):E6 E body K .normal st=run E body st K:=rfl
section
variable (W:Nat->Bool) (Inv:List (List V)->Prop) (I:List (List V)->St) (Jx:Code->List (List V)->St->Prop) (pre:List (List V)) (st:St) (id:Nat)
theorem mY:tR W Inv I Jx pre .normal st=(Inv pre∧Le (I pre) (cut W st)):=rfl
theorem tU:tR W Inv I Jx pre .ret st=Jx .ret pre (cut W st):=rfl
theorem qL:tR W Inv I Jx pre (.exit id) st=Jx (.exit id) pre (cut W st):=rfl
theorem Ki (i:Nat):(cut W st).t i=bif W i then .undef else st.t i:=rfl
theorem Kj (i:Nat):(cut W st).b i=st.b i:=rfl
theorem xX (p:Tmp) (ps:List Tmp) (u:V) (us:List V) (s:St):E5 (p::ps) (u::us) s=E5 ps us (s.put (some p) u.bare):=rfl
theorem Bm (us:List V) (s:St):E5 [] us s=s:=by cases us<;>rfl
end
attribute [go_sem] lU mY tU qL Ki Kj xX Bm
section
variable {E:Env} {n:Nat} {D:List Deferred} {B:Bs} {m ms:Lim} {ws w:World} {st:St} {a:Act} {O:Nat->Prop} {r:Option Nat}
variable {st':St}
theorem One.le (h:One E n B st a w) (hl:Le st' st):One E n B st' a w:=by obtain⟨m,O,h1,h2⟩:=h;exact⟨m,O,h1.le hl,h2⟩
variable {a':Act}
theorem One.grown (h2:∀k,O k->B.Os k∨B.ws.heap.size<=k) (h3:Step B.Os B.ms B.ws m w) (h4:Marks B.D O B.ws.heap.size w) (h5:B.Kn.P m w) (hkt:KeepT B.W B.t0 a'.tmps)
 (hn:Now E n B.D (oT O w w') m' st' a' w') (hs:Step O m w m' w'):One E n B st' a' w':=by
 refine⟨m',_,hn,fun k hg=>?_,h3.next hs (fun i hi ho=>(h2 i ho).resolve_right (Q7.2 hi)),⟨h4.nd,fun d hd=>?_⟩,B.Kn.mono _ _ _ _ h5 hs.ext,hkt⟩
 . rcases hg.2 with hg|hg
   . exact h2 k hg
   . exact .inr (tl h3.ext.size hg)
 . obtain⟨b,rfl,q1,q2,q3⟩:=h4.is d hd;refine⟨b,rfl,q1,(hs.same b (al q2) q3).1.trans q2,fun hg=>?_⟩;rcases hg.2 with hg|hg
   . exact q3 hg
   . exact absurd (al q2) (Qw.2 hg)
theorem One.after {Kn':Kno} {d:Tmp} (hd:d<n) {v:Value} {u:V} (h1:Now E n B.D O m st a w) (h2:∀k,O k->B.Os k∨B.ws.heap.size<=k) (h3:Step B.Os B.ms B.ws m w) (h4:Marks B.D O B.ws.heap.size w) (h6:KeepT B.W B.t0 a.tmps) (hWd:B.W d=true) (hs:Step (fun _=>False) m w m' w') (hJ:E.J w') (hv:Rd m' w' v u) (hk:Kn'.P m' w'):
 One E n {B with Kn:=Kn'} (st.put (some d) u.bare) (a.put (some d) v) w':=by
 refine⟨m',O,(h1.other hs (fun _ _ h=>h) hJ).put hd hv,h2,h3.next hs (fun _ _ h=>h.elim),⟨h4.nd,fun x hx=>?_⟩,hk,h6.put (fun k e=>by cases e;exact hWd)⟩;obtain⟨b,rfl,q1,q2,q3⟩:=h4.is x hx;exact⟨b,rfl,q1,(hs.same b (al q2) (fun h=>h)).1.trans q2,q3⟩
def Bn (W:Nat->Bool) (Inv:List (List V)->Prop) (T:List (List V)->List (Nat×V)) (B:List (List V)->List (Nat×List V)) (Rx:Prop) (TX:List (Nat×V)) (BX:List (Nat×List V)) (pre:List (List V)):Out->St->Prop
 | .normal,st=>Inv pre∧jk (cut W st) (T pre)∧jl st (B pre)
 | .ret,st=>Rx∧jk (cut W st) TX∧jl st BX
 | .exit _,_=>False
theorem mZ (W:Nat->Bool) (Inv:List (List V)->Prop) (T:List (List V)->List (Nat×V)) (B:List (List V)->List (Nat×List V)) (Rx:Prop) (TX:List (Nat×V)) (BX:List (Nat×List V)) (pre:List (List V)) (st:St):Bn W Inv T B Rx TX BX pre .normal st=(Inv pre∧jk (cut W st) (T pre)∧jl st (B pre)):=rfl
theorem tV (W:Nat->Bool) (Inv:List (List V)->Prop) (T:List (List V)->List (Nat×V)) (B:List (List V)->List (Nat×List V)) (Rx:Prop) (TX:List (Nat×V)) (BX:List (Nat×List V)) (pre:List (List V)) (st:St):Bn W Inv T B Rx TX BX pre .ret st=(Rx∧jk (cut W st) TX∧jl st BX):=rfl
attribute [go_sem] mZ tV
variable {o:Obj}
theorem Step.mark {b:Nat} (h:w.heap[b]?=some (.deferred (some []))):Step (fun k=>k=b) m w m (w.putObj b o):=by
 refine⟨rfl,rfl,rfl,⟨by simp,fun blk off v hb _ hc=>?_,fun blk _ fr hf=>⟨fr,hf,PB _⟩,fun blk es c _ hc=>by rw[World.putObj_heap_other (fun e=>by rw[e,h] at hc;cases hc)];exact hc⟩,fun k _ hn=>⟨World.putObj_heap_other hn,rfl⟩⟩;by_cases e:blk=b
 . subst e;simp[World.cell?,h] at hc
 . rw[aT (World.putObj_heap_other e)];exact hc
end
open Go.ChangeMaps (setBlock)
section
variable {E:Env} {n:Nat} {m ms:Lim} {ws w:World} {st:St} {a:Act} {O Os:Nat->Prop}
def KeyFr (A:List (List V)->(Nat->Prop)->Lim->World->Prop) (g r:Nat) (ents:Array MapEntry) (clock:Nat) (mg:Option Nat) (sp sq:List (MapEntry×V)):(Nat->Prop)->Lim->World->Prop:=fun O m w=>
 ∃O1,A (sp.map fun p=>[p.2]) O1 m w∧ ¬O1 g∧ ¬O1 r∧g≠r∧(∀k,O k↔(O1 k∨k=g∨k=r))∧w.heap[g]?=some (.map ents clock)∧m g=mg∧w.heap[r]?=some (.mapIter (some g) clock (sq.map fun p=>p.1.born).toArray clock)
variable {A Ax:List (List V)->(Nat->Prop)->Lim->World->Prop} {g r:Nat} {ents:Array MapEntry} {clock:Nat} {mg:Option Nat} {sp sq:List (MapEntry×V)}
theorem KeyFr.holds (hA:∀pre,Holds E (A pre)) (hg:E.K<=g) (hr:E.K<=r):Holds E (KeyFr A g r ents clock mg sp sq):=by
 refine⟨?_,?_⟩
 . rintro O m1 w1 S m2 w2 ⟨O1,h1,h2,h3,h4,h5,h6,h7,h8⟩ hs hS hJ;have q1:=hs.same g (al h6) (hS g ((h5 g).2 (.inr (.inl rfl))));have q2:=hs.same r (al h8) (hS r ((h5 r).2 (.inr (.inr rfl))));exact⟨O1,(hA _).stab O1 m1 w1 S m2 w2 h1 hs (fun k hk=>hS k ((h5 k).2 (.inl hk))) hJ,h2,h3,h4,h5,q1.1.trans h6,q1.2.trans h7,q2.1.trans h8⟩
 . rintro O m1 w1 ⟨O1,h1,h2,h3,h4,h5,h6,h7,h8⟩ k hk;rcases(h5 k).1 hk with hk|rfl|rfl
   . exact(hA _).lt O1 m1 w1 h1 k hk
   . exact⟨al h6,hg⟩
   . exact⟨al h8,hr⟩
variable {vs:Array Value}
theorem KeyFr.yield {e:MapEntry} {kv:V} {l:Nat}
 (hy:∀O1,A (sp.map fun p=>[p.2]) O1 m1 w1->YieldAt (fK none) 0 P l vs w1 fun e' w2=>∃m2 O2,Step O1 m1 w1 m2 w2∧(∀k,O2 k->O1 k∨w1.heap.size<=k)∧E.J w2∧
  ((e'= .returned (.bool true)∧A ((sp++[(e,kv)]).map fun p=>[p.2]) O2 m2 w2)∨(e'= .returned (.bool false)∧Ax ((sp++[(e,kv)]).map fun p=>[p.2]) O2 m2 w2)))
 (O1:Nat->Prop) (h1:A (sp.map fun p=>[p.2]) O1 m1 w1) (h2: ¬O1 g) (h3: ¬O1 r) (h4:g≠r) (h5:∀k,O k↔(O1 k∨k=g∨k=r)) (h6:w1.heap[g]?=some (.map ents clock)) (h7:m1 g=mg)
 (h8:w1.heap[r]?=some (.mapIter (some g) clock ((sp++[(e,kv)]).map fun p=>p.1.born).toArray clock)):
 YieldAt (fK none) 0 P l vs w1 fun e' w2=>∃m2 O2,Step O m1 w1 m2 w2∧(∀k,O2 k->O k∨w1.heap.size<=k)∧E.J w2∧
  ((e'= .returned (.bool true)∧KeyFr A g r ents clock mg (sp++[(e,kv)]) (sp++[(e,kv)]) O2 m2 w2)∨(e'= .returned (.bool false)∧KeyFr Ax g r ents clock mg (sp++[(e,kv)]) (sp++[(e,kv)]) O2 m2 w2)):=by
 obtain⟨fn,tmps,assign,body,hyr,hR⟩:=hy O1 h1;refine⟨fn,tmps,assign,body,hyr,RoundIn.mono hR ?_⟩;rintro e' w2 ⟨m2,O2,hs,hO,hJ,hend⟩;have q1:=hs.same g (al h6) h2;have q2:=hs.same r (al h8) h3;have n1: ¬O2 g:=fun h=>by rcases hO g h with h|h;exact h2 h;exact absurd (al h6) (Qw.2 h)
 have n2: ¬O2 r:=fun h=>by rcases hO r h with h|h;exact h3 h;exact absurd (al h8) (Qw.2 h)
 refine⟨m2,fun k=>O2 k∨k=g∨k=r,hs.mono (fun k _ hk=>(h5 k).2 (.inl hk)),fun k hk=>?_,hJ,?_⟩
 . rcases hk with hk|hk
   . rcases hO k hk with hk|hk
     . exact .inl ((h5 k).2 (.inl hk))
     . exact .inr hk
   . exact .inl ((h5 k).2 (.inr hk))
 . rcases hend with⟨rfl,ha⟩|⟨rfl,ha⟩
   . exact .inl ⟨rfl,O2,ha,n1,n2,h4,fun _=>Iff.rfl,q1.1.trans h6,q1.2.trans h7,q2.1.trans h8⟩
   . exact .inr ⟨rfl,O2,ha,n1,n2,h4,fun _=>Iff.rfl,q1.1.trans h6,q1.2.trans h7,q2.1.trans h8⟩
variable {o:Obj}
theorem Step.iter {b:Option Nat} {s:Nat} {sn:Array Nat} {c:Nat} (hw:w1=w∨w1=w.drew) (h:w.heap[r]?=some (.mapIter b s sn c)):Step (fun k=>k=r) m w m (setBlock w1 r o):=by
 have hh:w1.heap=w.heap:=by rcases hw with rfl|rfl<;>rfl
 have hoth:∀k,k≠r->(setBlock w1 r o).heap[k]?=w.heap[k]?:=fun k hk=>by show(w1.heap.setIfInBounds r o)[k]?=_;rw[hh,Array.getElem?_setIfInBounds_ne (QT hk)]
 refine⟨by rcases hw with rfl|rfl<;>rfl,by rcases hw with rfl|rfl<;>rfl,by rcases hw with rfl|rfl<;>rfl,⟨by show _<=(w1.heap.setIfInBounds r o).size;rw[hh];simp,fun blk off v hb _ hc=>?_,fun blk _ fr hf=>⟨fr,hf,PB _⟩,fun blk es c _ hc=>by rw[hoth blk (fun e=>by rw[e,h] at hc;cases hc)];exact hc⟩,fun k _ hn=>⟨hoth k hn,rfl⟩⟩;by_cases e:blk=r
 . subst e;simp[World.cell?,h] at hc
 . rw[aT (hoth blk e)];exact hc
theorem m4 {o':Obj} (hw:w1=w∨w1=w.drew) (h:w.heap[r]?=some o'):(setBlock w1 r o).heap[r]?=some o:=by
 have hh:w1.heap=w.heap:=by rcases hw with rfl|rfl<;>rfl
 show(w1.heap.setIfInBounds r o)[r]?=_;rw[hh];have:=al h;simp[this]
theorem MapAt.step {g:Nat} {ks vs:List V} (h:MapAt m w g ks vs) (hs:Step (fun _=>False) m w m' w'):MapAt m' w' g ks vs:=by obtain⟨ents,clock,hh,hrd,h1,h2,h3⟩:=h;exact⟨ents,clock,(hs.same g (al hh) (fun h=>h)).1.trans hh,hrd.mono hs.ext,h1,h2,by rw[(hs.same g (al hh) (fun h=>h)).2];exact h3⟩
theorem fE {α:Type}:∀{l l':List α},l.Nodup->(∀x∈l,x∈l')->l.length<=l'.length
 |[],_,_,_=>PH _
 | a::l,l',h,hs=>by
   obtain⟨s,t,rfl⟩:=List.append_of_mem (hs a (PZ ..));rw[QF] at h;have:=fE (l':=s++t) h.2 (fun x hx=>by
    have h1:=hs x (P4 _ hx);rcases PU.1 h1 with h1|h1
    . exact Qp _ h1
    . rcases PY.1 h1 with h1|h1
      . rw[h1] at hx;exact absurd hx h.1
      . exact Rl _ h1)
   simp only[PP,P5] at this⊢;omega
end
section
variable {E:Env} {n:Nat} {D:List Deferred} {B:Bs} {m:Lim} {w:World} {st:St} {a:Act} {O:Nat->Prop}
theorem One.frame (h:One E n B st a w) (W':Nat->Bool):One E n {B with W:=W',t0:=a.tmps} st a w:=by obtain⟨m,O,h1,h2,h3,h4,h5,_⟩:=h;exact⟨m,O,h1,h2,h3,h4,h5,KeepT.refl _ _⟩
theorem One.kept (h:One E n B st a w) {i:Nat} (hi:B.W i=false):a.tmps.getD i Go.undef=B.t0.getD i Go.undef:=by obtain⟨m,O,_,_,_,_,_,h6⟩:=h;exact h6 i hi
theorem One.row (hE:EnvOK E) {Kn':Kno} {m':Lim} {w':World} {d g sz len cap:Nat} {cs:List V} {cur:Array Value} {ty:TypeId} (hd:d<n) (hd1:d<1000) (hMB:E.MB d=false) (h1:Now E n B.D O m st a w) (h3:Step B.Os B.ms B.ws m w) (h4:Marks B.D O B.ws.heap.size w) (h6:KeepT B.W B.t0 a.tmps) (hWd:B.W d=true)
 (hs:Step (fun _=>False) m w m' w') (hJ:E.J w') (hg:w.heap.size<=g) (hb:BoxAt m' w' g cs) (hcur:w'.heap[g]?=some (.cells cur ty (0,0))) (hsz:cur.size=cap*sz) (hlen:len<=cap) (hfit:len*sz<=cs.length) (hk:Kn'.P m' w'):
 One E n {B with Kn:=Kn'} ⟨fun i=>if i=d then .row d sz len else .undef,fun s=>if s=d then some cs else none⟩ (a.put (some d) (.slice (some ⟨g,0,none⟩) len cap)) w':=by
 have hgw:g<w'.heap.size:=al hcur;have hE1:E.K<=w.heap.size:=hE.high _ h1.J;obtain⟨b,β,hr⟩:=h1.rel;have hz:a.tmps.size=n:=hr.size;refine⟨m',(fun k=>k=g),⟨⟨b,aw β d g,?_⟩,fun k e=>by rw[e];exact hgw⟩,fun k e=> .inr (by rw[e];exact tl h3.ext.size hg),h3.next hs (fun _ _ h=>h.elim),⟨h4.nd,fun x hx=>?_⟩,hk,h6.put (fun k e=>by cases e;exact hWd)⟩
 . refine⟨fun i=>?_,by simp[Act.put,hz],fun s cs' hs'=>?_,fun s s' cs1 cs2 hs1 hs2 _=>?_,Bel.refl _ _,⟨hr.par.1,fun s hs'=>?_,fun x hx=>?_⟩,⟨fun _ _ _=>rfl,Ext.refl _ _,fun y hy=>hy⟩,⟨fun _=>0,?_⟩,fun i s sz' len' cs' hi hb'=>?_,hr.defers,fun g'=>(hr.glob g').mono hs.ext,hJ,?_⟩
   . show Rs _ _ _ _ (if i=d then V.row d sz len else .undef);by_cases e:i=d
     . subst e;rw[PO rfl];refine .inr (.inr (.inl ⟨i,sz,len,cap,rfl,?_,hlen⟩));rw[aa];simp[Act.put,P0,hz,hd]
     . rw[PS e];exact .inl (.undef _)
   . have hs':(if s=d then some cs else none)=some cs':=hs';split at hs'
     . rename_i e;cases hs';rw[e,aa];exact⟨hb,.inr (bB.2 ⟨hgw,rfl⟩)⟩
     . cases hs'
   . have hs1:(if s=d then some cs else none)=some cs1:=hs1;have hs2:(if s'=d then some cs else none)=some cs2:=hs2;split at hs1
     . split at hs2
       . rename_i e1 e2;rw[e1,e2]
       . cases hs2
     . cases hs1
   . rw[ae _ _ (by omega)];exact hr.par.2.1 s hs'
   . rw[(bB.1 hx).2];exact tl hE1 hg
   . have hno:∀v sz' es s,Bear E w' (aw β d g) ⟨fun i=>if i=d then .row d sz len else .undef,fun s=>if s=d then some cs else none⟩ (fun i=>(a.put (some d) (.slice (some ⟨g,0,none⟩) len cap)).tmps.getD i Go.undef) v (.sl false sz' es (some s))->False:=by
      rintro v sz' es s (⟨i,hi,_⟩|⟨k,cs',j,h1,h2,_⟩)
      . have hi:(if i=d then V.row d sz len else .undef)=_:=hi;split at hi<;>cases hi
      . have h2:(if k=d then some cs else none)=some cs':=h2;split at h2
        . rename_i e;rw[e,hMB] at h1;cases h1
        . cases h2
     exact⟨fun v sz' es s hb=>(hno _ _ _ _ hb).elim,fun v sz' es s _ _ _ _ hb=>(hno _ _ _ _ hb).elim,fun v sz' es s k cs' hb=>(hno _ _ _ _ hb).elim⟩
   . have hi:(if i=d then V.row d sz len else .undef)= .row s sz' len':=hi;split at hi
     . rename_i e;cases hi;have hb':(if d=d then some cs else none)=some cs':=hb';rw[PO rfl] at hb';cases hb';refine⟨hfit,cap,cur,.plain ty,?_,by rw[aa];exact hcur,hsz⟩;rw[aa,e];simp[Act.put,P0,hz,hd]
     . cases hi
   . refine⟨fun i s ks vs hi=>?_,fun i j s s' ks vs ks' vs' hi=>?_⟩<;>
     . have hi:(if i=d then V.row d sz len else .undef)=_:=hi;split at hi<;>cases hi
 . obtain⟨b',rfl,q1,q2,q3⟩:=h4.is x hx;exact⟨b',rfl,q1,(hs.same b' (al q2) (fun h=>h)).1.trans q2,fun e=>by have:=al q2;have e:b'=g:=e;omega⟩
end
end Go.Proofs.Ytldnpcolhdnkdaa
