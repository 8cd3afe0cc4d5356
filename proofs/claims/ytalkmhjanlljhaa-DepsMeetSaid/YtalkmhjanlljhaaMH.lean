/- Rows that the call made and that its run does not know at present: kept beside the run; taken up to be written, and put down again. No program is named here. -/
import Derived.Test.YtalkmhjanlljhaaMI
import Derived.Test.YtalkmhjanlljhaaMU
import Derived.WideLaws
namespace Go.Proofs.Ytalkmhjanlljhaa
set_option linter.unusedSimpArgs false
open Go Go.RowKit
structure Loose (K:Nat) (sz:Nat) (m:Lim) (w:World) (v:Value) (es:List V) (g:Nat):Prop where
 box:BoxAt m w g (es.flatMap V.cells)
 low:K<=g
 is:∃(cap:Nat) (cur:Array Value) (ty:TyAt cur.size),v= .slice (some ⟨g,0,none⟩) es.length cap∧w.heap[g]?=some (.cells cur ty.ty ty.fz)∧es.length<=cap∧cur.size=cap*sz
inductive Bed (K:Nat) (sz:Nat) (m:Lim) (w:World):List (Value×List V)->List Nat->Prop
 |nil:Bed K sz m w [] []
 |no {l:List (Value×List V)} {gs:List Nat} (h:Bed K sz m w l gs):Bed K sz m w ((.slice none 0 0,[])::l) gs
 |row {v:Value} {es:List V} {g:Nat} {l:List (Value×List V)} {gs:List Nat} (hne:es≠[]) (h1:Loose K sz m w v es g) (h2:g∉gs) (h:Bed K sz m w l gs):Bed K sz m w ((v,es)::l) (g::gs)
section
variable {E:Env} {n sz:Nat} {D:List Deferred} {m m' ms:Lim} {ws w w':World} {st:St} {a:Act} {O S:Nat->Prop} {r:Option Nat}
variable {v:Value} {es:List V} {g:Nat}
theorem Loose.lt {K:Nat} (h:Loose K sz m w v es g):g<w.heap.size:=by obtain⟨_,_,_,_,hh,_⟩:=h.is;exact ae hh
theorem BoxAt.stab {cs:List V} (h:BoxAt m w g cs) (hs:Step S m w m' w') (hS: ¬S g):BoxAt m' w' g cs:=by obtain⟨hl,vals,ty,xs,rest,hh,hx,hr⟩:=h;obtain⟨h1,h2⟩:=hs.same g (ae hh) hS;exact⟨by rw[h2];exact hl,vals,ty,xs,rest,by rw[h1];exact hh,hx,hr.mono hs.ext⟩
theorem Loose.stab {K:Nat} (h:Loose K sz m w v es g) (hs:Step S m w m' w') (hS: ¬S g):Loose K sz m' w' v es g:=by obtain⟨h1,h2,cap,cur,ty,q1,q2,q3⟩:=h;exact⟨h1.stab hs hS,h2,cap,cur,ty,q1,by rw[(hs.same g (ae q2) hS).1];exact q2,q3⟩
variable {P:List (Value×List V)} {gs:List Nat}
theorem Bed.lt {K:Nat} (h:Bed K sz m w P gs):∀g∈gs,g<w.heap.size:=by
 induction h with
 |nil=>exact fun g hg=>by cases hg
 |no _ ih=>exact ih
 | row _ h1 _ _ ih=>
   intro g hg;rcases S5.1 hg with rfl|hg
   . exact h1.lt
   . exact ih g hg
theorem Bed.stab {K:Nat} (h:Bed K sz m w P gs) (hs:Step S m w m' w') (hS:∀g∈gs,¬S g):Bed K sz m' w' P gs:=by
 induction h with
 |nil=>exact .nil
 |no _ ih=>exact .no (ih hS)
 |row hne h1 h2 _ ih=>exact .row hne (h1.stab hs (hS _ (Tm ..))) h2 (ih fun g hg=>hS g (Tg _ hg))
theorem Bed.slice {K:Nat} (h:Bed K sz m w ((v,es)::P) gs):∃ao ln cp,v= .slice ao ln cp:=by
 cases h with
 |no _=>exact⟨_,_,_,rfl⟩
 |row _ h1 _ _=>obtain⟨cap,_,_,e,_⟩:=h1.is;exact⟨_,_,_,e⟩
theorem Now.take (hMB:∀s,E.MB s=false) (h:Now E n D O m st a w) {v:Value} {es:List V} {g:Nat} (hL:Loose E.K sz m w v es g) (hlen:∀e∈es,e.cells.length=sz) (hO: ¬O g) {d s:Nat} (hv:a.tmps.getD d Go.undef=v) (hno:noPtrTo s st.t) (hs:s<n):
 Now E n D (fun k=>O k∨k=g) m ⟨ay st.t d (.row s sz es.length),ay st.b s (some (es.flatMap V.cells))⟩ a w:=by
 obtain⟨⟨b,β,hr⟩,hlt⟩:=h;obtain⟨hbx,hlow,cap,cur,ty,hve,hh,hcap,hcs⟩:=hL;have hbg:∀{s':Nat} {cs':List V},st.b s'=some cs'->β s'≠g:=fun {s' cs'} hs' e=>by
  obtain⟨⟨_,_,_,_,_,hh',_⟩,hge⟩:=hr.boxes s' cs' hs';rcases hge with hge|hge
  . exact absurd (ae hh') (Tx.2 hge)
  . exact hO (e▸(aU.1 hge).2)
 have hin:∀x,x<w.heap.size->(w.heap.size<=x∨x∈lst O w.heap.size)->x∈lst (fun k=>O k∨k=g) w.heap.size:=fun x hx ho=>by
  rcases ho with ho|ho
  . exact absurd hx (Tx.2 ho)
  . exact aU.2 ⟨hx,.inl (aU.1 ho).2⟩
 have hfl:(es.flatMap V.cells).length=es.length*sz:=by
  clear hbx hcap hve
  induction es with
  |nil=>simp
  |cons e es ih=>rw[TB,SQ,ih (fun x hx=>hlen x (Tg _ hx)),hlen e (Tm ..),SV,TJ,UU,Nat.add_comm]
 have hbeta:∀s',s'≠s->ay β s g s'=β s':=fun s' hs'=>ah _ _ hs'
 refine⟨⟨b,ay β s g,⟨fun i=>?_,hr.size,fun s' cs' hs'=>?_,fun s1 s2 c1 c2 h1 h2 heq=>?_,Bel.refl _ _,⟨hr.par.1,fun s' hs'=>(hbeta s' (by have:=hr.par.1;omega)).trans (hr.par.2.1 s' hs'),fun x hx=>?_⟩,⟨fun _ _ _=>rfl,Ext.refl _ _,fun y hy=>hy⟩,?_,fun i s' sz' len' cs' hi hb=>?_,hr.defers,hr.glob,hr.j,?_⟩⟩,fun k hk=>?_⟩
 . show Rs m w (ay β s g) _ (ay st.t d (.row s sz es.length) i);by_cases e:i=d
   . subst e;rw[ai,hv,hve];have:=Rs.ofRow (m:=m) (w:=w) (β:=ay β s g) s sz hcap
     rwa [ai] at this
   . rw[ah _ _ e];exact(hr.tmps i).beta (fun s' hs'=>hbeta s' (fun e=>hno i (by rw[hs',e])))
 . have hs':ay st.b s (some (es.flatMap V.cells)) s'=some cs':=hs';by_cases e:s'=s
   . subst e;rw[ai] at hs'⊢;cases hs';exact⟨hbx,.inr (aU.2 ⟨ae hh,.inr rfl⟩)⟩
   . rw[ah _ _ e] at hs'⊢;obtain⟨h1,h2⟩:=hr.boxes s' cs' hs';have hlt':β s'<w.heap.size:=by obtain⟨_,_,_,_,_,hh,_⟩:=h1;exact ae hh
     exact⟨h1,.inr (hin _ hlt' h2)⟩
 . have h1:ay st.b s (some (es.flatMap V.cells)) s1=some c1:=h1;have h2:ay st.b s (some (es.flatMap V.cells)) s2=some c2:=h2;by_cases e1:s1=s
   . by_cases e2:s2=s
     . rw[e1,e2]
     . subst e1;rw[ah _ _ e2] at h2;rw[ai,hbeta _ e2] at heq;exact absurd heq.symm (hbg h2)
   . by_cases e2:s2=s
     . subst e2;rw[ah _ _ e1] at h1;rw[ai,hbeta _ e1] at heq;exact absurd heq (hbg h1)
     . rw[ah _ _ e1] at h1;rw[ah _ _ e2] at h2;rw[hbeta _ e1,hbeta _ e2] at heq;exact hr.inj _ _ _ _ h1 h2 heq
 . obtain⟨q1,q2⟩:=aU.1 hx;rcases q2 with q2|rfl
   . exact hr.par.2.2 x (aU.2 ⟨q1,q2⟩)
   . exact hlow
 . obtain⟨ρ,hrw⟩:=hr.rows;have hB:∀v sz' es' s',Bear E w (ay β s g) ⟨ay st.t d (.row s sz es.length),ay st.b s (some (es.flatMap V.cells))⟩ (fun i=>a.tmps.getD i Go.undef) v (.sl false sz' es' (some s'))->Bear E w β st (fun i=>a.tmps.getD i Go.undef) v (.sl false sz' es' (some s')):=by
    rintro v sz' es' s' (⟨i,h1,h2⟩|⟨k,_,_,hk,_⟩)
    . have h1:ay st.t d (.row s sz es.length) i= .sl false sz' es' (some s'):=h1;by_cases e:i=d
      . rw[e,ai] at h1;cases h1
      . rw[ah _ _ e] at h1;exact .inl ⟨i,h1,h2⟩
    . rw[hMB] at hk;cases hk
   refine⟨ρ,fun v sz' es' s' hi=>?_,fun v sz es s1 v' sz' es' s2 hi hi' e=>hrw.sep _ _ _ _ _ _ _ _ (hB _ _ _ _ hi) (hB _ _ _ _ hi') e,fun v sz' es' s1 k c hi hk=>?_⟩
   . obtain⟨lo,lim,cap,cur,ty,hv,hh,hc,hs⟩:=hrw.row _ _ _ _ (hB _ _ _ _ hi);exact⟨.inr (hin _ (ae hh) lo),lim,cap,cur,ty,hv,hh,hc,hs⟩
   . have hk:ay st.b s (some (es.flatMap V.cells)) k=some c:=hk;obtain⟨lo,lim,cap,cur,ty,_,hh',_⟩:=hrw.row _ _ _ _ (hB _ _ _ _ hi);by_cases e:k=s
     . subst e;rw[ai];rintro rfl;rcases lo with lo|lo
       . exact absurd (ae hh') (Tx.2 lo)
       . exact hO (aU.1 lo).2
     . rw[ah _ _ e] at hk;rw[hbeta _ e];exact hrw.box _ _ _ _ _ _ (hB _ _ _ _ hi) hk
 . replace hi:ay st.t d (.row s sz es.length) i= .row s' sz' len':=hi;replace hb:ay st.b s (some (es.flatMap V.cells)) s'=some cs':=hb;by_cases e:i=d
   . subst e;rw[ai] at hi;cases hi;rw[ai] at hb;cases hb;refine⟨by rw[hfl];exact SX _,cap,cur,ty,?_,?_,hcs⟩
     . rw[ai];exact hv.trans hve
     . rw[ai];exact hh
   . rw[ah _ _ e] at hi;have hne:s'≠s:=fun e'=>hno i (by rw[hi,e'];rfl)
     rw[ah _ _ hne] at hb;have:=hr.own i s' sz' len' cs' hi hb;exact⟨this.fit,by rw[hbeta _ hne];exact this.is⟩
 . refine⟨fun i s' ks vs hi=>?_,fun i j s1 s2 ks1 vs1 ks2 vs2 hi hj e=>?_⟩
   . have hi:ay st.t d (.row s sz es.length) i= .mp s' ks vs:=hi;by_cases e:i=d
     . rw[e,ai] at hi;cases hi
     . rw[ah _ _ e] at hi;have hne:s'≠s:=fun e'=>hno i (by rw[hi,e'];rfl)
       rw[hbeta _ hne];obtain⟨⟨ents,clock,hh,hrest⟩,h2⟩:=hr.maps.holds i s' ks vs hi;exact⟨⟨ents,clock,hh,hrest⟩,.inr (hin _ (ae hh) h2)⟩
   . have hi:ay st.t d (.row s sz es.length) i= .mp s1 ks1 vs1:=hi;have hj:ay st.t d (.row s sz es.length) j= .mp s2 ks2 vs2:=hj;by_cases e1:i=d
     . rw[e1,ai] at hi;cases hi
     . by_cases e2:j=d
       . rw[e2,ai] at hj;cases hj
       . rw[ah _ _ e1] at hi;rw[ah _ _ e2] at hj;rw[hbeta _ (fun e'=>hno i (by rw[hi,e'];rfl)),hbeta _ (fun e'=>hno j (by rw[hj,e'];rfl))] at e;exact hr.maps.inj _ _ _ _ _ _ _ _ hi hj e
 . rcases hk with hk|rfl
   . exact hlt k hk
   . exact ae hh
theorem Now.learn (h:Now E n D O m st a w) {d:Nat} (hd:d<n) {u:V} (hv:Rd m w (a.tmps.getD d Go.undef) u):Now E n D O m ⟨ay st.t d u.bare,st.b⟩ a w:=by
 have hz:a.tmps.size=n:=by obtain⟨_,_,hr⟩:=h.rel;exact hr.size
 have:=h.put hd hv;have e:a.put (some d) (a.tmps.getD d Go.undef)=a:=by
  have:a.tmps.setIfInBounds d (a.tmps.getD d Go.undef)=a.tmps:=by
   apply Array.ext_getElem?;intro i;rw[UL];split
   . rename_i e;subst e;rw[S4 (by omega),S0,Te (by omega)];rfl
   . rfl
  show({a with tmps:=_}:Act)=a;rw[this]
 rw[e] at this;exact this
theorem Step.freeze (g:Nat) (m:Lim) (w:World):Step (fun k=>k=g) m w (ay m g none) w:=by exact⟨rfl,rfl,rfl,Ext.freeze g m w,fun k _ hk=>⟨rfl,ah _ _ hk⟩⟩
structure Hb where
 Kn:Kno
 W:Nat->Bool
 t0:Array Value
 ms:Lim
 ws:World
def Hold (E:Env) (n sz:Nat) (B:Hb) (P:List (Value×List V)) (st:St) (a:Act) (w:World):Prop:=
 ∃m O gs,Now E n [] O m st a w∧Bed E.K sz m w P gs∧(∀g∈gs,¬O g∧B.ws.heap.size<=g)∧(∀k,O k->B.ws.heap.size<=k)∧Step (fun _=>False) B.ms B.ws m w∧B.Kn.P m w∧KeepT B.W B.t0 a.tmps
variable {B:Hb} {P:List (Value×List V)}
variable {st':St}
theorem Hold.le (h:Hold E n sz B P st a w) (hl:Le st' st):Hold E n sz B P st' a w:=by obtain⟨m,O,gs,h1,h2⟩:=h;exact⟨m,O,gs,h1.le hl,h2⟩
variable {a':Act}
theorem Hold.grown (h2:Bed E.K sz m w P gs) (h3:∀g∈gs,¬O g∧B.ws.heap.size<=g) (h4:∀k,O k->B.ws.heap.size<=k) (h5:Step (fun _=>False) B.ms B.ws m w) (h6:B.Kn.P m w) (hkt:KeepT B.W B.t0 a'.tmps)
 (hn:Now E n [] (rf O w w') m' st' a' w') (hs:Step O m w m' w'):Hold E n sz B P st' a' w':=by
 refine⟨m',_,gs,hn,h2.stab hs (fun g hg=>(h3 g hg).1),fun g hg=>⟨fun hgr=>?_,(h3 g hg).2⟩,fun k hg=>?_,h5.next hs (fun i hi ho=>absurd hi (Tx.2 (h4 i ho))),B.Kn.mono _ _ _ _ h6 hs.ext,hkt⟩
 . rcases hgr.2 with ho|ho
   . exact(h3 g hg).1 ho
   . exact absurd (h2.lt g hg) (Tx.2 ho)
 . rcases hg.2 with ho|ho
   . exact h4 k ho
   . exact Tn h5.ext.size ho
variable {vs:Array Value} {us:List V} {k:Nat}
theorem Hold.start (hr:RdL m w vs.toList us) (hdat:us.all V.dat=true) (hl:us.length=k) (hk:k<=n) (hn1:n<=1000) (hj:E.J w) (hg:∀g,Rd m w (.pointer (some ⟨g,0,none⟩)) (E.G g)) {Kn:Kno} (hkn:Kn.P m w):
 Hold E n sz ⟨Kn,fun _=>true,#[],m,w⟩ [] (start us) {tmps:=vs++Array.replicate (n-vs.size) Go.undef,defers:=[]} w:=
 ⟨m,_,[],Now.first (im hr hdat hl hk hn1 hj hg),.nil,fun _ h=>(by cases h),fun _ h=>h.elim,Step.refl _ _ _,hkn,fun i hi=>by cases hi⟩
variable {f:FuncId} {fn:Func} {c:Code}
theorem mY {R:Value->World->Prop} (hf:E.P.funcs[f]?=some fn) (hb:fn.body=some c) (hn:fn.ntmps=n) (hk:k<=n) (hn1:n<=1000)
 (hr:RdL m w vs.toList us) (hdat:us.all V.dat=true) (hl:us.length=k) (hj:E.J w) (hg:∀g,Rd m w (.pointer (some ⟨g,0,none⟩)) (E.G g)) {Kn:Kno} (hkn:Kn.P m w)
 (hbody:∀a:Act,Hold E n sz ⟨Kn,fun _=>true,#[],m,w⟩ [] (start us) a w->c.wpIn (aZ none) 0 E.P (fun e a' w'=>(e= .normal∨e= .ret)∧∃B' P' st' r,Hold E n sz B' P' st' a' w'∧B'.ms=m∧B'.ws=w∧ew E st' fn.results.toList=some r∧
  ∀v m' gs,Rd m' w' v r->Bed E.K sz m' w' P' gs->(∀g∈gs,w.heap.size<=g)->Step (fun _=>False) m w m' w'->B'.Kn.P m' w'->E.J w'->R v w') a w):
 Calls E.P f vs w fun e w'=>∃v,e= .returned v∧R v w':=by
 refine calls_of_wp hf hb ?_;rw[hn];refine wp_mono (wpIn_wide.1 (hbody _ (Hold.start hr hdat hl hk hn1 hj hg hkn))) ?_;rintro e a' w' ⟨he,B',P',st',r,⟨m1,O,gs,h1,h2,h3,h4,h5,h6,h7⟩,hms,hws,hres,hR⟩;have done:a'.defers=[]∧∃v,(results fn a'.tmps).run E.P w'= .ok v w'∧∃v',Ending.returned v= .returned v'∧R v' w':=by obtain⟨b,β,hrel⟩:=h1.rel;obtain⟨v,hv,hd⟩:=iW hrel hres;subst hms hws;exact⟨hrel.defers,v,hv,v,rfl,hR v m1 gs hd h2 (fun g hg=>(h3 g hg).2) h5 h6 h1.J⟩
 rcases he with rfl|rfl
 . exact done
 . exact done
end
section
variable {E:Env} {n sz:Nat} {B:Hb} {m m':Lim} {w w':World} {st:St} {a:Act} {O:Nat->Prop} {P:List (Value×List V)} {r:Option Nat}
theorem M9 {D:List Deferred} (h:Now E n D O m st a w) (i:Nat) {v:Value} (hi:st.t i= .x v):a.tmps.getD i Go.undef=v:=by obtain⟨b,β,hr⟩:=h.rel;exact(hi▸hr.tmps i:Rs m w β _ (.x v)).x
theorem Bed.split {K:Nat} {v:Value} {es:List V} (hne:es≠[]) {P2:List (Value×List V)}:∀(P1:List (Value×List V)) {gs:List Nat},Bed K sz m w (P1++(v,es)::P2) gs->∃g gs',Loose K sz m w v es g∧Bed K sz m w (P1++P2) gs'∧g∉gs'∧g∈gs∧∀x∈gs',x∈gs
 | [],gs,h=>by
   cases h with
   |no h=>exact absurd rfl hne
   |row _ h1 h2 h=>exact⟨_,_,h1,h,h2,Tm ..,fun x hx=>Tg _ hx⟩
 | p ::P1,gs,h=>by
   cases h with
   |no h=>obtain⟨g,gs',q1,q2,q3,q4,q5⟩:=Bed.split hne P1 h;exact⟨g,gs',q1,.no q2,q3,q4,q5⟩
   | row hne' h1 h2 h=>
     obtain⟨g,gs',q1,q2,q3,q4,q5⟩:=Bed.split hne P1 h;rename_i g0 gs0;refine⟨g,g0::gs',q1,.row hne' h1 (fun hx=>h2 (q5 _ hx)) q2,fun hx=>?_,Tg _ q4,fun x hx=>?_⟩
     . rcases S5.1 hx with rfl|hx
       . exact h2 q4
       . exact q3 hx
     . rcases S5.1 hx with rfl|hx
       . exact Tm ..
       . exact Tg _ (q5 _ hx)
variable {gs:List Nat}
theorem Bed.rd {K:Nat} (h:Bed K sz m w P gs) (he:Ext m w m' w) (hP:∀p∈P,p.2≠[]∧∀e∈p.2,e.cells.length=sz) (hm:∀g∈gs,m' g=none):∀p∈P,Rd m' w p.1 (.sl false sz p.2 none):=by
 induction h with
 |nil=>exact fun p hp=>by cases hp
 |no _ ih=>exact absurd rfl (hP _ (Tm ..)).1
 | row hne h1 h2 _ ih=>
   intro p hp;rcases S5.1 hp with rfl|hp
   . obtain⟨⟨_,vals,ty,xs,rest,hh,hx,hr⟩,_,cap,cur,ty',hv,hh',hc,_⟩:=h1;simp only at hv⊢;rw[hv];have hfl:=(dV (n:=sz) _ xs (hP _ (Tm ..)).2 hr).mono he;exact Rd.of_flat hfl hh (fun j x hj=>by rw[<-Tb,hx];rw[S6 (by obtain⟨h,_⟩:=iO.1 hj;exact h)];exact hj) hc (fun fr hf=>by rw[hm _ (Tm ..)] at hf;cases hf) none
   . exact ih (fun p hp=>hP p (Tg _ hp)) (fun g hg=>hm g (Tg _ hg)) p hp
theorem Hold.val (h:Hold E n sz B P st a w) {d:Nat} {v:Value} (hd:st.t d= .x v):a.tmps.getD d Go.undef=v:=by obtain⟨m,O,gs,h1,_⟩:=h;exact M9 h1 d hd
theorem Hold.nil (h:Hold E n sz B P st a w) (d k:Nat) (tok:Option Nat) {n0:Nat} {k0:Option Nat} (hd:st.t d= .sl true n0 [] k0):Hold E n sz B P ⟨ay st.t d (.sl true k [] tok),st.b⟩ a w:=
 h.le ⟨fun i=>by
  show(ay st.t d (.sl true k [] tok) i).le (st.t i);by_cases e:i=d
  . subst e;rw[ai,hd];exact .inr (.inr ⟨_,_,_,_,rfl,rfl⟩)
  . rw[ah _ _ e];exact .inr (.inl rfl),fun _ cs h=>⟨cs,h,eL cs⟩⟩
variable {ops:List Oper} {Q:Exit->Act->World->Prop} {ps:List (Nat×Nat×Nat)}
theorem Dg {P:Program} (hm:P.follows .mixedOrders=true) (hok:iF ops ps=true) (J:Nat->Act->World->Prop)
 (hstep:∀p∈ps,∀(a:Act) (w:World) (K:Act->World->Prop),J p.1 a w->(∀a' w',J p.2.2 a' w'->K a' w')->wpOpIn (aZ r) 0 P ⟨ops⟩ Q p.2.1 K a w) (hQ:∀a w,J (2^ops.length-1) a w->Q .normal a w) {id:Nat} (h0:J 0 a {w with drawn:=w.drawn+1}):(Code.region id ⟨ops⟩ true).wpIn (aZ r) 0 P Q a w:=by
 refine wpIn_region_any hm ?_;simp only[iF,SR] at hok;obtain⟨hpm,hS⟩:=hok;have hready:∀(L:Nat) (Ls:List Nat) (listed:Array Bool),listed.size=ops.length->(∀i,(listed.getD i false=true↔i∈Ls))->(∀i,i∈Ls↔L.testBit i=true)->∀i,i∈Region.ready .any ⟨ops⟩ listed↔i<ops.length∧bo ops L i=true:=by
  intro L Ls listed hsz hag hbit i;have hb:∀k,listed.getD k false=true↔L.testBit k=true:=fun k=>(hag k).trans (hbit k)
  rw[bL];constructor
  . rintro⟨h1,o,h2,h3⟩;have h2:ops[i]?=some o:=by simpa using h2
    have hlt:=aM h2;refine⟨hlt,?_⟩;rw[bt (ops:=⟨ops⟩) hsz hlt] at h1;have hn:L.testBit i=false:=by
     cases hb':L.testBit i with
     |false=>rfl
     |true=>rw[(hb i).2 hb'] at h1;cases h1
    simp only[bo,hn,Vq,Uf,h2,SW];exact fun k hk=>(hb k).1 (h3 k hk)
  . rintro⟨hlt,hr⟩;simp only[bo,SR,Ua] at hr;obtain⟨hn,hd⟩:=hr;split at hd
    case h_2=>cases hd
    rename_i o ho;refine⟨?_,o,by simpa using ho,fun k hk=>(hb k).2 (SW.1 hd k hk)⟩;rw[bt (ops:=⟨ops⟩) hsz hlt];cases hg:listed.getD i false with
    |false=>rfl
    |true=>rw[(hb i).1 hg] at hn;cases hn
 have hSL:∀L,(L=0∨∃p∈ps,p.2.2=L)->(L=2^ops.length-1∨∃i,i<ops.length∧bo ops L i=true)∧∀i,i<ops.length->bo ops L i=true->∃p∈ps,p.1=L∧p.2.1=i:=by
  intro L hL;have hm:L∈(0::ps.map fun p=>p.2.2):=by
   rcases hL with rfl|⟨p,hp,rfl⟩
   . simp
   . exact Tg _ (SU.2 ⟨p,hp,rfl⟩)
  have:=SW.1 hS L hm;simp only[SR,TU,beq_iff_eq,T8,SW,TC] at this;refine⟨this.1,fun i hi hr=>?_⟩;have:=this.2 i hi;rw[hr] at this;simpa using this
 have key:∀(fuel L:Nat) (Ls:List Nat) (listed:Array Bool) (a:Act) (w:World),(L=0∨∃p∈ps,p.2.2=L)->listed.size=ops.length->(∀i,(listed.getD i false=true↔i∈Ls))->(∀i,i∈Ls↔L.testBit i=true)->
  ((List.range ops.length).filter fun j=> !Ls.contains j).length<=fuel->J L a w->wpAnyIn (aZ r) 0 P .any ⟨ops⟩ Q fuel listed a w:=by
  intro fuel
  induction fuel with
  | zero=>
    intro L Ls listed a w hL hsz hag hbit hrem h;have hno:∀i,i<ops.length->i∈Ls:=fun i hi=>by
     have h0:((List.range ops.length).filter fun j=> !Ls.contains j)=[]:=UC.1 (Nat.le_zero.1 hrem);by_cases hm:i∈Ls
     . exact hm
     . have:i∈((List.range ops.length).filter fun j=> !Ls.contains j):=Ts.2 ⟨TC.2 hi,by simpa using hm⟩;rw[h0] at this;cases this
    have hnr:∀i,i<ops.length->bo ops L i=false:=fun i hi=>by simp[bo,(hbit i).1 (hno i hi)]
    have hfull:L=2^ops.length-1:=by
     rcases(hSL L hL).1 with h1|⟨i,hi,hr⟩
     . exact h1
     . rw[hnr i hi] at hr;cases hr
    refine⟨?_,hQ a w (hfull▸h)⟩;rw[Ut];intro i hi;obtain⟨h1,h2⟩:=(hready L Ls listed hsz hag hbit i).1 hi;rw[hnr i h1] at h2;cases h2
  | succ f ih=>
    intro L Ls listed a w hL hsz hag hbit hrem h;refine⟨fun hr=>?_,fun i hi=>?_⟩
    . have hfull:L=2^ops.length-1:=by
       rcases(hSL L hL).1 with h1|⟨i,hi,hr'⟩
       . exact h1
       . have:=(hready L Ls listed hsz hag hbit i).2 ⟨hi,hr'⟩;rw[hr] at this;cases this
      exact hQ a w (hfull▸h)
    . obtain⟨hlt,hr⟩:=(hready L Ls listed hsz hag hbit i).1 hi;obtain⟨p,hp,hp1,hp2⟩:=(hSL L hL).2 i hlt hr;have hpe:=SW.1 hpm p hp;rw[beq_iff_eq] at hpe;have hn:i∉Ls:=fun hm=>by simp only[bo,(hbit i).1 hm,UI,UQ] at hr;cases hr
      have hst:=hstep p hp a w (fun a' w'=>wpAnyIn (aZ r) 0 P .any ⟨ops⟩ Q f (listed.setIfInBounds i true) a' w') (hp1▸h) (fun a' w' h'=>by
       refine ih p.2.2 (i::Ls) _ a' w' (.inr ⟨p,hp,rfl⟩) (by simpa using hsz) (fun j=>?_) (fun j=>?_) (by have:=fH hlt hn;omega) h'
       . by_cases e:j=i
         . subst e;rw[cB (by omega)];simp
         . rw[getD_set_ne _ (Ux e),hag j];simp[e]
       . rw[hpe,hp1,hp2,UP,Uy,TU,<-hbit j,S5,Tk];constructor
         . rintro(rfl|h)
           . exact .inr rfl
           . exact .inl h
         . rintro(h|rfl)
           . exact .inr h
           . exact .inl rfl)
      rw[hp2] at hst;exact hst
 refine key _ 0 [] _ a _ (.inl rfl) (by simp) (fun i=>?_) (fun i=>by simp) ?_ h0
 . simp only[S0,Ul];split<;>simp
 . exact Tn (Uc _ _) (by simp)
theorem Hold.drew (h:Hold E n sz B P st a w) (hE:EnvOK E):Hold E n sz B P st a {w with drawn:=w.drawn+1}:=by obtain⟨m,O,gs,h1,h2,h3,h4,h5,h6,h7⟩:=h;have hb:Below w.heap.size w {w with drawn:=w.drawn+1}:=⟨rfl,rfl,rfl,SX _,fun _ _=>rfl⟩;have hs:Step (fun _=>False) m w m {w with drawn:=w.drawn+1}:=Step.of_below hb (fun _ _=>rfl);have hJ:E.J {w with drawn:=w.drawn+1}:=hE.keep [] _ _ (fun x hx=>by cases hx) h1.J (hs.bel (fun k _ e=>e.elim));exact⟨m,O,gs,h1.other hs (fun _ _ h=>h) hJ,h2.stab hs (fun _ _ h=>h),h3,h4,h5.next hs (fun _ _ h=>h.elim),B.Kn.mono _ _ _ _ h6 hs.ext,h7⟩
variable {f:FuncId} {fn:Func} {c:Code} {F:List V->Option V} {k:Nat}
theorem sj (hf:E.P.funcs[f]?=some fn) (hb:fn.body=some c)
 (hcall:∀args w,(callFunc f args).run E.P w= .ok (.enter f args) w) (hn:fn.ntmps=n) (hk:k<=n) (hn1:n<=1000)
 (hbody:∀(us:List V) (r:V) (m:Lim) (w:World) (a:Act),F us=some r->us.all V.dat=true->(us.length=k->Hold E n sz ⟨Kno.top,fun _=>true,#[],m,w⟩ [] (start us) a w)->us.length=k∧
  c.wpIn (aZ none) 0 E.P (fun e a' w'=>(e= .normal∨e= .ret)∧∃P' st',Hold E n sz ⟨Kno.top,fun _=>true,#[],m,w⟩ P' st' a' w'∧ew E st' fn.results.toList=some r) a w):Fun E f F:=by
 refine⟨hcall,fun m w vs us r hF hdat hr hj hg=>?_⟩;have hl:us.length=k:=(hbody us r m w {tmps:=vs++Array.replicate (n-vs.size) Go.undef,defers:=[]} hF hdat (fun hl=>Hold.start hr hdat hl hk hn1 hj hg trivial)).1;refine(mY (sz:=sz) (Kn:=Kno.top) (R:=fun v w'=>∃m',Rd m' w' v r∧Below w.heap.size w w'∧∀blk,blk<w.heap.size->m' blk=m blk) hf hb hn hk hn1 hr hdat hl hj hg trivial (fun a ha=>?_)).mono ?_
 . refine wpIn_mono (hbody us r m w a hF hdat (fun _=>ha)).2 ?_;rintro e a' w' ⟨he,P',st',ho,hres⟩;exact⟨he,_,P',st',r,ho,rfl,rfl,hres,fun v m' gs h1 _ _ h4 _ _=>⟨m',h1,h4.below (fun _ _ h=>h),fun k hk=>(h4.same k hk (fun h=>h)).2⟩⟩
 . rintro e w' ⟨v,rfl,m',h1,h2,h3⟩;exact⟨v,m',rfl,h1,h2,h3⟩
end
section
variable {E:Env} {n sz:Nat} {B:Hb} {m:Lim} {w:World} {st:St} {a:Act} {r:Option Nat}
variable {o:Oper} {t el:TypeId} {ρ:Operand->Value} {g:Nat}
theorem j9 {P:Program} {x ix:Operand} {len cap:Nat} {k:IntKind} {i:Int} (ho:o.op= .indexAddr t x ix) (ht:P.underlying t=some (.slice el)) (hsz:aY P el=some sz) (hx:ρ x= .slice (some ⟨g,0,none⟩) len cap) (hix:ρ ix= .int k i) (h0:0<=i) (hl:i<len):
 (execOp ρ o).run P w= .ok (.value (.pointer (some ⟨g,i.toNat*sz,none⟩))) w:=by
 simp only[execOp,ho,hx,hix,Instr.indexAt,asIntOf,Sem.run_bind,Sem.run_pure,Result.andThen_ok,ax ht,Sem.run_ite];rw[S4 ⟨h0,hl⟩];simp only[bE hsz,Result.andThen_ok,aG,Th]
end
section
variable {E:Env} {n:Nat} {B:Bs} {w:World} {st:St} {a:Act} {g:Nat} {ob:Obj}
theorem OneG.wrote (hE:EnvOK E) {w':World} {ob':Obj} (h:OneG E n B st a w g ob (some 0)) (hnd:∀l,ob≠ .deferred l) (hgs:B.ws.heap.size<=g) (hK:E.K<=g) (hb:Bel [g] w w') (hh:w'.heap[g]?=some ob'):OneG E n B st a w' g ob' (some 0):=by
 obtain⟨m,O,q1,q2,q3,q4,q5,q6,q7,q8,q9⟩:=h;have hs:Step (fun k=>k=g) m w m w':=by
  refine⟨hb.os,hb.tape,hb.output,⟨hb.size,fun b off v hlt hm hc=>?_,fun b hlt fr' hf=>⟨fr',hf,SX _⟩,fun b es c hm hc=>(hb.block b (dx hc) (by intro e;rw[Tf.1 e,q9] at hm;cases hm)).trans hc⟩,fun k hk hn=>⟨hb.block k hk (by simpa using hn),rfl⟩⟩;by_cases e:b=g
  . subst e;exact absurd (hm 0 q9) (Vg _)
  . rw[aR (hb.block b hlt (by simpa using e))];exact hc
 have hJ:E.J w':=hE.keep [g] _ _ (fun x hx=>by rw[Tf.1 hx];exact hK) q1.J hb;refine⟨m,O,q1.other hs (fun k hk e=>q7 (e▸hk)) hJ,q2,q3.next hs (fun i hi e=>absurd hi (Tx.2 (e▸hgs))),⟨q4.nd,fun x hx=>?_⟩,B.Kn.mono _ _ _ _ q5 hs.ext,q6,q7,hh,q9⟩;obtain⟨b,rfl,r1,r2,r3⟩:=q4.is x hx;have hne:b≠g:=fun e=>by subst e;rw[r2] at q8;cases q8;exact hnd _ rfl
 exact⟨b,rfl,r1,(hs.same b (ae r2) hne).1.trans r2,r3⟩
variable {es:List V}
theorem One.shedB {s sz tok:Nat} (hG:∀g,E.G g= .undef) (hMB:E.MB s=true) (hO:∀k,¬B.Os k) (hD:B.D=[]) (h:One E n B (aq [(s,.ptr s 0)] [(s,[.sl false sz es (some tok)])]) a w):
 ∃(g cap:Nat) (cur:Array Value) (ty:TypeId) (m0:Lim),OneG E n {B with Kn:=Kno.top} (aq [(s,.ptr s 0)] [(s,[.x (.slice (some ⟨g,0,none⟩) es.length cap)])]) a w g (.cells cur ty (0,0)) (some 0)∧es.length<=cap∧B.ws.heap.size<=g∧E.K<=g∧Rd m0 w (.slice (some ⟨g,0,none⟩) es.length cap) (.sl false sz es (some tok)):=by
 obtain⟨m,O,h1,h2,h3,h4,h5,h6⟩:=h;have hJ:=h1.J;obtain⟨⟨b,β,hr⟩,hlt⟩:=h1;have hb:(aq [(s,.ptr s 0)] [(s,[.sl false sz es (some tok)])]).b s=some [.sl false sz es (some tok)]:=by simp only[aq,Ab,ai]
 have ht:(aq [(s,.ptr s 0)] [(s,[.sl false sz es (some tok)])]).t s= .ptr s 0:=by simp only[aq,bw,ai]
 obtain⟨⟨_,vals,ty1,xs,rest,hh,hx,hrd⟩,hge⟩:=hr.boxes s _ hb;obtain⟨v,rfl,hv⟩:∃v,xs=[v]∧Rd m w v (.sl false sz es (some tok)):=by
  match xs,hrd with
  |[v],hrd=>exact⟨v,rfl,hrd.1⟩
 have hv0:vals[0]?=some v:=by rw[<-Tb,hx];rfl
 obtain⟨ρ,hrw⟩:=hr.rows;have hbr:Bear E w β (aq [(s,.ptr s 0)] [(s,[.sl false sz es (some tok)])]) (fun i=>a.tmps.getD i Go.undef) v (.sl false sz es (some tok)):= .inr ⟨s,_,0,hMB,hb,rfl,by rw[Box.cell hh];exact hv0⟩;obtain⟨lo,lim,cap,cur,ty,hval,hhg,hcap,hcs⟩:=hrw.row _ _ _ _ hbr;have hne:β s≠ρ tok:=hrw.box _ _ _ _ s _ hbr hb;generalize ρ tok=g at lo lim hval hhg hne;have own:∀{x:Nat} {o:Obj},w.heap[x]?=some o->(w.heap.size<=x∨x∈lst O w.heap.size)->O x:=fun {x o} hx hg=>by
  rcases hg with hg|hg
  . exact absurd (ae hx) (Tx.2 hg)
  . exact(aU.1 hg).2
 have hOs:O (β s):=own hh hge;have hOg:O g:=own hhg lo;have hlo:∀x,O x->B.ws.heap.size<=x:=fun x hx=>(h2 x hx).resolve_left (hO x)
 have hKs:∀x,O x->E.K<=x:=fun x hx=>hr.par.2.2 x (aU.2 ⟨hlt x hx,hx⟩)
 subst hval;have hS:Step B.Os B.ms B.ws (fun j=>if j<B.ws.heap.size then B.ms j else some 0) w:=by
  refine⟨h3.os,h3.tape,h3.output,⟨h3.ext.size,fun blk off v hb' _ hc=>?_,fun blk hb' fr hf=>⟨fr,by rw[S4 hb'] at hf;exact hf,SX _⟩,fun blk e c _ hc=>?_⟩,fun j hj hn=>⟨(h3.same j hj hn).1,S4 hj⟩⟩
  . rw[aR (h3.same blk hb' (hO blk)).1];exact hc
  . rw[(h3.same blk (dx hc) (hO blk)).1];exact hc
 have hm0:∀x,O x->(fun j=>if j<B.ws.heap.size then B.ms j else some 0) x=some 0:=fun x hx=>S8 (Tx.2 (hlo x hx))
 have hb':∀k cs,(aq [(s,.ptr s 0)] [(s,[.x (.slice (some ⟨g,0,none⟩) es.length cap)])]).b k=some cs->k=s∧cs=[.x (.slice (some ⟨g,0,none⟩) es.length cap)]:=fun k cs hk=>by
  simp only[aq,Ab] at hk;rw[aB] at hk;split at hk
  . rename_i e;cases hk;exact⟨e,rfl⟩
  . cases hk
 have ht':∀i,(aq [(s,.ptr s 0)] [(s,[.x (.slice (some ⟨g,0,none⟩) es.length cap)])]).t i=if i=s then .ptr s 0 else .undef:=fun i=>by simp only[aq,bw,aB]
 refine⟨g,cap,cur,ty,m,⟨_,fun k=>k=β s,⟨⟨β,β,⟨fun i=>?_,hr.size,fun k cs hk=>?_,fun k k' cs cs' hk hk' _=>?_,Bel.refl _ _,⟨hr.par.1,fun _ _=>rfl,fun x hx=>?_⟩,⟨fun _ _ _=>rfl,Ext.refl _ _,fun y hy=>hy⟩,⟨ρ,?_⟩,fun i k z len cs hi hk=>?_,hr.defers,fun j=>(by rw[hG];exact .undef _),hJ,⟨fun i k ks vs hi=>?_,fun i j k k' ks vs ks' vs' hi=>?_⟩⟩⟩,fun k hk=>(by rw[hk];exact ae hh)⟩,fun k hk=> .inr (by rw[hk];exact hlo _ hOs),hS,⟨by rw[hD];exact TE,fun d hd=>by rw[hD] at hd;cases hd⟩,trivial,h6,fun e=>hne e.symm,hhg,hm0 g hOg⟩,hcap,hlo g hOg,hKs g hOg,hv⟩
 . rw[ht'];split
   . rename_i e;rw[e];have:=hr.tmps s;rw[ht] at this;rw[this.ptr];exact Rs.ofPtr _ _
   . exact .of (.undef _)
 . obtain⟨rfl,rfl⟩:=hb' k cs hk;exact⟨⟨hm0 _ hOs,vals,ty1,_,rest,hh,hx,⟨.x _,trivial⟩⟩,.inr (aU.2 ⟨ae hh,rfl⟩)⟩
 . rw[(hb' k cs hk).1,(hb' k' cs' hk').1]
 . obtain⟨_,rfl⟩:=aU.1 hx;exact hKs _ hOs
 . have no:∀v z l k,¬Bear E w β (aq [(s,.ptr s 0)] [(s,[.x (.slice (some ⟨g,0,none⟩) es.length cap)])]) (fun i=>a.tmps.getD i Go.undef) v (.sl false z l (some k)):=by
    rintro v z l k (⟨i,hi,_⟩|⟨k',cs,j,_,hk,hj,_⟩)
    . rw[ht'] at hi;split at hi<;>cases hi
    . obtain⟨rfl,rfl⟩:=hb' _ _ hk;cases j with
      |zero=>cases hj
      |succ j=>simp at hj
   exact⟨fun v z l k h=>(no _ _ _ _ h).elim,fun v z l k _ _ _ _ h=>(no _ _ _ _ h).elim,fun v z l k _ _ h=>(no _ _ _ _ h).elim⟩
 . rw[ht'] at hi;split at hi<;>cases hi
 . rw[ht'] at hi;split at hi<;>cases hi
 . rw[ht'] at hi;split at hi<;>cases hi
variable {lg:Option Nat} {d:Tmp}
theorem OneG.putV (hd:d<n) (hWd:B.W d=true) (h:OneG E n B st a w g ob lg) {v:Value} {u:V} (hv:∀m,B.Kn.P m w->Rd m w v u):OneG E n B (st.put (some d) u.bare) (a.put (some d) v) w g ob lg:=by obtain⟨m,O,q1,q2,q3,q4,q5,q6,q7,q8,q9⟩:=h;exact⟨m,O,q1.put hd (hv m q5),q2,q3,q4,q5,q6.put (fun k e=>by cases e;exact hWd),q7,q8,q9⟩
variable {r:Option Nat}
theorem sk (hE:EnvOK E) (hm:E.P.follows .mixedOrders=true) {c:Code} {K:Out->St->Prop} (hok:bd E.any n c=true) (hW:kF B.W c=true) (h:OneG E n B st a w g ob lg) (hr:run E c st K):
 c.wpIn (aZ r) 0 E.P (fun e a' w'=>∃o st',gj e=some o∧K o st'∧OneG E n B st' a' w' g ob lg) a w:=by
 obtain⟨m,O,h1,h2,h3,h4,h5,h6,h7,h8,h9⟩:=h;refine wpIn_mono (kO (r:=r) (W:=B.W) hE hm hok hW h1 hr) ?_;rintro e a' w' ⟨hk,o,st',m',ho,hK,hn,hs⟩;exact⟨o,st',ho,hK,OneG.grown h2 h3 h4 h5 (h6.trans hk) h7 h8 h9 hn hs⟩
theorem gm (hE:EnvOK E) (hm:E.P.follows .mixedOrders=true) {c:Code} (ts:List (Nat×V)) (bs:List (Nat×List V)) (hok:bd E.any n c=true) (hW:kF B.W c=true) (h:OneG E n B st a w g ob lg) (hr:run E c st (mT ts bs)) {Q:Exit->Act->World->Prop}
 (hQ:∀a' w',OneG E n B (aq ts bs) a' w' g ob lg->Q .normal a' w'):c.wpIn (aZ r) 0 E.P Q a w:=by
 refine wpIn_mono (sk hE hm hok hW h hr) ?_;rintro e a' w' ⟨o,st',ho,hK,ht⟩;cases o with
 |ret=>exact hK.elim
 |exit id=>exact hK.elim
 |normal=>cases e<;>simp only[gj,Tl,reduceCtorEq] at ho;exact hQ _ _ (ht.le (aL hK.1 hK.2))
theorem xg (hE:EnvOK E) (hm:E.P.follows .mixedOrders=true) {c:Code} (id:Nat) (ts:List (Nat×V)) (bs:List (Nat×List V)) (hok:bd E.any n c=true) (hW:kF B.W c=true) (h:OneG E n B st a w g ob lg) (hr:run E c st (uH id ts bs)) {Q:Exit->Act->World->Prop}
 (hQ:∀a' w',OneG E n B (aq ts bs) a' w' g ob lg->Q (.exit id) a' w'):c.wpIn (aZ r) 0 E.P Q a w:=by
 refine wpIn_mono (sk hE hm hok hW h hr) ?_;rintro e a' w' ⟨o,st',ho,hK,ht⟩;cases o with
 |ret=>exact hK.elim
 |normal=>exact hK.elim
 |exit i=>obtain⟨rfl,h1,h2⟩:=hK;cases e<;>simp only[gj,Tl,reduceCtorEq,Out.exit.injEq] at ho;subst ho;exact hQ _ _ (ht.le (aL h1 h2))
end
section
variable {E:Env} {n:Nat} {B:Bs} {w:World} {st:St} {a:Act} {g:Nat} {ob:Obj} {lg:Option Nat} {r:Option Nat} {P:Program}
variable {t:TypeId} {o:Oper} {ρ:Operand->Value} {p:Addr} {v:Value}
theorem bH {x:Operand} (ho:o.op= .load t x) (ha:aD P t=some false) (hx:ρ x= .pointer (some p)) (hc:w.cell? p=some v):(execOp ρ o).run P w= .ok (.value v) w:=by simp only[execOp,ho,hx,Instr.loadAt,Instr.sureAddr,loadVar,Sem.run_bind,Sem.run_pure,Result.andThen_ok,fD ha,Tq,SZ,run_load,hc]
variable {k b off:Nat}
theorem bC {x:Operand} {f:Nat} {off':Nat} {fs:Array Field} {fd:Field} (ho:o.op= .fieldAddr t x f) (ht:P.underlying t=some (.struct fs)) (hf:fs[f]?=some fd) (hn:aY P fd.type=some k) (hk:k≠0) (hx:ρ x= .pointer (some ⟨b,off,none⟩)) (he:off+fd.offset=off'):
 (execOp ρ o).run P w= .ok (.value (.pointer (some ⟨b,off',none⟩))) w:=by
 simp only[<-he,execOp,ho,hx,Instr.fieldAt,Sem.run_bind,ax ht,Result.andThen_ok,hf,Instr.sureAddr,fieldPlace,bE hn,hk,SZ,Sem.run_pure,aG]
theorem bc {x:Operand} (ho:o.op= .move x) (hx:ρ x=v):(execOp ρ o).run P w= .ok (.value v) w:=by simp only[execOp,ho,hx,Sem.run_pure]
variable {y:Operand} {vals:Array Value} {ty:TypeId}
theorem vp {x:Operand} {fz:Nat×Nat} (ho:o.op= .store t x y) (hs:aY P t=some 1) (hx:ρ x= .pointer (some ⟨b,off,none⟩)) (hy:ρ y=v) (hv:v.cells= #[v]) (hone:v.oneCell'=true)
 (hh:w.heap[b]?=some (.cells vals ty fz)) (hfz:fz.2=0∨vals.size<=fz.1) (hc:vals[off]?=some v):(execOp ρ o).run P w= .ok .skip w:=by
 have hlt:off<vals.size:=(UW.1 hc).1;have hst:=cU P b off ty fz [v] 0 vals w hh hfz (by simp;omega) (fun u hu=>by rw[Tf.1 hu];exact hone);have h0:vals.toList[off]?=some v:=by rw[Tb];exact hc
 have he:(vals.toList.take (off+0)++[v]++vals.toList.drop (off+0+[v].length)).toArray=vals:=by
  apply TM.1;rw[List.toList_toArray];apply TY;intro i;have:=fZ (l:=vals.toList) (q:=[v]) (off:=off) (by simp;omega) i;simp only[Ur,T6] at this⊢;rw[this];split
  . rfl
  . split
    . have:i=off:=by omega
      subst this;rw[VL,h0];rfl
    . rfl
 rw[he,setRow_self w b vals ty fz hh] at hst;simp only[execOp,ho,hx,hy,Instr.storeAt,Instr.sureAddr,storeVar,Sem.run_bind,Sem.run_pure,Result.andThen_ok,bE hs,hv];rw[S8 (by simp)];rw[hst];rfl
theorem OneG.drew (hE:EnvOK E) (h:OneG E n B st a w g ob lg):OneG E n B st a {w with drawn:=w.drawn+1} g ob lg:=by obtain⟨m,O,q1,q2,q3,q4,q5,q6,q7,q8,q9⟩:=h;have hb:Below w.heap.size w {w with drawn:=w.drawn+1}:=⟨rfl,rfl,rfl,SX _,fun _ _=>rfl⟩;have hs:Step (fun _=>False) m w m {w with drawn:=w.drawn+1}:=Step.of_below hb (fun _ _=>rfl);have hJ:E.J {w with drawn:=w.drawn+1}:=hE.keep [] _ _ (fun x hx=>by cases hx) q1.J (hs.bel (fun k _ e=>e.elim));exact⟨m,O,q1.other hs (fun _ _ h=>h) hJ,q2,q3.next hs (fun _ _ h=>h.elim),⟨q4.nd,q4.is⟩,B.Kn.mono _ _ _ _ q5 hs.ext,q6,q7,q8,q9⟩
theorem OneG.read_x (h:OneG E n B st a w g ob lg) (i:Nat) {v:Value} (hi:st.t i= .x v):a.tmps.getD i Go.undef=v:=by obtain⟨m,O,q1,_⟩:=h;exact q1.read_x i hi
variable {ops:List Oper} {Q:Exit->Act->World->Prop} {i:Nat} {d:Tmp} {f:FuncId} {F:List V->Option V} {us:List V}
theorem vq {K:Act->World->Prop} {args:Array Operand} {ts:Array TypeId} {r0:V} (hE:EnvOK E) (hi:ops[i]?=some o) (hop:o.op= .call {callee:= .value (.func f),args:=args,argTypes:=ts}) (hd:o.dst=some d) (hdn:d<n) (hWd:B.W d=true) (hg:o.guard=none)
 (hG:∀g,E.G g= .undef) (hF:Fun E f F) (hus:F us=some r0) (hdat:us.all V.dat=true) (h:OneG E n B st a w g ob lg) (hr:∀m,RdL m w (args.map a.eval).toList us)
 (hK:∀v w',OneG E n B (st.put (some d) r0.bare) (a.put (some d) v) w' g ob lg->K (a.put (some d) v) w'):wpOpIn (aZ r) 0 E.P ⟨ops⟩ Q i K a w:=by
 obtain⟨m,O,q1,q2,q3,q4,q5,q6,q7,q8,q9⟩:=h;unfold wpOpIn;have hi':(⟨ops⟩:Array Oper)[i]?=some o:=by simpa using hi
 rw[hi'];simp only;rw[S4 (by unfold Region.wanted;rw[hg])];refine⟨fun _ _=>trivial,?_⟩;rw[Oper.semAt_eq _ _ _ (by rw[hop];intro c e;cases e)];have hrun:(execOp a.eval o).run E.P w= .ok (.enter f (args.map a.eval)) w:=by simp only[execOp,hop,resolve,Sem.run_bind,Act.eval,Deferred.ofValue,Sem.run_pure,Result.andThen_ok,invoke];simpa using hF.1 _ _
 rw[hrun];have hc:=hF.2 m w (args.map a.eval) us r0 hus hdat (hr m) q1.J (fun g=>by rw[hG];exact .undef _);refine⟨(fun e=>by cases e),bZ.2 (hc.mono ?_)⟩;rintro e w' ⟨v,m',rfl,hv,hb,hm⟩;show K (a.put o.dst v) w';rw[hd];have hs:Step (fun _=>False) m w m' w':=Step.of_below hb hm;have hJ:E.J w':=hE.keep [] _ _ (fun x hx=>by cases hx) q1.J (hs.bel (fun k _ e=>e.elim));have hsame:=hs.same g (ae q8) (fun h=>h);refine hK v w' ⟨m',O,(q1.other hs (fun _ _ h=>h) hJ).put hdn hv,q2,q3.next hs (fun _ _ h=>h.elim),⟨q4.nd,fun x hx=>?_⟩,B.Kn.mono _ _ _ _ q5 hs.ext,q6.put (fun k e=>by cases e;exact hWd),q7,hsame.1.trans q8,hsame.2.trans q9⟩;obtain⟨b,rfl,s1,s2,s3⟩:=q4.is x hx;exact⟨b,rfl,s1,(hs.same b (ae s2) (fun h=>h)).1.trans s2,s3⟩
theorem cX {K:Act->World->Prop} (hi:ops[i]?=some o) (hdef:∀c,o.op≠ .defer c) (hd:o.dst=some d) (hdn:d<n) (hWd:B.W d=true) (hg:o.guard=none) (h:OneG E n B st a w g ob lg) {v:Value} (hrun:(execOp a.eval o).run E.P w= .ok (.value v) w)
 (hK:OneG E n B (st.put (some d) (.x v)) (a.put (some d) v) w g ob lg->K (a.put (some d) v) w):wpOpIn (aZ r) 0 E.P ⟨ops⟩ Q i K a w:=by
 unfold wpOpIn;have hi':(⟨ops⟩:Array Oper)[i]?=some o:=by simpa using hi
 rw[hi'];simp only;rw[S4 (by unfold Region.wanted;rw[hg])];refine⟨fun _ _=>trivial,?_⟩;rw[Oper.semAt_eq _ _ _ hdef,hrun];show K (a.put o.dst v) w;rw[hd];have hp:=OneG.putV (d:=d) (v:=v) (u:= .x v) hdn hWd h (fun _ _=> .x _);rw[dh] at hp;exact hK hp
theorem vr {K:Act->World->Prop} (hi:ops[i]?=some o) (hdef:∀c,o.op≠ .defer c) (hd:o.dst=none) (hg:o.guard=none) (hrun:(execOp a.eval o).run E.P w= .ok .skip w) (hK:K a w):wpOpIn (aZ r) 0 E.P ⟨ops⟩ Q i K a w:=by
 unfold wpOpIn;have hi':(⟨ops⟩:Array Oper)[i]?=some o:=by simpa using hi
 rw[hi'];simp only;rw[S4 (by unfold Region.wanted;rw[hg])];refine⟨fun _ _=>trivial,?_⟩;rw[Oper.semAt_eq _ _ _ hdef,hrun];show K (a.put o.dst undef) w;rw[hd];exact hK
def cq (ops:List Oper) (L k:Nat):Bool:=(List.range ops.length).any fun i=>L.testBit i&&match ops[i]? with|some o=>o.dst==some k|none=>false
def sm (st:St) (val:Nat->Value) (ops:List Oper) (L:Nat):St:=⟨fun k=>if cq ops L k=true then .x (val k) else st.t k,st.b⟩
theorem Na (st:St) (val:Nat->Value) (ops:List Oper):sm st val ops 0=st:=by unfold sm cq;simp
variable {L:Nat}
theorem kZ (hi:ops[i]?=some o):cq ops (L|||2^i) k=(cq ops L k||(o.dst==some k)):=by
 have hlt:=(iO.1 hi).1;rw[Um];unfold cq;simp only[TU,T8,TC,SR,UP,Uy,Tk];constructor
 . rintro⟨j,hj,h1|h1,h2⟩
   . exact .inl ⟨j,hj,h1,h2⟩
   . subst h1;rw[hi] at h2;exact .inr h2
 . rintro(⟨j,hj,h1,h2⟩|h)
   . exact⟨j,hj,.inl h1,h2⟩
   . exact⟨i,hlt,.inr rfl,by rw[hi];exact h⟩
theorem Ga {val:Nat->Value} (hi:ops[i]?=some o):Le (sm st val ops (L|||2^i)) (match o.dst with|some d=>(sm st val ops L).put (some d) (.x (val d))|none=>sm st val ops L):=by
 cases hd:o.dst with
 | none=>
   have e:sm st val ops (L|||2^i)=sm st val ops L:=by unfold sm;congr 1;funext k;rw[kZ hi,hd];simp
   rw[e];exact Le.refl _
 | some d=>
   refine⟨fun k=> .inr (.inl ?_),fun s cs h=>⟨cs,h,eL cs⟩⟩;show(if cq ops (L|||2^i) k=true then V.x (val k) else st.t k)=ay (sm st val ops L).t d (.x (val d)) k;rw[kZ hi,hd,aB];by_cases e:k=d
   . subst e;simp
   . have e':(some d==some k)=false:=by simpa using fun h=>e h.symm
     rw[S8 e,e',U6];rfl
variable {ps:List (Nat×Nat×Nat)}
theorem Dh (hE:EnvOK E) (hm:E.P.follows .mixedOrders=true) (hok:iF ops ps=true) (val:Nat->Value) (need:Nat->List Nat) (hps:(ps.all fun p=>decide (p.2.1<ops.length)&&(need p.2.1).all (cq ops p.1))=true)
 (hstep:∀(i:Nat) (o:Oper) (L:Nat) (a:Act) (w:World) (K:Act->World->Prop),ops[i]?=some o->OneG E n B (sm st val ops L) a w g ob lg->(∀k∈need i,a.tmps.getD k Go.undef=val k)->(∀a' w',OneG E n B (match o.dst with|some d=>(sm st val ops L).put (some d) (.x (val d))|none=>sm st val ops L) a' w' g ob lg->K a' w')->wpOpIn (aZ r) 0 E.P ⟨ops⟩ Q i K a w)
 (hQ:∀a w,OneG E n B (sm st val ops (2^ops.length-1)) a w g ob lg->Q .normal a w) {id:Nat} (h:OneG E n B st a w g ob lg):(Code.region id ⟨ops⟩ true).wpIn (aZ r) 0 E.P Q a w:=by
 refine Dg hm hok (fun L a w=>OneG E n B (sm st val ops L) a w g ob lg) ?_ hQ (by simp only[Na];exact h.drew hE);intro p hp a w K hJ hK;have h1:=SW.1 hps p hp;simp only[SR,Tk,SW] at h1;obtain⟨hlt,hn⟩:=h1;have hpe:p.2.2=p.1|||2^p.2.1:=by have hok:=hok;unfold iF at hok;simp only[SR,SW] at hok;exact eq_of_beq (hok.1 p hp)
 refine hstep p.2.1 ops[p.2.1] p.1 a w K (eq hlt) hJ (fun k hk=>hJ.read_x k ?_) (fun a' w' h'=>hK a' w' ?_)
 . show(if cq ops p.1 k=true then V.x (val k) else st.t k)=_;rw[S4 (hn k hk)]
 . rw[hpe];exact h'.le (Ga (eq hlt))
end
def HoldH (E:Env) (n:Nat) (B:Hb) (H:Nat->Option Obj) (st:St) (a:Act) (w:World):Prop:=
 ∃m O,Now E n [] O m st a w∧(∀g ob,H g=some ob-> ¬O g∧w.heap[g]?=some ob∧m g=some 0∧B.ws.heap.size<=g∧E.K<=g)∧(∀k,O k->B.ws.heap.size<=k)∧Step (fun _=>False) B.ms B.ws m w∧B.Kn.P m w∧KeepT B.W B.t0 a.tmps
section
variable {E:Env} {n sz:Nat} {B:Hb} {H H':Nat->Option Obj} {m m':Lim} {w w':World} {st:St} {a:Act} {O:Nat->Prop} {r:Option Nat}
theorem HoldH.of (h:Hold E n sz B [] st a w):HoldH E n B (fun _=>none) st a w:=by obtain⟨m,O,gs,h1,h2,h3,h4,h5,h6,h7⟩:=h;exact⟨m,O,h1,fun g ob e=>(by cases e),h4,h5,h6,h7⟩
variable {st':St}
theorem HoldH.le (h:HoldH E n B H st a w) (hl:Le st' st):HoldH E n B H st' a w:=by obtain⟨m,O,h1,h2⟩:=h;exact⟨m,O,h1.le hl,h2⟩
theorem HoldH.at (h:HoldH E n B H st a w) {g:Nat} {ob:Obj} (hg:H g=some ob):w.heap[g]?=some ob:=by obtain⟨m,O,_,h2,_⟩:=h;exact(h2 g ob hg).2.1
theorem HoldH.low (h:HoldH E n B H st a w) {g:Nat} {ob:Obj} (hg:H g=some ob):B.ws.heap.size<=g:=by obtain⟨m,O,_,h2,_⟩:=h;exact(h2 g ob hg).2.2.2.1
theorem HoldH.read_x (h:HoldH E n B H st a w) (i:Nat) {v:Value} (hi:st.t i= .x v):a.tmps.getD i Go.undef=v:=by obtain⟨m,O,q1,_⟩:=h;exact q1.read_x i hi
theorem HoldH.read (h:HoldH E n B H st a w) (i:Nat) {u:V} (hi:st.t i=u) (hu:u.dat=true):∃m,Rd m w (a.tmps.getD i Go.undef) u:=by obtain⟨m,O,q1,_⟩:=h;exact⟨m,dp q1 i hi hu⟩
theorem HoldH.kept (h:HoldH E n B H st a w) {i:Nat} (hi:B.W i=false):a.tmps.getD i Go.undef=B.t0.getD i Go.undef:=by obtain⟨m,O,_,_,_,_,_,h7⟩:=h;exact h7 i hi
theorem HoldH.frame (h:HoldH E n B H st a w) (W':Nat->Bool):HoldH E n {B with W:=W',t0:=a.tmps} H st a w:=by obtain⟨m,O,h1,h2,h3,h4,h5,_⟩:=h;exact⟨m,O,h1,h2,h3,h4,h5,KeepT.refl _ _⟩
variable {a':Act}
theorem HoldH.grown (h2:∀g ob,H g=some ob-> ¬O g∧w.heap[g]?=some ob∧m g=some 0∧B.ws.heap.size<=g∧E.K<=g) (h4:∀k,O k->B.ws.heap.size<=k) (h5:Step (fun _=>False) B.ms B.ws m w) (h6:B.Kn.P m w) (hkt:KeepT B.W B.t0 a'.tmps)
 (hn:Now E n [] (rf O w w') m' st' a' w') (hs:Step O m w m' w'):HoldH E n B H st' a' w':=by
 refine⟨m',_,hn,fun g ob hg=>?_,fun k hg=>?_,h5.next hs (fun i hi ho=>absurd hi (Tx.2 (h4 i ho))),B.Kn.mono _ _ _ _ h6 hs.ext,hkt⟩
 . obtain⟨q1,q2,q3,q4,q5⟩:=h2 g ob hg;obtain⟨s1,s2⟩:=hs.same g (ae q2) q1;refine⟨fun hgr=>?_,s1.trans q2,s2.trans q3,q4,q5⟩;rcases hgr.2 with ho|ho
   . exact q1 ho
   . exact absurd (ae q2) (Tx.2 ho)
 . rcases hg.2 with ho|ho
   . exact h4 k ho
   . exact Tn h5.ext.size ho
theorem Di (hE:EnvOK E) (hm:E.P.follows .mixedOrders=true) {c:Code} {K:Out->St->Prop} (hok:bd E.any n c=true) (hW:kF B.W c=true) (h:HoldH E n B H st a w) (hr:run E c st K):
 c.wpIn (aZ r) 0 E.P (fun e a' w'=>∃o st',gj e=some o∧K o st'∧HoldH E n B H st' a' w') a w:=by
 obtain⟨m,O,h1,h2,h4,h5,h6,h7⟩:=h;refine wpIn_mono (kO (r:=r) (W:=B.W) hE hm hok hW h1 hr) ?_;rintro e a' w' ⟨hk,o,st',m',ho,hK,hn,hs⟩;exact⟨o,st',ho,hK,HoldH.grown h2 h4 h5 h6 (h7.trans hk) hn hs⟩
theorem eZ (hE:EnvOK E) (hm:E.P.follows .mixedOrders=true) {c:Code} (ts:List (Nat×V)) (bs:List (Nat×List V)) (hok:bd E.any n c=true) (hW:kF B.W c=true) (h:HoldH E n B H st a w) (hr:run E c st (mT ts bs)) {Q:Exit->Act->World->Prop}
 (hQ:∀a' w',HoldH E n B H (aq ts bs) a' w'->Q .normal a' w'):c.wpIn (aZ r) 0 E.P Q a w:=by
 refine wpIn_mono (Di hE hm hok hW h hr) ?_;rintro e a' w' ⟨o,st',ho,hK,ht⟩;cases o with
 |ret=>exact hK.elim
 |exit id=>exact hK.elim
 |normal=>cases e<;>simp only[gj,Tl,reduceCtorEq] at ho;exact hQ _ _ (ht.le (aL hK.1 hK.2))
theorem Gb (hE:EnvOK E) (hm:E.P.follows .mixedOrders=true) {c:Code} (id:Nat) (ts:List (Nat×V)) (bs:List (Nat×List V)) (hok:bd E.any n c=true) (hW:kF B.W c=true) (h:HoldH E n B H st a w) (hr:run E c st (uH id ts bs)) {Q:Exit->Act->World->Prop}
 (hQ:∀a' w',HoldH E n B H (aq ts bs) a' w'->Q (.exit id) a' w'):c.wpIn (aZ r) 0 E.P Q a w:=by
 refine wpIn_mono (Di hE hm hok hW h hr) ?_;rintro e a' w' ⟨o,st',ho,hK,ht⟩;cases o with
 |ret=>exact hK.elim
 |normal=>exact hK.elim
 |exit i=>obtain⟨rfl,h1,h2⟩:=hK;cases e<;>simp only[gj,Tl,reduceCtorEq,Out.exit.injEq] at ho;subst ho;exact hQ _ _ (ht.le (aL h1 h2))
theorem xh (hE:EnvOK E) {ops:List Oper} {Q:Exit->Act->World->Prop} {K:Act->World->Prop} {i:Nat} {o:Oper} {st1:St} (hi:ops[i]?=some o) (hd:bn n [o]=true) (hW:kM B.W ops=true) (h:HoldH E n B H st a w) (h1:fF E ⟨ops⟩ o st=some st1)
 (hK:∀a' w',HoldH E n B H st1 a' w'->K a' w'):wpOpIn (aZ r) 0 E.P ⟨ops⟩ Q i K a w:=by
 obtain⟨m,O,q1,q2,q4,q5,q6,q7⟩:=h;have hlt:=q1.lt;obtain⟨b,β,hrel⟩:=q1.rel;have hi1:(⟨ops⟩:Array Oper)[i]?=some o:=by simpa using hi
 have hwp:wpOpIn (aZ r) 0 E.P ⟨ops⟩ Q i (fun a' w'=>HoldH E n B H st1 a' w'∨(∃m' β',Rel E n ⟨lst O w.heap.size,b,lst O w.heap.size,[]⟩ m w m' β' st1 a' w')) a w:=cP (hE.x (.inr (fun _ h=>h))) hrel hi1 (dt hd (by simp)) h1 (fun a' w' m' β' hr'=> .inr ⟨m',β',hr'⟩);have hkeep:=dW (W:=B.W) (t:=B.t0) (by simpa using hW) q7 (K':=fun a' w'=>HoldH E n B H st1 a' w') (fun a' w' hK' hkt=>by
  rcases hK' with hK'|⟨m',β',hr'⟩
  . exact hK'
  . obtain⟨hn,hst⟩:=Now.of_rel hE hlt hr';exact HoldH.grown q2 q4 q5 q6 hkt hn hst) hwp
 exact gN (fun a' w' h'=>hK a' w' h') (fun e a' w' h'=>h'.1) hkeep
theorem Dj (hE:EnvOK E) {ops:List Oper} {Q:Exit->Act->World->Prop} (ts:List (Nat×V)) (bs:List (Nat×List V)) (rest:List Nat):∀(l:List Oper) (is:List Nat) (st:St) (a:Act) (w:World),(is.map fun i=>ops[i]?)=l.map some->bn n l=true->kM B.W ops=true->
 HoldH E n B H st a w->(bg E ⟨ops⟩ l st fun st'=>gz st' ts∧gy st' bs)->(∀a' w',HoldH E n B H (aq ts bs) a' w'->wpOpsIn (aZ r) 0 E.P ⟨ops⟩ Q rest a' w')->wpOpsIn (aZ r) 0 E.P ⟨ops⟩ Q (is++rest) a w
 |[],[],st,a,w,_,_,_,h,hr,hK=>hK a w (h.le (aL hr.1 hr.2))
 |[],i::is,st,a,w,hi,_,_,h,hr,hK=>by simp at hi
 |o::l,[],st,a,w,hi,_,_,h,hr,hK=>by simp at hi
 | o ::l,i::is,st,a,w,hi,hd,hWo,h,hr,hK=>by
   rw[TI,wpOpsIn_cons];simp only[Tv,Tr] at hi;obtain⟨st',hs,hl,hb⟩:=cj _ _ hr;unfold dI at hs;split at hs
   . rename_i st1 h1;have hd1:bn n [o]=true:=by simp only[bn,TO,VK,SR,UZ] at hd⊢;exact hd.1
     have hdl:bn n l=true:=by simp only[bn,TO,SR] at hd;exact hd.2
     exact xh hE hi.1 hd1 hWo h h1 (fun a' w' h'=>Dj hE ts bs rest l is st1 a' w' hi.2 hdl hWo h' (fG _ _ hs ⟨hl,hb⟩) hK)
   . cases hs
theorem pd (hE:EnvOK E) {ops:List Oper} {Q:Exit->Act->World->Prop} (k j:Nat) (ts:List (Nat×V)) (bs:List (Nat×List V)) (rest:List Nat) (hl:k+j<=ops.length) (hd:bn n ((ops.drop k).take j)=true) (hW:kM B.W ops=true)
 (h:HoldH E n B H st a w) (hr:bg E ⟨ops⟩ ((ops.drop k).take j) st fun st'=>gz st' ts∧gy st' bs) (hK:∀a' w',HoldH E n B H (aq ts bs) a' w'->wpOpsIn (aZ r) 0 E.P ⟨ops⟩ Q rest a' w'):wpOpsIn (aZ r) 0 E.P ⟨ops⟩ Q (List.range' k j++rest) a w:=
 Dj hE ts bs rest _ _ st a w (iq ops k j hl) hd hW h hr hK
variable {d:Tmp}
theorem HoldH.put (hd:d<n) (hWd:B.W d=true) (h:HoldH E n B H st a w) {v:Value} {u:V} (hv:∀m,B.Kn.P m w->Rd m w v u):HoldH E n B H (st.put (some d) u.bare) (a.put (some d) v) w:=by obtain⟨m,O,q1,q2,q4,q5,q6,q7⟩:=h;exact⟨m,O,q1.put hd (hv m q6),q2,q4,q5,q6,q7.put (fun k e=>by cases e;exact hWd)⟩
theorem HoldH.putX (hd:d<n) (hWd:B.W d=true) (h:HoldH E n B H st a w) (v:Value):HoldH E n B H (st.put (some d) (.x v)) (a.put (some d) v) w:=by
 have:=h.put hd hWd (v:=v) (u:= .x v) (fun _ _=> .x _)
 rwa [dh] at this
theorem HoldH.know (hd:d<n) (h:HoldH E n B H st a w) {u:V} (hv:∀m,B.Kn.P m w->Rd m w (a.tmps.getD d Go.undef) u):HoldH E n B H (st.put (some d) u.bare) a w:=by obtain⟨m,O,q1,q2,q4,q5,q6,q7⟩:=h;have hp:=q1.put hd (hv m q6);rw[l7] at hp;exact⟨m,O,hp,q2,q4,q5,q6,q7⟩
theorem HoldH.learn {Kn':Kno} (h:HoldH E n B H st a w) (hk:∀m O,Now E n [] O m st a w->B.Kn.P m w->Kn'.P m w):HoldH E n {B with Kn:=Kn'} H st a w:=by obtain⟨m,O,q1,q2,q4,q5,q6,q7⟩:=h;exact⟨m,O,q1,q2,q4,q5,hk m O q1 q6,q7⟩
theorem HoldH.wrote (hE:EnvOK E) (h:HoldH E n B H st a w) (hos:w'.os=w.os) (htp:w'.tape=w.tape) (hou:w'.output=w.output) (hsz:w.heap.size<=w'.heap.size) (hb:∀k,k<w.heap.size->H k=none->w'.heap[k]?=w.heap[k]?) (hH:∀g ob,H' g=some ob->w'.heap[g]?=some ob∧(H g≠none∨w.heap.size<=g)):HoldH E n B H' st a w':=by
 obtain⟨m,O,q1,q2,q4,q5,q6,q7⟩:=h;have hne:∀k,O k->H k=none:=fun k hk=>by
  cases e:H k with
  |none=>rfl
  |some ob=>exact absurd hk (q2 k ob e).1
 have hs:Step (fun k=>H k≠none) m w (fun j=>if w.heap.size<=j then some 0 else m j) w':=by
  refine⟨hos,htp,hou,⟨hsz,fun b off v hlt hm hc=>?_,fun b hlt fr' hf=>?_,fun b es c hm hc=>?_⟩,fun k hk hn=>⟨hb k hk (by simpa using hn),S8 (VA.2 hk)⟩⟩
  . cases e:H b with
    |none=>rw[aR (hb b hlt e)];exact hc
    |some ob=>exact absurd (hm 0 (q2 b ob e).2.2.1) (Vg _)
  . rw[S8 (VA.2 hlt)] at hf;exact⟨fr',hf,SX _⟩
  . cases e:H b with
    |none=>rw[hb b (dx hc) e];exact hc
    |some ob=>rw[(q2 b ob e).2.2.1] at hm;cases hm
 have hJ:E.J w':=hE.keep ((List.range w.heap.size).filter fun k=>(H k).isSome) _ _ (fun x hx=>by
  obtain⟨ob,e⟩:=Option.isSome_iff_exists.1 (Ts.1 hx).2
  exact(q2 x ob e).2.2.2.2) q1.J (hs.bel (fun k hk e=>Ts.2 ⟨TC.2 hk,by cases e':H k with
   |none=>exact absurd e' e
   |some _=>rfl⟩))
 have hK:E.K<=w.heap.size:=hE.high _ q1.J;refine⟨_,O,q1.other hs (fun k hk e=>e (hne k hk)) hJ,fun g ob hg=>?_,q4,q5.next hs (fun i hi e=>?_),B.Kn.mono _ _ _ _ q6 hs.ext,q7⟩
 . obtain⟨h1,h2⟩:=hH g ob hg;rcases h2 with h2|h2
   . cases e:H g with
     |none=>exact absurd e h2
     |some ob'=>obtain⟨s1,s2,s3,s4,s5⟩:=q2 g ob' e;exact⟨s1,h1,by rw[S8 (VA.2 (ae s2))];exact s3,s4,s5⟩
   . exact⟨fun ho=>absurd (q1.lt g ho) (Tx.2 h2),h1,S4 h2,Tn q5.ext.size h2,Tn hK h2⟩
 . cases e':H i with
   |none=>exact absurd e' e
   |some ob=>exact absurd hi (Tx.2 (q2 i ob e').2.2.2.1)
theorem HoldH.done (h:HoldH E n B H st a w) {v:Value} {u:V} (hv:∀m,(∀g,H g≠none->m g=none)->B.Kn.P m w->Rd m w v u):Hold E n sz {B with Kn:=Kno.rd v u} [] st a w:=by
 obtain⟨m,O,q1,q2,q4,q5,q6,q7⟩:=h;have hne:∀k,O k->H k=none:=fun k hk=>by
  cases e:H k with
  |none=>rfl
  |some ob=>exact absurd hk (q2 k ob e).1
 have hs:Step (fun k=>H k≠none) m w (fun j=>if H j=none then m j else none) w:=by
  refine⟨rfl,rfl,rfl,⟨SX _,fun b off v hlt hm hc=>hc,fun b hlt fr' hf=>?_,fun b es c hm hc=>hc⟩,fun k hk hn=>⟨rfl,S4 (by simpa using hn)⟩⟩;split at hf
  . exact⟨fr',hf,SX _⟩
  . cases hf
 refine⟨_,O,[],q1.other hs (fun k hk e=>e (hne k hk)) q1.J,.nil,fun _ h=>(by cases h),q4,q5.next hs (fun i hi e=>?_),hv _ (fun g hg=>S8 hg) (B.Kn.mono _ _ _ _ q6 hs.ext),q7⟩;cases e':H i with
 |none=>exact absurd e' e
 |some ob=>exact absurd hi (Tx.2 (q2 i ob e').2.2.2.1)
theorem HoldH.drew (hE:EnvOK E) (h:HoldH E n B H st a w):HoldH E n B H st a {w with drawn:=w.drawn+1}:=
 h.wrote hE rfl rfl rfl (SX _) (fun _ _ _=>rfl) (fun g ob e=>⟨h.at e,.inl (by rw[e];exact fun h=>by cases h)⟩)
end
section
variable {P:Program} {m:Lim} {w:World} {ρ:Operand->Value} {o:Oper}
variable {p:Addr}
theorem cR {x:Operand} (ho:o.op= .nilCheck x) (hx:ρ x= .pointer (some p)):(execOp ρ o).run P w= .ok (.value (.pointer (some p))) w:=by simp[execOp,ho,hx]
variable {t:TypeId}
theorem Dk {x:Operand} (ho:o.op= .box t x):(execOp ρ o).run P w= .ok (.value (.pointer (some ⟨w.heap.size,0,none⟩))) (w.alloc (.cells (ρ x).cells t)):=by simp only[execOp,ho,Instr.box,Sem.run_bind,Result.andThen_ok,newVar,newRow,run_newObj,Sem.run_pure];rfl
theorem Dl (ho:o.op= .makeMap t none):(execOp ρ o).run P w= .ok (.value (.map (some w.heap.size))) (w.alloc (.map #[] 0)):=by simp only[execOp,ho,UT,Sem.run_bind,Sem.run_pure,Result.andThen_ok,Instr.makeMap,run_newObj];rfl
variable {el:TypeId} {y:Operand} {zv:Value}
theorem nZ {x:Operand} {i:TypeInfo} {k:IntKind} {l:Int} (ho:o.op= .makeSlice t x y) (hu:P.underlying t=some (.slice el)) (hi:P.info? el=some i) (hz:i.zero=some zv) (hx:ρ x= .int k l) (hy:ρ y= .int k l) (h0:0<=l) (hb:(i.bytes:Int)*l<=281474976710656) (hm:l<=9223372036854775807):
 (execOp ρ o).run P w= .ok (.value (.slice (some ⟨w.heap.size,0,none⟩) l.toNat l.toNat)) (w.alloc (.cells (madeCells zv.cells (l.toNat*i.size)) el)):=by
 have hrun:=run_make (P:=P) w t el i zv hu hi hz k k l l h0 (VH _) hb hm;simp only[execOp,ho,Sem.run_bind,hx,hy,hrun,Result.andThen_ok,Sem.run_pure]
variable {b off:Nat} {v:Value} {vals:Array Value} {ty:TypeId}
theorem jH {x:Operand} (ho:o.op= .store t x y) (hs:aY P t=some 1) (hx:ρ x= .pointer (some ⟨b,off,none⟩)) (hy:ρ y=v) (hv:v.cells= #[v]) (hone:v.oneCell'=true)
 (hh:w.heap[b]?=some (.cells vals ty (0,0))) (hc:off<vals.size):(execOp ρ o).run P w= .ok .skip (w.setRow b (vals.set! off v)):=by
 have hst:=cU P b off ty (0,0) [v] 0 vals w hh (.inl rfl) (by simp;omega) (fun u hu=>by rw[Tf.1 hu];exact hone);have he:(vals.toList.take (off+0)++[v]++vals.toList.drop (off+0+[v].length)).toArray=vals.set! off v:=by
  apply TM.1;rw[List.toList_toArray];apply TY;intro i;have:=fZ (l:=vals.toList) (q:=[v]) (off:=off) (by simp;omega) i;simp only[Ur,T6] at this⊢;rw[this];simp only[Array.set!_eq_setIfInBounds,Vl,Vz];split
  . rw[S8 (by omega)]
  . split
    . have e:i=off:=by omega
      subst e;rw[S4 rfl,S4 (by simpa using hc),VL];rfl
    . rw[S8 (by omega)]
 rw[he] at hst;simp only[execOp,ho,hx,hy,Instr.storeAt,Instr.sureAddr,storeVar,Sem.run_bind,Sem.run_pure,Result.andThen_ok,bE hs,hv];rw[S8 (by simp)];rw[hst];rfl
def blkOf:Value->Option Nat
 | .slice (some a) _ _=>some a.block
 |_=>none
def RowI (H:Nat->Option Obj) (v:Value) (es:List Int):Prop:=
 (es=[]∧v= .slice none 0 0)∨∃(g cap:Nat) (cur:Array Value) (ty:TypeId),es≠[]∧v= .slice (some ⟨g,0,none⟩) es.length cap∧H g=some (.cells cur ty (0,0))∧es.length<=cap∧cur.size=cap∧∀j:Nat,∀i:Int,es[j]?=some i->cur[j]?=some (.int .i64 i)
theorem sr {i:TypeInfo} (hu:P.underlying t=some (.slice el)) (hi:P.info? el=some i) (hs:i.size=1) (hz:i.zero=some zv) (hzv:zv.cells.size=1) (hby:i.bytes=8) {H:Nat->Option Obj} {v y:Value} {es:List Int} {x:Int} (hr:RowI H v es) (hw:∀g ob,H g=some ob->w.heap[g]?=some ob) (hy:Rd m w y (.sl false 1 [.x (.int .i64 x)] none)) (hlen:es.length+1<=100000000):
 ∃(v':Value) (w':World) (g:Nat) (ob:Obj),(Builtin.append_ #[t,t] ty #[v,y]).run P w= .ok v' w'∧w'.os=w.os∧w'.tape=w.tape∧w'.output=w.output∧w.heap.size<=w'.heap.size∧blkOf v'=some g∧w'.heap[g]?=some ob∧(∀k,k<w.heap.size->k≠g->w'.heap[k]?=w.heap[k]?)∧(blkOf v=some g∨w.heap.size<=g)∧∀H',H' g=some ob->RowI H' v' (es++[x]):=by
 obtain⟨cs,hS⟩:=As (P:=P) (t:=t) (el:=el) hu hi hy (.inl hs.symm);have hflat:=hS.flat;have hcs:cs=[.int .i64 x]:=by
  have hl:=hflat.len;simp only[SV,Tu,hs] at hl
  match cs,hl with
  |[c],_=>obtain⟨c',hc,hr⟩:=(hflat.each 0 _ rfl).2 0 _ rfl;simp only[VC,Th] at hc;cases hc;rw[Rd.x_iff.1 hr]
 subst hcs;have hsnoc:∀(l:List Value),l.length=es.length->(∀(j:Nat) (n:Int),es[j]?=some n->l[j]?=some (.int .i64 n))->∀(r:List Value) (j:Nat) (n:Int),(es++[x])[j]?=some n->(l++[.int .i64 x]++r)[j]?=some (.int .i64 n):=fun l hl h r j n hj=>by
  by_cases hlt:j<es.length
  . rw[S6 hlt] at hj;rw[UH,S6 (by omega)];exact h j n hj
  . rw[Tj (by omega)] at hj;have e:j=es.length:=by have:=(iO.1 hj).1;simp at this;omega
    subst e;rw[VL] at hj;cases hj;rw[UH,Tj (by omega),hl,VL];rfl
 rcases hr with⟨rfl,rfl⟩|⟨g,cap,cur,tyc,hne,rfl,hg,hcap,hsz,hc⟩
 . have hrun:=hS.nil (by simp) ty zv hz (by simp) (by simp) (by rw[hby];simp);have hge:=grownCap_ge w [V.x (.int .i64 x)].length 0 el;simp only[SV,Tu,Th] at hrun hge;refine⟨_,_,w.heap.size,_,hrun,rfl,rfl,rfl,?_,rfl,World.heap_new w.drew _,fun k hk _=>Below.heap_alloc w.drew _ k hk,.inr (SX _),fun H' h'=>?_⟩
   . exact Nat.le_of_lt (ae (World.heap_new w.drew _))
   . refine .inr ⟨_,_,_,_,by simp,rfl,h',by simpa using hge,?_,fun j n hj=>?_⟩
     . simp only[UR,size_zeroCells,hzv,Uk,SV,Tu];omega
     . have:=hsnoc [] rfl (fun j n hj=>by simp at hj) (Builtin.zeroCells zv.cells (grownCap w 1 0 el-1)).toList j n hj;rw[<-Tb];simpa using this
 . have hh:=hw g _ hg;have hlt:=ae hh;have hold:∀(j:Nat) (n:Int),es[j]?=some n->(cur.toList.take es.length)[j]?=some (.int .i64 n):=fun j n hj=>by rw[Tz,S4 (iO.1 hj).1,Tb];exact hc j n hj
   have holdl:(cur.toList.take es.length).length=es.length:=by rw[Tt];exact UD (by rw[show cur.toList.length=cur.size from Tc];omega)
   by_cases hroom:es.length+1<=cap
   . have hrun:=hS.room ty g es.length cap cur (.plain tyc) hh (fun u hu=>by rw[Tf.1 hu];rfl) hroom (by simp only[hs,Td,SV,Tu];omega);refine⟨_,_,g,_,hrun,rfl,rfl,rfl,by simp,rfl,setRow_heap w g cur _ tyc (0,0) hh,fun k _ hk=>setRow_other w g k _ hk,.inl rfl,fun H' h'=>?_⟩;refine .inr ⟨_,_,_,_,by simp,by rw[SQ];rfl,h',by rw[SQ];exact hroom,?_,fun j n hj=>?_⟩
     . simp only[hs,Uk,SQ,Tt,UK,Tc,SV,Tu];omega
     . have:=hsnoc _ holdl hold (cur.toList.drop (es.length+1)) j n hj;rw[Vd];simpa[hs] using this
   . have hrun:=hS.grow (by simp) ty zv ⟨g,0,none⟩ es.length cap (cur.toList.take es.length) hz (by rw[holdl,hs,Td]) (fun j u hj=>by
      rw[aG,Th,Box.cell hh];rw[Tz] at hj;split at hj
      . rwa [Tb] at hj
      . cases hj) (by simp;omega) (by simp;omega) (growslice_fits (by simp;omega) (by rw[hby];simp;omega))
     simp only[SV,Tu,Th] at hrun;have hge:=grownCap_ge w (es.length+1) cap el;refine⟨_,_,w.heap.size,_,hrun,rfl,rfl,rfl,?_,rfl,World.heap_new w.drew _,fun k hk _=>Below.heap_alloc w.drew _ k hk,.inr (SX _),fun H' h'=>?_⟩
     . exact Nat.le_of_lt (ae (World.heap_new w.drew _))
     . refine .inr ⟨_,_,_,_,by simp,by rw[SQ];rfl,h',by rw[SQ];exact hge,?_,fun j n hj=>?_⟩
       . simp only[UR,size_zeroCells,hzv,Uk,SV,Tu,holdl];omega
       . have:=hsnoc _ holdl hold (Builtin.zeroCells zv.cells (grownCap w (es.length+1) cap el-(es.length+1))).toList j n hj;rw[<-Tb];simpa using this
end
section
variable {H:Nat->Option Obj} {vs:List Value} {ess:List (List Int)} {X:List Nat}
variable {v:Value}
theorem RowI.blk {es:List Int} (h:RowI H v es) {g:Nat} (hb:blkOf v=some g):H g≠none:=by
 rcases h with⟨_,rfl⟩|⟨g',cap,cur,ty,_,rfl,hg,_⟩
 . cases hb
 . cases hb;show H g'≠none;rw[hg];exact fun h=>by cases h
theorem RowI.other {es:List Int} (h:RowI H v es) {g:Nat} {o:Option Obj} (hne:blkOf v≠some g):RowI (ay H g o) v es:=by
 rcases h with h|⟨g',cap,cur,ty,h0,rfl,hg,h1⟩
 . exact .inl h
 . refine .inr ⟨g',cap,cur,ty,h0,rfl,?_,h1⟩;rw[ah _ _ (fun e=>hne (by rw[<-e];rfl))];exact hg
structure Piles (H:Nat->Option Obj) (vs:List Value) (ess:List (List Int)) (X:List Nat):Prop where
 len:vs.length=ess.length
 row:∀(i:Nat) (v:Value) (es:List Int),vs[i]?=some v->ess[i]?=some es->RowI H v es
 sep:∀(i j:Nat) (v v':Value) (g:Nat),i≠j->vs[i]?=some v->vs[j]?=some v'->blkOf v=some g->blkOf v'≠some g
 out:∀(i:Nat) (v:Value) (g:Nat),vs[i]?=some v->blkOf v=some g->g∉X
theorem Piles.set (h:Piles H vs ess X) {i:Nat} {v v':Value} {es':List Int} {g:Nat} {ob:Obj} (hi:vs[i]?=some v) (hX:∀x∈X,H x≠none) (hb:blkOf v'=some g) (hg:blkOf v=some g∨H g=none) (hr:RowI (ay H g (some ob)) v' es'):Piles (ay H g (some ob)) (vs.set i v') (ess.set i es') X:=by
 have hil:=(iO.1 hi).1;have hgn:∀j u,j≠i->vs[j]?=some u->blkOf u≠some g:=fun j u hj hu e=>by
  rcases hg with hg|hg
  . exact h.sep i j v u g (Ux hj) hi hu hg e
  . have hjl:=(iO.1 hu).1;obtain⟨e0,he0⟩:∃e0,ess[j]?=some e0:=⟨_,eq (by rw[<-h.len];exact hjl)⟩;exact(h.row j u e0 hu he0).blk e hg
 have hv:∀j u,(vs.set i v')[j]?=some u->(j=i∧u=v')∨(j≠i∧vs[j]?=some u):=fun j u hu=>by
  by_cases e:j=i
  . subst e;rw[U9 hil] at hu;cases hu;exact .inl ⟨rfl,rfl⟩
  . rw[Vn (Ux e)] at hu;exact .inr ⟨e,hu⟩
 refine⟨by rw[UJ,UJ];exact h.len,fun j u e hu he=>?_,fun j k u u' b hjk hu hu' hb1 hb2=>?_,fun j u b hu hbu=>?_⟩
 . rcases hv j u hu with⟨rfl,rfl⟩|⟨hj,hu⟩
   . rw[U9 (by rw[<-h.len];exact hil)] at he;cases he;exact hr
   . rw[Vn (Ux hj)] at he;exact(h.row j u e hu he).other (hgn j u hj hu)
 . rcases hv j u hu with⟨rfl,rfl⟩|⟨hj,hu2⟩
   . rw[hb] at hb1;cases hb1;rcases hv k u' hu' with⟨rfl,rfl⟩|⟨hk,hu3⟩
     . exact hjk rfl
     . exact hgn k u' hk hu3 hb2
   . rcases hv k u' hu' with⟨rfl,rfl⟩|⟨hk,hu3⟩
     . rw[hb] at hb2;cases hb2;exact hgn j u hj hu2 hb1
     . exact h.sep j k u u' b hjk hu2 hu3 hb1 hb2
 . rcases hv j u hu with⟨rfl,rfl⟩|⟨hj,hu2⟩
   . rw[hb] at hbu;cases hbu;rcases hg with hg|hg
     . exact h.out _ v _ hi hg
     . exact fun hx=>hX _ hx hg
   . exact h.out j u b hu2 hbu
theorem Piles.other (h:Piles H vs ess X) {x:Nat} {o:Option Obj} (hx:x∈X):Piles (ay H x o) vs ess X:=
 ⟨h.len,fun i v es hi he=>(h.row i v es hi he).other (fun e=>h.out i v x hi e hx),h.sep,h.out⟩
end
def GG (ops:List Oper):Bool:=(List.range ops.length).all fun i=>match ops[i]? with|some o=>(directV o).all (fun k=>decide (k<i))|none=>true
def ClosedM (ops:List Oper) (L:Nat):Prop:=∀j o,ops[j]?=some o->L.testBit j=true->∀k∈directV o,L.testBit k=true
variable {ops:List Oper} {L i:Nat} {o:Oper}
theorem n7 (ho:ops[i]?=some o) (hr:bo ops L i=true):L.testBit i=false∧∀k∈directV o,L.testBit k=true:=by unfold bo at hr;rw[ho,SR,Ua] at hr;exact⟨hr.1,SW.1 hr.2⟩
theorem ClosedM.next (h:ClosedM ops L) (ho:ops[i]?=some o) (hr:bo ops L i=true):ClosedM ops (L|||2^i):=by
 intro j o' ho' hj k hk;rw[UP,Uy,TU,Tk] at hj⊢;rcases hj with hj|rfl
 . exact .inl (h j o' ho' hj k hk)
 . rw[ho] at ho';cases ho';exact .inl ((n7 ho hr).2 k hk)
variable {r:Option Nat} {w:World} {Q:Exit->Act->World->Prop}
theorem Dm {P:Program} {a:Act} (hm:P.follows .mixedOrders=true) (hok:GG ops=true) (J:Nat->Act->World->Prop)
 (hstep:∀(L i:Nat) (o:Oper) (a:Act) (w:World) (K:Act->World->Prop),ops[i]?=some o->bo ops L i=true->ClosedM ops L->J L a w->(∀a' w',J (L|||2^i) a' w'->K a' w')->wpOpIn (aZ r) 0 P ⟨ops⟩ Q i K a w) (hQ:∀a w,J (2^ops.length-1) a w->Q .normal a w) {id:Nat} (h0:J 0 a {w with drawn:=w.drawn+1}):(Code.region id ⟨ops⟩ true).wpIn (aZ r) 0 P Q a w:=by
 refine wpIn_region_any hm ?_;have hready:∀(L:Nat) (Ls:List Nat) (listed:Array Bool),listed.size=ops.length->(∀i,(listed.getD i false=true↔i∈Ls))->(∀i,i∈Ls↔L.testBit i=true)->∀i,i∈Region.ready .any ⟨ops⟩ listed↔i<ops.length∧bo ops L i=true:=by
  intro L Ls listed hsz hag hbit i;have hb:∀k,listed.getD k false=true↔L.testBit k=true:=fun k=>(hag k).trans (hbit k)
  rw[bL];constructor
  . rintro⟨h1,o,h2,h3⟩;have h2:ops[i]?=some o:=by simpa using h2
    have hlt:=aM h2;refine⟨hlt,?_⟩;rw[bt (ops:=⟨ops⟩) hsz hlt] at h1;have hn:L.testBit i=false:=by
     cases hb':L.testBit i with
     |false=>rfl
     |true=>rw[(hb i).2 hb'] at h1;cases h1
    simp only[bo,hn,Vq,Uf,h2,SW];exact fun k hk=>(hb k).1 (h3 k hk)
  . rintro⟨hlt,hr⟩;simp only[bo,SR,Ua] at hr;obtain⟨hn,hd⟩:=hr;split at hd
    case h_2=>cases hd
    rename_i o ho;refine⟨?_,o,by simpa using ho,fun k hk=>(hb k).2 (SW.1 hd k hk)⟩;rw[bt (ops:=⟨ops⟩) hsz hlt];cases hg:listed.getD i false with
    |false=>rfl
    |true=>rw[(hb i).1 hg] at hn;cases hn
 have hSL:∀L,L<2^ops.length->(L=2^ops.length-1∨∃i,i<ops.length∧bo ops L i=true):=by
  intro L hL;by_cases hall:∀i,i<ops.length->L.testBit i=true
  . refine .inl (Nat.eq_of_testBit_eq fun i=>?_);rw[Nat.testBit_two_pow_sub_one];by_cases hi:i<ops.length
    . rw[hall i hi];simp[hi]
    . rw[Nat.testBit_lt_two_pow (To hL (Nat.pow_le_pow_right (by decide) (by omega)))];simp[hi]
  . have hex:∃i,i<ops.length∧L.testBit i=false:=by
     apply Classical.byContradiction;intro hno;refine hall (fun i hi=>?_);cases hb:L.testBit i with
     |true=>rfl
     |false=>exact absurd ⟨i,hi,hb⟩ hno
    obtain⟨i0,hi0,hb0⟩:=hex;obtain⟨i,⟨hi,hb⟩,hmin⟩:=AM (fun i=>i<ops.length∧L.testBit i=false) i0 ⟨hi0,hb0⟩;refine .inr ⟨i,hi,?_⟩;have ho:ops[i]?=some ops[i]:=eq hi;unfold bo;rw[ho,hb];simp only[Vq,Uf,SW];intro k hk;have htk:=SW.1 hok i (TC.2 hi);rw[ho] at htk;have hki:k<i:=Ti (SW.1 htk k hk);cases hbk:L.testBit k with
    |true=>rfl
    |false=>have:=hmin k ⟨by omega,hbk⟩;omega
 have key:∀(fuel L:Nat) (Ls:List Nat) (listed:Array Bool) (a:Act) (w:World),L<2^ops.length->ClosedM ops L->listed.size=ops.length->(∀i,(listed.getD i false=true↔i∈Ls))->(∀i,i∈Ls↔L.testBit i=true)->
  ((List.range ops.length).filter fun j=> !Ls.contains j).length<=fuel->J L a w->wpAnyIn (aZ r) 0 P .any ⟨ops⟩ Q fuel listed a w:=by
  intro fuel
  induction fuel with
  | zero=>
    intro L Ls listed a w hL hcl hsz hag hbit hrem h;have hno:∀i,i<ops.length->i∈Ls:=fun i hi=>by
     have h0:((List.range ops.length).filter fun j=> !Ls.contains j)=[]:=UC.1 (Nat.le_zero.1 hrem);by_cases hm:i∈Ls
     . exact hm
     . have:i∈((List.range ops.length).filter fun j=> !Ls.contains j):=Ts.2 ⟨TC.2 hi,by simpa using hm⟩;rw[h0] at this;cases this
    have hnr:∀i,i<ops.length->bo ops L i=false:=fun i hi=>by simp[bo,(hbit i).1 (hno i hi)]
    have hfull:L=2^ops.length-1:=by
     rcases hSL L hL with h1|⟨i,hi,hr⟩
     . exact h1
     . rw[hnr i hi] at hr;cases hr
    refine⟨?_,hQ a w (hfull▸h)⟩;rw[Ut];intro i hi;obtain⟨h1,h2⟩:=(hready L Ls listed hsz hag hbit i).1 hi;rw[hnr i h1] at h2;cases h2
  | succ f ih=>
    intro L Ls listed a w hL hcl hsz hag hbit hrem h;refine⟨fun hr=>?_,fun i hi=>?_⟩
    . have hfull:L=2^ops.length-1:=by
       rcases hSL L hL with h1|⟨i,hi,hr'⟩
       . exact h1
       . have:=(hready L Ls listed hsz hag hbit i).2 ⟨hi,hr'⟩;rw[hr] at this;cases this
      exact hQ a w (hfull▸h)
    . obtain⟨hlt,hr⟩:=(hready L Ls listed hsz hag hbit i).1 hi;have ho:ops[i]?=some ops[i]:=eq hlt;have hn:i∉Ls:=fun hm=>by simp only[bo,(hbit i).1 hm,UI,UQ] at hr;cases hr
      refine hstep L i ops[i] a w (fun a' w'=>wpAnyIn (aZ r) 0 P .any ⟨ops⟩ Q f (listed.setIfInBounds i true) a' w') ho hr hcl h (fun a' w' h'=>by
       refine ih (L|||2^i) (i::Ls) _ a' w' (Nat.or_lt_two_pow hL (Nat.pow_lt_pow_right (by decide) hlt)) (hcl.next ho hr) (by simpa using hsz) (fun j=>?_) (fun j=>?_) (by have:=fH hlt hn;omega) h'
       . by_cases e:j=i
         . subst e;rw[cB (by omega)];simp
         . rw[getD_set_ne _ (Ux e),hag j];simp[e]
       . rw[UP,Uy,TU,<-hbit j,S5,Tk];constructor
         . rintro(rfl|h)
           . exact .inr rfl
           . exact .inl h
         . rintro(h|rfl)
           . exact .inr h
           . exact .inl rfl)
 refine key _ 0 [] _ a _ (Nat.pow_pos (by decide)) (fun j o _ h=>by simp at h) (by simp) (fun i=>?_) (fun i=>by simp) ?_ h0
 . simp only[S0,Ul];split<;>simp
 . exact Tn (Uc _ _) (by simp)
section
variable {E:Env} {n:Nat} {B:Hb} {H H':Nat->Option Obj} {w w':World} {st:St} {a:Act} {r:Option Nat}
variable {d:Tmp} {v:Value}
theorem aI {K:Act->World->Prop} (hi:ops[i]?=some o) (hdef:∀c,o.op≠ .defer c) (hd:o.dst=some d) (hg:o.guard=none) (hrun:(execOp a.eval o).run E.P w= .ok (.value v) w')
 (hK:K (a.put (some d) v) w'):wpOpIn (aZ r) 0 E.P ⟨ops⟩ Q i K a w:=by
 unfold wpOpIn;have hi':(⟨ops⟩:Array Oper)[i]?=some o:=by simpa using hi
 rw[hi'];simp only;rw[S4 (by unfold Region.wanted;rw[hg])];refine⟨fun _ _=>trivial,?_⟩;rw[Oper.semAt_eq _ _ _ hdef,hrun];show K (a.put o.dst v) w';rw[hd];exact hK
theorem gV {K:Act->World->Prop} (hi:ops[i]?=some o) (hdef:∀c,o.op≠ .defer c) (hd:o.dst=none) (hg:o.guard=none) (hrun:(execOp a.eval o).run E.P w= .ok .skip w') (hK:K a w'):wpOpIn (aZ r) 0 E.P ⟨ops⟩ Q i K a w:=by
 unfold wpOpIn;have hi':(⟨ops⟩:Array Oper)[i]?=some o:=by simpa using hi
 rw[hi'];simp only;rw[S4 (by unfold Region.wanted;rw[hg])];refine⟨fun _ _=>trivial,?_⟩;rw[Oper.semAt_eq _ _ _ hdef,hrun];show K (a.put o.dst undef) w';rw[hd];exact hK
theorem bW {rest:List Nat} (hi:ops[i]?=some o) (hdef:∀c,o.op≠ .defer c) (hd:o.dst=some d) (hdn:d<n) (hWd:B.W d=true) (hg:o.guard=none) (h:HoldH E n B H st a w) (hrun:(execOp a.eval o).run E.P w= .ok (.value v) w)
 (hK:∀a',HoldH E n B H (st.put (some d) (.x v)) a' w->wpOpsIn (aZ r) 0 E.P ⟨ops⟩ Q rest a' w):wpOpsIn (aZ r) 0 E.P ⟨ops⟩ Q (i::rest) a w:=by
 rw[wpOpsIn_cons];exact aI hi hdef hd hg hrun (hK _ (h.putX hdn hWd v))
def jd (st:St) (val:Nat->V) (ops:List Oper) (L:Nat):St:=⟨fun k=>if cq ops L k=true then val k else st.t k,st.b⟩
theorem Nb (st:St) (val:Nat->V) (ops:List Oper):jd st val ops 0=st:=by unfold jd cq;simp
variable {k:Nat}
theorem bT {val:Nat->V} (h:(ops.all fun o=>o.dst !=some k)=true):(jd st val ops L).t k=st.t k:=by
 show(if cq ops L k=true then val k else st.t k)=_;rw[S8];unfold cq;intro hd;obtain⟨i,_,hi⟩:=T8.1 hd;rw[SR] at hi;split at hi
 . rename_i o ho;have:=SW.1 h o (S9 ho);rw[eq_of_beq hi.2] at this;simp at this
 . cases hi.2
theorem Gc {val val':Nat->V} (hi:ops[i]?=some o) (hv:∀k,o.dst≠some k->val' k=val k):Le (jd st val' ops (L|||2^i)) (match o.dst with|some d=>(jd st val ops L).put (some d) (val' d)|none=>jd st val ops L):=by
 cases hd:o.dst with
 | none=>
   have e:jd st val' ops (L|||2^i)=jd st val ops L:=by unfold jd;congr 1;funext k;rw[kZ hi,hd,hv k (by rw[hd];exact fun h=>by cases h)];simp
   rw[e];exact Le.refl _
 | some d=>
   refine⟨fun k=> .inr (.inl ?_),fun s cs h=>⟨cs,h,eL cs⟩⟩;show(if cq ops (L|||2^i) k=true then val' k else st.t k)=ay (jd st val ops L).t d (val' d) k;rw[kZ hi,hd,aB];by_cases e:k=d
   . subst e;simp
   . have e':(some d==some k)=false:=by simpa using fun h=>e h.symm
     rw[S8 e,e',U6,hv k (by rw[hd];exact fun h=>e (by cases h;rfl))];rfl
theorem pf {n j:Nat} (hcl:ClosedM ops L) (ho:ops[n]?=some o) (hall:((List.range n).all fun k=>(directV o).contains k)=true) (hj:j<=n) (hb:L.testBit j=false):L.testBit n=false:=by
 cases h:L.testBit n with
 |false=>rfl
 | true=>
   rcases Nat.lt_or_eq_of_le hj with h1|rfl
   . have:=hcl n o ho h j (by simpa using SW.1 hall j (TC.2 h1));rw[hb] at this;cases this
   . rw[hb] at h;cases h
theorem eU (L:Nat) {i k:Nat} (h:i≠k):(L|||2^i).testBit k=L.testBit k:=by rw[UP,Uy];simp[h]
theorem gW (L i:Nat):(L|||2^i).testBit i=true:=by rw[UP,Uy];simp
def xi (ops:List Oper) (k j:Nat):Bool:=match ops[j]? with|some o=>o.dst==some k|none=>false
theorem vt (hE:EnvOK E) (hm:E.P.follows .mixedOrders=true) (hok:GG ops=true) (need:Nat->List Nat) (hps:((List.range ops.length).all fun i=>(match ops[i]? with|some o=>(need i).all fun k=>(directV o).any (xi ops k)|none=>true))=true) (I:Nat->(Nat->Option Obj)->(Nat->V)->Prop)
 (hstep:∀(L i:Nat) (o:Oper) (H:Nat->Option Obj) (val:Nat->V) (a:Act) (w:World) (K:Act->World->Prop),ops[i]?=some o->L.testBit i=false->(∀k∈directV o,L.testBit k=true)->ClosedM ops L->I L H val->HoldH E n B H (jd st val ops L) a w->(∀k∈need i,(jd st val ops L).t k=val k)->
  (∀a' w' H' val',(∀k,o.dst≠some k->val' k=val k)->I (L|||2^i) H' val'->HoldH E n B H' (match o.dst with|some d=>(jd st val ops L).put (some d) (val' d)|none=>jd st val ops L) a' w'->K a' w')->wpOpIn (aZ r) 0 E.P ⟨ops⟩ Q i K a w)
 (val0:Nat->V) (hI:I 0 H val0) (hQ:∀a w H val,I (2^ops.length-1) H val->HoldH E n B H (jd st val ops (2^ops.length-1)) a w->Q .normal a w) {id:Nat} (h:HoldH E n B H st a w):(Code.region id ⟨ops⟩ true).wpIn (aZ r) 0 E.P Q a w:=by
 refine Dm hm hok (fun L a w=>∃H val,I L H val∧HoldH E n B H (jd st val ops L) a w) ?_ (fun a w ⟨H,val,h1,h2⟩=>hQ a w H val h1 h2) ⟨H,val0,hI,by rw[Nb];exact h.drew hE⟩;rintro L i o a w K ho hr hcl ⟨H,val,h1,h2⟩ hK;obtain⟨hb,hd⟩:=n7 ho hr;refine hstep L i o H val a w K ho hb hd hcl h1 h2 (fun k hk=>?_) (fun a' w' H' val' hv hI' h'=>hK a' w' ⟨H',val',hI',h'.le (Gc ho hv)⟩);show(if cq ops L k=true then val k else st.t k)=_;rw[S4];have h3:=SW.1 hps i (TC.2 (iO.1 ho).1);rw[ho] at h3;obtain⟨j,hj,hjk⟩:=T8.1 (SW.1 h3 k hk);unfold cq;refine T8.2 ⟨j,TC.2 ?_,by rw[hd j hj,Uf];exact hjk⟩;unfold xi at hjk;split at hjk
 . rename_i o' ho';exact(iO.1 ho').1
 . cases hjk
end
end Go.Proofs.Ytalkmhjanlljhaa
