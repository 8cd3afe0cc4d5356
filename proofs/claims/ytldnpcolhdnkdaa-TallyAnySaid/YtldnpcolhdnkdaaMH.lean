/- A call's own run with one block beside it that others write: how it comes there (a row out of a variable), how others write it. No program is named here. -/
import Derived.Test.YtldnpcolhdnkdaaMU
import Derived.Test.YtldnpcolhdnkdaaMI
import Derived.WideLaws
namespace Go.Proofs.Ytldnpcolhdnkdaa
set_option linter.unusedSimpArgs false
open Go Go.RowKit
section
variable {E:Env} {n:Nat} {B:Bs} {w:World} {st:St} {a:Act} {g:Nat} {ob:Obj}
theorem OneG.wrote (hE:EnvOK E) {w':World} {ob':Obj} (h:OneG E n B st a w g ob (some 0)) (hnd:∀l,ob≠ .deferred l) (hgs:B.ws.heap.size<=g) (hK:E.K<=g) (hb:Bel [g] w w') (hh:w'.heap[g]?=some ob'):OneG E n B st a w' g ob' (some 0):=by
 obtain⟨m,O,q1,q2,q3,q4,q5,q6,q7,q8,q9⟩:=h;have hs:Step (fun k=>k=g) m w m w':=by
  refine⟨hb.os,hb.tape,hb.output,⟨hb.size,fun b off v hlt hm hc=>?_,fun b hlt fr' hf=>⟨fr',hf,PB _⟩,fun b es c hm hc=>(hb.block b (du hc) (by intro e;rw[PQ.1 e,q9] at hm;cases hm)).trans hc⟩,fun k hk hn=>⟨hb.block k hk (by simpa using hn),rfl⟩⟩;by_cases e:b=g
  . subst e;exact absurd (hm 0 q9) (Ro _)
  . rw[aT (hb.block b hlt (by simpa using e))];exact hc
 have hJ:E.J w':=hE.keep [g] _ _ (fun x hx=>by rw[PQ.1 hx];exact hK) q1.J hb;refine⟨m,O,q1.other hs (fun k hk e=>q7 (e▸hk)) hJ,q2,q3.next hs (fun i hi e=>absurd hi (Qw.2 (e▸hgs))),⟨q4.nd,fun x hx=>?_⟩,B.Kn.mono _ _ _ _ q5 hs.ext,q6,q7,hh,q9⟩;obtain⟨b,rfl,r1,r2,r3⟩:=q4.is x hx;have hne:b≠g:=fun e=>by subst e;rw[r2] at q8;cases q8;exact hnd _ rfl
 exact⟨b,rfl,r1,(hs.same b (al r2) hne).1.trans r2,r3⟩
end
structure Loose (K:Nat) (sz:Nat) (m:Lim) (w:World) (v:Value) (es:List V) (g:Nat):Prop where
 box:BoxAt m w g (es.flatMap V.cells)
 low:K<=g
 is:∃(cap:Nat) (cur:Array Value) (ty:TyAt cur.size),v= .slice (some ⟨g,0,none⟩) es.length cap∧w.heap[g]?=some (.cells cur ty.ty ty.fz)∧es.length<=cap∧cur.size=cap*sz
inductive Bed (K:Nat) (sz:Nat) (m:Lim) (w:World):List (Value×List V)->List Nat->Prop
 |nil:Bed K sz m w [] []
 |no {l:List (Value×List V)} {gs:List Nat} (h:Bed K sz m w l gs):Bed K sz m w ((.slice none 0 0,[])::l) gs
 |row {v:Value} {es:List V} {g:Nat} {l:List (Value×List V)} {gs:List Nat} (hne:es≠[]) (h1:Loose K sz m w v es g) (h2:g∉gs) (h:Bed K sz m w l gs):Bed K sz m w ((v,es)::l) (g::gs)
section
variable {E:Env} {n sz:Nat} {D:List Deferred} {m m' ms:Lim} {ws w w':World} {st:St} {a:Act} {O S:Nat->Prop} {r:Option Nat}
variable {v:Value} {g:Nat}
theorem Loose.lt {K:Nat} {es:List V} (h:Loose K sz m w v es g):g<w.heap.size:=by obtain⟨_,_,_,_,hh,_⟩:=h.is;exact al hh
theorem BoxAt.stab {cs:List V} (h:BoxAt m w g cs) (hs:Step S m w m' w') (hS: ¬S g):BoxAt m' w' g cs:=by obtain⟨hl,vals,ty,xs,rest,hh,hx,hr⟩:=h;obtain⟨h1,h2⟩:=hs.same g (al hh) hS;exact⟨by rw[h2];exact hl,vals,ty,xs,rest,by rw[h1];exact hh,hx,hr.mono hs.ext⟩
theorem Loose.stab {K:Nat} {es:List V} (h:Loose K sz m w v es g) (hs:Step S m w m' w') (hS: ¬S g):Loose K sz m' w' v es g:=by obtain⟨h1,h2,cap,cur,ty,q1,q2,q3⟩:=h;exact⟨h1.stab hs hS,h2,cap,cur,ty,q1,by rw[(hs.same g (al q2) hS).1];exact q2,q3⟩
variable {P:List (Value×List V)} {gs:List Nat}
theorem Bed.lt {K:Nat} (h:Bed K sz m w P gs):∀g∈gs,g<w.heap.size:=by
 induction h with
 |nil=>exact fun g hg=>by cases hg
 |no _ ih=>exact ih
 | row _ h1 _ _ ih=>
   intro g hg;rcases PY.1 hg with rfl|hg
   . exact h1.lt
   . exact ih g hg
theorem Bed.stab {K:Nat} (h:Bed K sz m w P gs) (hs:Step S m w m' w') (hS:∀g∈gs,¬S g):Bed K sz m' w' P gs:=by
 induction h with
 |nil=>exact .nil
 |no _ ih=>exact .no (ih hS)
 |row hne h1 h2 _ ih=>exact .row hne (h1.stab hs (hS _ (PZ ..))) h2 (ih fun g hg=>hS g (P4 _ hg))
theorem Bed.slice {K:Nat} {es:List V} (h:Bed K sz m w ((v,es)::P) gs):∃ao ln cp,v= .slice ao ln cp:=by
 cases h with
 |no _=>exact⟨_,_,_,rfl⟩
 |row _ h1 _ _=>obtain⟨cap,_,_,e,_⟩:=h1.is;exact⟨_,_,_,e⟩
theorem Now.take (hMB:∀s,E.MB s=false) (h:Now E n D O m st a w) {v:Value} {es:List V} {g:Nat} (hL:Loose E.K sz m w v es g) (hlen:∀e∈es,e.cells.length=sz) (hO: ¬O g) {d s:Nat} (hv:a.tmps.getD d Go.undef=v) (hno:noPtrTo s st.t) (hs:s<n):
 Now E n D (fun k=>O k∨k=g) m ⟨aw st.t d (.row s sz es.length),aw st.b s (some (es.flatMap V.cells))⟩ a w:=by
 obtain⟨⟨b,β,hr⟩,hlt⟩:=h;obtain⟨hbx,hlow,cap,cur,ty,hve,hh,hcap,hcs⟩:=hL;have hbg:∀{s':Nat} {cs':List V},st.b s'=some cs'->β s'≠g:=fun {s' cs'} hs' e=>by
  obtain⟨⟨_,_,_,_,_,hh',_⟩,hge⟩:=hr.boxes s' cs' hs';rcases hge with hge|hge
  . exact absurd (al hh') (Qw.2 hge)
  . exact hO (e▸(bB.1 hge).2)
 have hin:∀x,x<w.heap.size->(w.heap.size<=x∨x∈lst O w.heap.size)->x∈lst (fun k=>O k∨k=g) w.heap.size:=fun x hx ho=>by
  rcases ho with ho|ho
  . exact absurd hx (Qw.2 ho)
  . exact bB.2 ⟨hx,.inl (bB.1 ho).2⟩
 have hfl:(es.flatMap V.cells).length=es.length*sz:=by
  clear hbx hcap hve
  induction es with
  |nil=>simp
  |cons e es ih=>rw[Qq,PP,ih (fun x hx=>hlen x (P4 _ hx)),hlen e (PZ ..),P5,Qs,RP,Nat.add_comm]
 have hbeta:∀s',s'≠s->aw β s g s'=β s':=fun s' hs'=>ae _ _ hs'
 refine⟨⟨b,aw β s g,⟨fun i=>?_,hr.size,fun s' cs' hs'=>?_,fun s1 s2 c1 c2 h1 h2 heq=>?_,Bel.refl _ _,⟨hr.par.1,fun s' hs'=>(hbeta s' (by have:=hr.par.1;omega)).trans (hr.par.2.1 s' hs'),fun x hx=>?_⟩,⟨fun _ _ _=>rfl,Ext.refl _ _,fun y hy=>hy⟩,?_,fun i s' sz' len' cs' hi hb=>?_,hr.defers,hr.glob,hr.j,?_⟩⟩,fun k hk=>?_⟩
 . show Rs m w (aw β s g) _ (aw st.t d (.row s sz es.length) i);by_cases e:i=d
   . subst e;rw[aa,hv,hve];have:=Rs.ofRow (m:=m) (w:=w) (β:=aw β s g) s sz hcap
     rwa [aa] at this
   . rw[ae _ _ e];exact(hr.tmps i).beta (fun s' hs'=>hbeta s' (fun e=>hno i (by rw[hs',e])))
 . have hs':aw st.b s (some (es.flatMap V.cells)) s'=some cs':=hs';by_cases e:s'=s
   . subst e;rw[aa] at hs'⊢;cases hs';exact⟨hbx,.inr (bB.2 ⟨al hh,.inr rfl⟩)⟩
   . rw[ae _ _ e] at hs'⊢;obtain⟨h1,h2⟩:=hr.boxes s' cs' hs';have hlt':β s'<w.heap.size:=by obtain⟨_,_,_,_,_,hh,_⟩:=h1;exact al hh
     exact⟨h1,.inr (hin _ hlt' h2)⟩
 . have h1:aw st.b s (some (es.flatMap V.cells)) s1=some c1:=h1;have h2:aw st.b s (some (es.flatMap V.cells)) s2=some c2:=h2;by_cases e1:s1=s
   . by_cases e2:s2=s
     . rw[e1,e2]
     . subst e1;rw[ae _ _ e2] at h2;rw[aa,hbeta _ e2] at heq;exact absurd heq.symm (hbg h2)
   . by_cases e2:s2=s
     . subst e2;rw[ae _ _ e1] at h1;rw[aa,hbeta _ e1] at heq;exact absurd heq (hbg h1)
     . rw[ae _ _ e1] at h1;rw[ae _ _ e2] at h2;rw[hbeta _ e1,hbeta _ e2] at heq;exact hr.inj _ _ _ _ h1 h2 heq
 . obtain⟨q1,q2⟩:=bB.1 hx;rcases q2 with q2|rfl
   . exact hr.par.2.2 x (bB.2 ⟨q1,q2⟩)
   . exact hlow
 . obtain⟨ρ,hrw⟩:=hr.rows;have hB:∀v sz' es' s',Bear E w (aw β s g) ⟨aw st.t d (.row s sz es.length),aw st.b s (some (es.flatMap V.cells))⟩ (fun i=>a.tmps.getD i Go.undef) v (.sl false sz' es' (some s'))->Bear E w β st (fun i=>a.tmps.getD i Go.undef) v (.sl false sz' es' (some s')):=by
    rintro v sz' es' s' (⟨i,h1,h2⟩|⟨k,_,_,hk,_⟩)
    . have h1:aw st.t d (.row s sz es.length) i= .sl false sz' es' (some s'):=h1;by_cases e:i=d
      . rw[e,aa] at h1;cases h1
      . rw[ae _ _ e] at h1;exact .inl ⟨i,h1,h2⟩
    . rw[hMB] at hk;cases hk
   refine⟨ρ,fun v sz' es' s' hi=>?_,fun v sz es s1 v' sz' es' s2 hi hi' e=>hrw.sep _ _ _ _ _ _ _ _ (hB _ _ _ _ hi) (hB _ _ _ _ hi') e,fun v sz' es' s1 k c hi hk=>?_⟩
   . obtain⟨lo,lim,cap,cur,ty,hv,hh,hc,hs⟩:=hrw.row _ _ _ _ (hB _ _ _ _ hi);exact⟨.inr (hin _ (al hh) lo),lim,cap,cur,ty,hv,hh,hc,hs⟩
   . have hk:aw st.b s (some (es.flatMap V.cells)) k=some c:=hk;obtain⟨lo,lim,cap,cur,ty,_,hh',_⟩:=hrw.row _ _ _ _ (hB _ _ _ _ hi);by_cases e:k=s
     . subst e;rw[aa];rintro rfl;rcases lo with lo|lo
       . exact absurd (al hh') (Qw.2 lo)
       . exact hO (bB.1 lo).2
     . rw[ae _ _ e] at hk;rw[hbeta _ e];exact hrw.box _ _ _ _ _ _ (hB _ _ _ _ hi) hk
 . replace hi:aw st.t d (.row s sz es.length) i= .row s' sz' len':=hi;replace hb:aw st.b s (some (es.flatMap V.cells)) s'=some cs':=hb;by_cases e:i=d
   . subst e;rw[aa] at hi;cases hi;rw[aa] at hb;cases hb;refine⟨by rw[hfl];exact PB _,cap,cur,ty,?_,?_,hcs⟩
     . rw[aa];exact hv.trans hve
     . rw[aa];exact hh
   . rw[ae _ _ e] at hi;have hne:s'≠s:=fun e'=>hno i (by rw[hi,e'];rfl)
     rw[ae _ _ hne] at hb;have:=hr.own i s' sz' len' cs' hi hb;exact⟨this.fit,by rw[hbeta _ hne];exact this.is⟩
 . refine⟨fun i s' ks vs hi=>?_,fun i j s1 s2 ks1 vs1 ks2 vs2 hi hj e=>?_⟩
   . have hi:aw st.t d (.row s sz es.length) i= .mp s' ks vs:=hi;by_cases e:i=d
     . rw[e,aa] at hi;cases hi
     . rw[ae _ _ e] at hi;have hne:s'≠s:=fun e'=>hno i (by rw[hi,e'];rfl)
       rw[hbeta _ hne];obtain⟨⟨ents,clock,hh,hrest⟩,h2⟩:=hr.maps.holds i s' ks vs hi;exact⟨⟨ents,clock,hh,hrest⟩,.inr (hin _ (al hh) h2)⟩
   . have hi:aw st.t d (.row s sz es.length) i= .mp s1 ks1 vs1:=hi;have hj:aw st.t d (.row s sz es.length) j= .mp s2 ks2 vs2:=hj;by_cases e1:i=d
     . rw[e1,aa] at hi;cases hi
     . by_cases e2:j=d
       . rw[e2,aa] at hj;cases hj
       . rw[ae _ _ e1] at hi;rw[ae _ _ e2] at hj;rw[hbeta _ (fun e'=>hno i (by rw[hi,e'];rfl)),hbeta _ (fun e'=>hno j (by rw[hj,e'];rfl))] at e;exact hr.maps.inj _ _ _ _ _ _ _ _ hi hj e
 . rcases hk with hk|rfl
   . exact hlt k hk
   . exact al hh
theorem Step.freeze (g:Nat) (m:Lim) (w:World):Step (fun k=>k=g) m w (aw m g none) w:=by exact⟨rfl,rfl,rfl,Ext.freeze g m w,fun k _ hk=>⟨rfl,ae _ _ hk⟩⟩
structure Hb where
 Kn:Kno
 W:Nat->Bool
 t0:Array Value
 ms:Lim
 ws:World
def Hold (E:Env) (n sz:Nat) (B:Hb) (P:List (Value×List V)) (st:St) (a:Act) (w:World):Prop:=
 ∃m O gs,Now E n [] O m st a w∧Bed E.K sz m w P gs∧(∀g∈gs,¬O g∧B.ws.heap.size<=g)∧(∀k,O k->B.ws.heap.size<=k)∧Step (fun _=>False) B.ms B.ws m w∧B.Kn.P m w∧KeepT B.W B.t0 a.tmps
variable {B:Hb} {P:List (Value×List V)}
variable {st':St}
theorem Hold.le (h:Hold E n sz B P st a w) (hl:Le st' st):Hold E n sz B P st' a w:=by obtain⟨m,O,gs,h1,h2⟩:=h;exact⟨m,O,gs,h1.le hl,h2⟩
variable {a':Act}
theorem Hold.grown (h2:Bed E.K sz m w P gs) (h3:∀g∈gs,¬O g∧B.ws.heap.size<=g) (h4:∀k,O k->B.ws.heap.size<=k) (h5:Step (fun _=>False) B.ms B.ws m w) (h6:B.Kn.P m w) (hkt:KeepT B.W B.t0 a'.tmps)
 (hn:Now E n [] (oT O w w') m' st' a' w') (hs:Step O m w m' w'):Hold E n sz B P st' a' w':=by
 refine⟨m',_,gs,hn,h2.stab hs (fun g hg=>(h3 g hg).1),fun g hg=>⟨fun hgr=>?_,(h3 g hg).2⟩,fun k hg=>?_,h5.next hs (fun i hi ho=>absurd hi (Qw.2 (h4 i ho))),B.Kn.mono _ _ _ _ h6 hs.ext,hkt⟩
 . rcases hgr.2 with ho|ho
   . exact(h3 g hg).1 ho
   . exact absurd (h2.lt g hg) (Qw.2 ho)
 . rcases hg.2 with ho|ho
   . exact h4 k ho
   . exact tl h5.ext.size ho
variable {k:Nat}
theorem Hold.start {vs:Array Value} {us:List V} (hr:RdL m w vs.toList us) (hdat:us.all V.dat=true) (hl:us.length=k) (hk:k<=n) (hn1:n<=1000) (hj:E.J w) (hg:∀g,Rd m w (.pointer (some ⟨g,0,none⟩)) (E.G g)) {Kn:Kno} (hkn:Kn.P m w):
 Hold E n sz ⟨Kn,fun _=>true,#[],m,w⟩ [] (start us) {tmps:=vs++Array.replicate (n-vs.size) Go.undef,defers:=[]} w:=
 ⟨m,_,[],Now.first (jT hr hdat hl hk hn1 hj hg),.nil,fun _ h=>(by cases h),fun _ h=>h.elim,Step.refl _ _ _,hkn,fun i hi=>by cases hi⟩
end
section
variable {E:Env} {n sz:Nat} {B:Hb} {m m':Lim} {w w':World} {st:St} {a:Act} {O:Nat->Prop} {P:List (Value×List V)} {r:Option Nat}
theorem Km {D:List Deferred} (h:Now E n D O m st a w) (i:Nat) {v:Value} (hi:st.t i= .x v):a.tmps.getD i Go.undef=v:=by obtain⟨b,β,hr⟩:=h.rel;exact(hi▸hr.tmps i:Rs m w β _ (.x v)).x
theorem Bed.split {K:Nat} {v:Value} {es:List V} (hne:es≠[]) {P2:List (Value×List V)}:∀(P1:List (Value×List V)) {gs:List Nat},Bed K sz m w (P1++(v,es)::P2) gs->∃g gs',Loose K sz m w v es g∧Bed K sz m w (P1++P2) gs'∧g∉gs'∧g∈gs∧∀x∈gs',x∈gs
 | [],gs,h=>by
   cases h with
   |no h=>exact absurd rfl hne
   |row _ h1 h2 h=>exact⟨_,_,h1,h,h2,PZ ..,fun x hx=>P4 _ hx⟩
 | p ::P1,gs,h=>by
   cases h with
   |no h=>obtain⟨g,gs',q1,q2,q3,q4,q5⟩:=Bed.split hne P1 h;exact⟨g,gs',q1,.no q2,q3,q4,q5⟩
   | row hne' h1 h2 h=>
     obtain⟨g,gs',q1,q2,q3,q4,q5⟩:=Bed.split hne P1 h;rename_i g0 gs0;refine⟨g,g0::gs',q1,.row hne' h1 (fun hx=>h2 (q5 _ hx)) q2,fun hx=>?_,P4 _ q4,fun x hx=>?_⟩
     . rcases PY.1 hx with rfl|hx
       . exact h2 q4
       . exact q3 hx
     . rcases PY.1 hx with rfl|hx
       . exact PZ ..
       . exact P4 _ (q5 _ hx)
variable {gs:List Nat}
theorem Bed.rd {K:Nat} (h:Bed K sz m w P gs) (he:Ext m w m' w) (hP:∀p∈P,p.2≠[]∧∀e∈p.2,e.cells.length=sz) (hm:∀g∈gs,m' g=none):∀p∈P,Rd m' w p.1 (.sl false sz p.2 none):=by
 induction h with
 |nil=>exact fun p hp=>by cases hp
 |no _ ih=>exact absurd rfl (hP _ (PZ ..)).1
 | row hne h1 h2 _ ih=>
   intro p hp;rcases PY.1 hp with rfl|hp
   . obtain⟨⟨_,vals,ty,xs,rest,hh,hx,hr⟩,_,cap,cur,ty',hv,hh',hc,_⟩:=h1;simp only at hv⊢;rw[hv];have hfl:=(dX (n:=sz) _ xs (hP _ (PZ ..)).2 hr).mono he;exact Rd.of_flat hfl hh (fun j x hj=>by rw[<-PN,hx];rw[PT (by obtain⟨h,_⟩:=PE.1 hj;exact h)];exact hj) hc (fun fr hf=>by rw[hm _ (PZ ..)] at hf;cases hf) none
   . exact ih (fun p hp=>hP p (P4 _ hp)) (fun g hg=>hm g (P4 _ hg)) p hp
theorem Hold.val (h:Hold E n sz B P st a w) {d:Nat} {v:Value} (hd:st.t d= .x v):a.tmps.getD d Go.undef=v:=by obtain⟨m,O,gs,h1,_⟩:=h;exact Km h1 d hd
theorem Hold.nil (h:Hold E n sz B P st a w) (d k:Nat) (tok:Option Nat) {n0:Nat} {k0:Option Nat} (hd:st.t d= .sl true n0 [] k0):Hold E n sz B P ⟨aw st.t d (.sl true k [] tok),st.b⟩ a w:=
 h.le ⟨fun i=>by
  show(aw st.t d (.sl true k [] tok) i).le (st.t i);by_cases e:i=d
  . subst e;rw[aa,hd];exact .inr (.inr ⟨_,_,_,_,rfl,rfl⟩)
  . rw[ae _ _ e];exact .inr (.inl rfl),fun _ cs h=>⟨cs,h,gD cs⟩⟩
theorem Hold.drew (h:Hold E n sz B P st a w) (hE:EnvOK E):Hold E n sz B P st a {w with drawn:=w.drawn+1}:=by obtain⟨m,O,gs,h1,h2,h3,h4,h5,h6,h7⟩:=h;have hb:Below w.heap.size w {w with drawn:=w.drawn+1}:=⟨rfl,rfl,rfl,PB _,fun _ _=>rfl⟩;have hs:Step (fun _=>False) m w m {w with drawn:=w.drawn+1}:=Step.of_below hb (fun _ _=>rfl);have hJ:E.J {w with drawn:=w.drawn+1}:=hE.keep [] _ _ (fun x hx=>by cases hx) h1.J (hs.bel (fun k _ e=>e.elim));exact⟨m,O,gs,h1.other hs (fun _ _ h=>h) hJ,h2.stab hs (fun _ _ h=>h),h3,h4,h5.next hs (fun _ _ h=>h.elim),B.Kn.mono _ _ _ _ h6 hs.ext,h7⟩
end
section
variable {E:Env} {n:Nat} {B:Bs} {w:World} {st:St} {a:Act} {g:Nat} {ob:Obj} {lg:Option Nat} {r:Option Nat} {P:Program}
variable {t:TypeId} {k:Nat} {o:Oper}
theorem ub {x:Operand} {f:Nat} {ρ:Operand->Value} {b off off':Nat} {fs:Array Field} {fd:Field} (ho:o.op= .fieldAddr t x f) (ht:P.underlying t=some (.struct fs)) (hf:fs[f]?=some fd) (hn:bg P fd.type=some k) (hk:k≠0) (hx:ρ x= .pointer (some ⟨b,off,none⟩)) (he:off+fd.offset=off'):
 (execOp ρ o).run P w= .ok (.value (.pointer (some ⟨b,off',none⟩))) w:=by
 simp only[<-he,execOp,ho,hx,Instr.fieldAt,Sem.run_bind,av ht,Result.andThen_ok,hf,Instr.sureAddr,fieldPlace,bl hn,hk,Qr,Sem.run_pure,aC]
theorem OneG.drew (hE:EnvOK E) (h:OneG E n B st a w g ob lg):OneG E n B st a {w with drawn:=w.drawn+1} g ob lg:=by obtain⟨m,O,q1,q2,q3,q4,q5,q6,q7,q8,q9⟩:=h;have hb:Below w.heap.size w {w with drawn:=w.drawn+1}:=⟨rfl,rfl,rfl,PB _,fun _ _=>rfl⟩;have hs:Step (fun _=>False) m w m {w with drawn:=w.drawn+1}:=Step.of_below hb (fun _ _=>rfl);have hJ:E.J {w with drawn:=w.drawn+1}:=hE.keep [] _ _ (fun x hx=>by cases hx) q1.J (hs.bel (fun k _ e=>e.elim));exact⟨m,O,q1.other hs (fun _ _ h=>h) hJ,q2,q3.next hs (fun _ _ h=>h.elim),⟨q4.nd,q4.is⟩,B.Kn.mono _ _ _ _ q5 hs.ext,q6,q7,q8,q9⟩
def dh (ops:List Oper) (L k:Nat):Bool:=(List.range ops.length).any fun i=>L.testBit i&&match ops[i]? with|some o=>o.dst==some k|none=>false
variable {ops:List Oper} {L:Nat}
theorem vT {i:Nat} (hi:ops[i]?=some o):dh ops (L|||2^i) k=(dh ops L k||(o.dst==some k)):=by
 have hlt:=(PE.1 hi).1;rw[RL];unfold dh;simp only[QO,Q2,Qg,PG,Rv,Rh,Qa];constructor
 . rintro⟨j,hj,h1|h1,h2⟩
   . exact .inl ⟨j,hj,h1,h2⟩
   . subst h1;rw[hi] at h2;exact .inr h2
 . rintro(⟨j,hj,h1,h2⟩|h)
   . exact⟨j,hj,.inl h1,h2⟩
   . exact⟨i,hlt,.inr rfl,by rw[hi];exact h⟩
end
def HoldH (E:Env) (n:Nat) (B:Hb) (H:Nat->Option Obj) (st:St) (a:Act) (w:World):Prop:=
 ∃m O,Now E n [] O m st a w∧(∀g ob,H g=some ob-> ¬O g∧w.heap[g]?=some ob∧m g=some 0∧B.ws.heap.size<=g∧E.K<=g)∧(∀k,O k->B.ws.heap.size<=k)∧Step (fun _=>False) B.ms B.ws m w∧B.Kn.P m w∧KeepT B.W B.t0 a.tmps
section
variable {E:Env} {n sz:Nat} {B:Hb} {H H':Nat->Option Obj} {m m':Lim} {w w':World} {st:St} {a:Act} {O:Nat->Prop} {r:Option Nat}
theorem HoldH.of (h:Hold E n sz B [] st a w):HoldH E n B (fun _=>none) st a w:=by obtain⟨m,O,gs,h1,h2,h3,h4,h5,h6,h7⟩:=h;exact⟨m,O,h1,fun g ob e=>(by cases e),h4,h5,h6,h7⟩
variable {st':St}
theorem HoldH.le (h:HoldH E n B H st a w) (hl:Le st' st):HoldH E n B H st' a w:=by obtain⟨m,O,h1,h2⟩:=h;exact⟨m,O,h1.le hl,h2⟩
theorem HoldH.at (h:HoldH E n B H st a w) {g:Nat} {ob:Obj} (hg:H g=some ob):w.heap[g]?=some ob:=by obtain⟨m,O,_,h2,_⟩:=h;exact(h2 g ob hg).2.1
theorem HoldH.low (h:HoldH E n B H st a w) {g:Nat} {ob:Obj} (hg:H g=some ob):B.ws.heap.size<=g:=by obtain⟨m,O,_,h2,_⟩:=h;exact(h2 g ob hg).2.2.2.1
theorem HoldH.kept (h:HoldH E n B H st a w) {i:Nat} (hi:B.W i=false):a.tmps.getD i Go.undef=B.t0.getD i Go.undef:=by obtain⟨m,O,_,_,_,_,_,h7⟩:=h;exact h7 i hi
theorem HoldH.frame (h:HoldH E n B H st a w) (W':Nat->Bool):HoldH E n {B with W:=W',t0:=a.tmps} H st a w:=by obtain⟨m,O,h1,h2,h3,h4,h5,_⟩:=h;exact⟨m,O,h1,h2,h3,h4,h5,KeepT.refl _ _⟩
variable {a':Act}
theorem HoldH.grown (h2:∀g ob,H g=some ob-> ¬O g∧w.heap[g]?=some ob∧m g=some 0∧B.ws.heap.size<=g∧E.K<=g) (h4:∀k,O k->B.ws.heap.size<=k) (h5:Step (fun _=>False) B.ms B.ws m w) (h6:B.Kn.P m w) (hkt:KeepT B.W B.t0 a'.tmps)
 (hn:Now E n [] (oT O w w') m' st' a' w') (hs:Step O m w m' w'):HoldH E n B H st' a' w':=by
 refine⟨m',_,hn,fun g ob hg=>?_,fun k hg=>?_,h5.next hs (fun i hi ho=>absurd hi (Qw.2 (h4 i ho))),B.Kn.mono _ _ _ _ h6 hs.ext,hkt⟩
 . obtain⟨q1,q2,q3,q4,q5⟩:=h2 g ob hg;obtain⟨s1,s2⟩:=hs.same g (al q2) q1;refine⟨fun hgr=>?_,s1.trans q2,s2.trans q3,q4,q5⟩;rcases hgr.2 with ho|ho
   . exact q1 ho
   . exact absurd (al q2) (Qw.2 ho)
 . rcases hg.2 with ho|ho
   . exact h4 k ho
   . exact tl h5.ext.size ho
theorem HoldH.put {d:Tmp} (hd:d<n) (hWd:B.W d=true) (h:HoldH E n B H st a w) {v:Value} {u:V} (hv:∀m,B.Kn.P m w->Rd m w v u):HoldH E n B H (st.put (some d) u.bare) (a.put (some d) v) w:=by obtain⟨m,O,q1,q2,q4,q5,q6,q7⟩:=h;exact⟨m,O,q1.put hd (hv m q6),q2,q4,q5,q6,q7.put (fun k e=>by cases e;exact hWd)⟩
theorem HoldH.wrote (hE:EnvOK E) (h:HoldH E n B H st a w) (hos:w'.os=w.os) (htp:w'.tape=w.tape) (hou:w'.output=w.output) (hsz:w.heap.size<=w'.heap.size) (hb:∀k,k<w.heap.size->H k=none->w'.heap[k]?=w.heap[k]?) (hH:∀g ob,H' g=some ob->w'.heap[g]?=some ob∧(H g≠none∨w.heap.size<=g)):HoldH E n B H' st a w':=by
 obtain⟨m,O,q1,q2,q4,q5,q6,q7⟩:=h;have hne:∀k,O k->H k=none:=fun k hk=>by
  cases e:H k with
  |none=>rfl
  |some ob=>exact absurd hk (q2 k ob e).1
 have hs:Step (fun k=>H k≠none) m w (fun j=>if w.heap.size<=j then some 0 else m j) w':=by
  refine⟨hos,htp,hou,⟨hsz,fun b off v hlt hm hc=>?_,fun b hlt fr' hf=>?_,fun b es c hm hc=>?_⟩,fun k hk hn=>⟨hb k hk (by simpa using hn),PS (Q7.2 hk)⟩⟩
  . cases e:H b with
    |none=>rw[aT (hb b hlt e)];exact hc
    |some ob=>exact absurd (hm 0 (q2 b ob e).2.2.1) (Ro _)
  . rw[PS (Q7.2 hlt)] at hf;exact⟨fr',hf,PB _⟩
  . cases e:H b with
    |none=>rw[hb b (du hc) e];exact hc
    |some ob=>rw[(q2 b ob e).2.2.1] at hm;cases hm
 have hJ:E.J w':=hE.keep ((List.range w.heap.size).filter fun k=>(H k).isSome) _ _ (fun x hx=>by
  obtain⟨ob,e⟩:=Sd.1 (QB.1 hx).2
  exact(q2 x ob e).2.2.2.2) q1.J (hs.bel (fun k hk e=>QB.2 ⟨Qg.2 hk,by cases e':H k with
   |none=>exact absurd e' e
   |some _=>rfl⟩))
 have hK:E.K<=w.heap.size:=hE.high _ q1.J;refine⟨_,O,q1.other hs (fun k hk e=>e (hne k hk)) hJ,fun g ob hg=>?_,q4,q5.next hs (fun i hi e=>?_),B.Kn.mono _ _ _ _ q6 hs.ext,q7⟩
 . obtain⟨h1,h2⟩:=hH g ob hg;rcases h2 with h2|h2
   . cases e:H g with
     |none=>exact absurd e h2
     |some ob'=>obtain⟨s1,s2,s3,s4,s5⟩:=q2 g ob' e;exact⟨s1,h1,by rw[PS (Q7.2 (al s2))];exact s3,s4,s5⟩
   . exact⟨fun ho=>absurd (q1.lt g ho) (Qw.2 h2),h1,PO h2,tl q5.ext.size h2,tl hK h2⟩
 . cases e':H i with
   |none=>exact absurd e' e
   |some ob=>exact absurd hi (Qw.2 (q2 i ob e').2.2.2.1)
theorem HoldH.done (h:HoldH E n B H st a w) {v:Value} {u:V} (hv:∀m,(∀g,H g≠none->m g=none)->B.Kn.P m w->Rd m w v u):Hold E n sz {B with Kn:=Kno.rd v u} [] st a w:=by
 obtain⟨m,O,q1,q2,q4,q5,q6,q7⟩:=h;have hne:∀k,O k->H k=none:=fun k hk=>by
  cases e:H k with
  |none=>rfl
  |some ob=>exact absurd hk (q2 k ob e).1
 have hs:Step (fun k=>H k≠none) m w (fun j=>if H j=none then m j else none) w:=by
  refine⟨rfl,rfl,rfl,⟨PB _,fun b off v hlt hm hc=>hc,fun b hlt fr' hf=>?_,fun b es c hm hc=>hc⟩,fun k hk hn=>⟨rfl,PO (by simpa using hn)⟩⟩;split at hf
  . exact⟨fr',hf,PB _⟩
  . cases hf
 refine⟨_,O,[],q1.other hs (fun k hk e=>e (hne k hk)) q1.J,.nil,fun _ h=>(by cases h),q4,q5.next hs (fun i hi e=>?_),hv _ (fun g hg=>PS hg) (B.Kn.mono _ _ _ _ q6 hs.ext),q7⟩;cases e':H i with
 |none=>exact absurd e' e
 |some ob=>exact absurd hi (Qw.2 (q2 i ob e').2.2.2.1)
theorem HoldH.drew (hE:EnvOK E) (h:HoldH E n B H st a w):HoldH E n B H st a {w with drawn:=w.drawn+1}:=
 h.wrote hE rfl rfl rfl (PB _) (fun _ _ _=>rfl) (fun g ob e=>⟨h.at e,.inl (by rw[e];exact fun h=>by cases h)⟩)
end
section
variable {P:Program} {m:Lim} {w:World} {ρ:Operand->Value} {o:Oper}
theorem Bx {x:Operand} {p:Addr} (ho:o.op= .nilCheck x) (hx:ρ x= .pointer (some p)):(execOp ρ o).run P w= .ok (.value (.pointer (some p))) w:=by simp[execOp,ho,hx]
variable {t el:TypeId}
theorem By {x:Operand} {a:Option Addr} {len cap:Nat} (ho:o.op= .call {callee:= .builtin .len,args:= #[x],argTypes:= #[t]}) (hu:P.underlying t=some (.slice el)) (hx:ρ x= .slice a len cap):(execOp ρ o).run P w= .ok (.value (.int .i64 (len:Int))) w:=by simp[execOp,ho,resolve,invoke,builtin,Builtin.len_,hx,av hu,goInt]
theorem Bz {x:Operand} (ho:o.op= .box t x):(execOp ρ o).run P w= .ok (.value (.pointer (some ⟨w.heap.size,0,none⟩))) (w.alloc (.cells (ρ x).cells t)):=by simp only[execOp,ho,Instr.box,Sem.run_bind,Result.andThen_ok,newVar,newRow,run_newObj,Sem.run_pure];rfl
theorem BA (ho:o.op= .makeMap t none):(execOp ρ o).run P w= .ok (.value (.map (some w.heap.size))) (w.alloc (.map #[] 0)):=by simp only[execOp,ho,QR,Sem.run_bind,Sem.run_pure,Result.andThen_ok,Instr.makeMap,run_newObj];rfl
variable {zv:Value}
theorem yg {x y:Operand} {i:TypeInfo} {k:IntKind} {l:Int} (ho:o.op= .makeSlice t x y) (hu:P.underlying t=some (.slice el)) (hi:P.info? el=some i) (hz:i.zero=some zv) (hx:ρ x= .int k l) (hy:ρ y= .int k l) (h0:0<=l) (hb:(i.bytes:Int)*l<=281474976710656) (hm:l<=9223372036854775807):
 (execOp ρ o).run P w= .ok (.value (.slice (some ⟨w.heap.size,0,none⟩) l.toNat l.toNat)) (w.alloc (.cells (madeCells zv.cells (l.toNat*i.size)) el)):=by
 have hrun:=run_make (P:=P) w t el i zv hu hi hz k k l l h0 (Int.le_refl _) hb hm;simp only[execOp,ho,Sem.run_bind,hx,hy,hrun,Result.andThen_ok,Sem.run_pure]
def blkOf:Value->Option Nat
 | .slice (some a) _ _=>some a.block
 |_=>none
def RowI (H:Nat->Option Obj) (v:Value) (es:List Int):Prop:=
 (es=[]∧v= .slice none 0 0)∨∃(g cap:Nat) (cur:Array Value) (ty:TypeId),es≠[]∧v= .slice (some ⟨g,0,none⟩) es.length cap∧H g=some (.cells cur ty (0,0))∧es.length<=cap∧cur.size=cap∧∀j:Nat,∀i:Int,es[j]?=some i->cur[j]?=some (.int .i64 i)
def RowJ (H:Nat->Option Obj) (v:Value) (es:List Int):Prop:=
 (es=[]∧v= .slice none 0 0)∨∃(g cap:Nat) (cur:Array Value) (ty:TypeId),v= .slice (some ⟨g,0,none⟩) es.length cap∧H g=some (.cells cur ty (0,0))∧es.length<=cap∧cur.size=cap∧∀j:Nat,∀i:Int,es[j]?=some i->cur[j]?=some (.int .i64 i)
variable {H:Nat->Option Obj} {v:Value} {es:List Int}
theorem RowI.j (h:RowI H v es):RowJ H v es:=h.imp id fun⟨g,cap,cur,ty,_,h⟩=>⟨g,cap,cur,ty,h⟩
theorem RowJ.i (h:RowJ H v es) (hne:es≠[]):RowI H v es:=h.imp id fun⟨g,cap,cur,ty,h⟩=>⟨g,cap,cur,ty,hne,h⟩
theorem BB {ty:TypeId} {i:TypeInfo} (hu:P.underlying t=some (.slice el)) (hi:P.info? el=some i) (hs:i.size=1) (hz:i.zero=some zv) (hzv:zv.cells.size=1) (hby:i.bytes=8) {H:Nat->Option Obj} {v y:Value} {es:List Int} {x:Int} (hr:RowJ H v es) (hw:∀g ob,H g=some ob->w.heap[g]?=some ob) (hy:Rd m w y (.sl false 1 [.x (.int .i64 x)] none)) (hlen:es.length+1<=100000000):
 ∃(v':Value) (w':World) (g:Nat) (ob:Obj),(Builtin.append_ #[t,t] ty #[v,y]).run P w= .ok v' w'∧w'.os=w.os∧w'.tape=w.tape∧w'.output=w.output∧w.heap.size<=w'.heap.size∧blkOf v'=some g∧w'.heap[g]?=some ob∧(∀k,k<w.heap.size->k≠g->w'.heap[k]?=w.heap[k]?)∧(blkOf v=some g∨w.heap.size<=g)∧∀H',H' g=some ob->RowJ H' v' (es++[x]):=by
 obtain⟨cs,hS⟩:=zD (P:=P) (t:=t) (el:=el) hu hi hy (.inl hs.symm);have hflat:=hS.flat;have hcs:cs=[.int .i64 x]:=by
  have hl:=hflat.len;simp only[P5,Qk,hs] at hl
  match cs,hl with
  |[c],_=>obtain⟨c',hc,hr⟩:=(hflat.each 0 _ rfl).2 0 _ rfl;simp only[Q4,Qn] at hc;cases hc;rw[Rd.x_iff.1 hr]
 subst hcs;have hsnoc:∀(l:List Value),l.length=es.length->(∀(j:Nat) (n:Int),es[j]?=some n->l[j]?=some (.int .i64 n))->∀(r:List Value) (j:Nat) (n:Int),(es++[x])[j]?=some n->(l++[.int .i64 x]++r)[j]?=some (.int .i64 n):=fun l hl h r j n hj=>by
  by_cases hlt:j<es.length
  . rw[PT hlt] at hj;rw[QK,PT (by omega)];exact h j n hj
  . rw[P6 (by omega)] at hj;have e:j=es.length:=by have:=(PE.1 hj).1;simp at this;omega
    subst e;rw[RZ] at hj;cases hj;rw[QK,P6 (by omega),hl,RZ];rfl
 rcases hr with⟨rfl,rfl⟩|⟨g,cap,cur,tyc,rfl,hg,hcap,hsz,hc⟩
 . have hrun:=hS.nil (by simp) ty zv hz (by simp) (by simp) (by rw[hby];simp);have hge:=grownCap_ge w [V.x (.int .i64 x)].length 0 el;simp only[P5,Qk,Qn] at hrun hge;refine⟨_,_,w.heap.size,_,hrun,rfl,rfl,rfl,?_,rfl,World.heap_new w.drew _,fun k hk _=>Below.heap_alloc w.drew _ k hk,.inr (PB _),fun H' h'=>?_⟩
   . exact Sp (al (World.heap_new w.drew _))
   . refine .inr ⟨_,_,_,_,rfl,h',by simpa using hge,?_,fun j n hj=>?_⟩
     . simp only[Rj,size_zeroCells,hzv,QC,P5,Qk];omega
     . have:=hsnoc [] rfl (fun j n hj=>by simp at hj) (Builtin.zeroCells zv.cells (grownCap w 1 0 el-1)).toList j n hj;rw[<-PN];simpa using this
 . have hh:=hw g _ hg;have hlt:=al hh;have hold:∀(j:Nat) (n:Int),es[j]?=some n->(cur.toList.take es.length)[j]?=some (.int .i64 n):=fun j n hj=>by rw[P9,PO (PE.1 hj).1,PN];exact hc j n hj
   have holdl:(cur.toList.take es.length).length=es.length:=by rw[P8];exact RN (by rw[show cur.toList.length=cur.size from PR];omega)
   by_cases hroom:es.length+1<=cap
   . have hrun:=hS.room ty g es.length cap cur (.plain tyc) hh (fun u hu=>by rw[PQ.1 hu];rfl) hroom (by simp only[hs,RX,P5,Qk];omega);refine⟨_,_,g,_,hrun,rfl,rfl,rfl,by simp,rfl,setRow_heap w g cur _ tyc (0,0) hh,fun k _ hk=>setRow_other w g k _ hk,.inl rfl,fun H' h'=>?_⟩;refine .inr ⟨_,_,_,_,by rw[PP];rfl,h',by rw[PP];exact hroom,?_,fun j n hj=>?_⟩
     . simp only[hs,QC,PP,P8,Q1,PR,P5,Qk];omega
     . have:=hsnoc _ holdl hold (cur.toList.drop (es.length+1)) j n hj;rw[RG];simpa[hs] using this
   . have hrun:=hS.grow (by simp) ty zv ⟨g,0,none⟩ es.length cap (cur.toList.take es.length) hz (by rw[holdl,hs,RX]) (fun j u hj=>by
      rw[aC,Qn,Box.cell hh];rw[P9] at hj;split at hj
      . rwa [PN] at hj
      . cases hj) (by simp;omega) (by simp;omega) (growslice_fits (by simp;omega) (by rw[hby];simp;omega))
     simp only[P5,Qk,Qn] at hrun;have hge:=grownCap_ge w (es.length+1) cap el;refine⟨_,_,w.heap.size,_,hrun,rfl,rfl,rfl,?_,rfl,World.heap_new w.drew _,fun k hk _=>Below.heap_alloc w.drew _ k hk,.inr (PB _),fun H' h'=>?_⟩
     . exact Sp (al (World.heap_new w.drew _))
     . refine .inr ⟨_,_,_,_,by rw[PP];rfl,h',by rw[PP];exact hge,?_,fun j n hj=>?_⟩
       . simp only[Rj,size_zeroCells,hzv,QC,P5,Qk,holdl];omega
       . have:=hsnoc _ holdl hold (Builtin.zeroCells zv.cells (grownCap w (es.length+1) cap el-(es.length+1))).toList j n hj;rw[<-PN];simpa using this
end
section
variable {H:Nat->Option Obj} {vs:List Value} {ess:List (List Int)} {X:List Nat}
variable {v:Value} {es:List Int}
theorem RowI.blk (h:RowI H v es) {g:Nat} (hb:blkOf v=some g):H g≠none:=by
 rcases h with⟨_,rfl⟩|⟨g',cap,cur,ty,_,rfl,hg,_⟩
 . cases hb
 . cases hb;show H g'≠none;rw[hg];exact fun h=>by cases h
theorem RowI.other (h:RowI H v es) {g:Nat} {o:Option Obj} (hne:blkOf v≠some g):RowI (aw H g o) v es:=by
 rcases h with h|⟨g',cap,cur,ty,h0,rfl,hg,h1⟩
 . exact .inl h
 . refine .inr ⟨g',cap,cur,ty,h0,rfl,?_,h1⟩;rw[ae _ _ (fun e=>hne (by rw[<-e];rfl))];exact hg
structure Piles (H:Nat->Option Obj) (vs:List Value) (ess:List (List Int)) (X:List Nat):Prop where
 len:vs.length=ess.length
 row:∀(i:Nat) (v:Value) (es:List Int),vs[i]?=some v->ess[i]?=some es->RowI H v es
 sep:∀(i j:Nat) (v v':Value) (g:Nat),i≠j->vs[i]?=some v->vs[j]?=some v'->blkOf v=some g->blkOf v'≠some g
 out:∀(i:Nat) (v:Value) (g:Nat),vs[i]?=some v->blkOf v=some g->g∉X
theorem Piles.set (h:Piles H vs ess X) {i:Nat} {v v':Value} {es':List Int} {g:Nat} {ob:Obj} (hi:vs[i]?=some v) (hX:∀x∈X,H x≠none) (hb:blkOf v'=some g) (hg:blkOf v=some g∨H g=none) (hr:RowI (aw H g (some ob)) v' es'):Piles (aw H g (some ob)) (vs.set i v') (ess.set i es') X:=by
 have hil:=(PE.1 hi).1;have hgn:∀j u,j≠i->vs[j]?=some u->blkOf u≠some g:=fun j u hj hu e=>by
  rcases hg with hg|hg
  . exact h.sep i j v u g (QT hj) hi hu hg e
  . have hjl:=(PE.1 hu).1;obtain⟨e0,he0⟩:∃e0,ess[j]?=some e0:=⟨_,Io (by rw[<-h.len];exact hjl)⟩;exact(h.row j u e0 hu he0).blk e hg
 have hv:∀j u,(vs.set i v')[j]?=some u->(j=i∧u=v')∨(j≠i∧vs[j]?=some u):=fun j u hu=>by
  by_cases e:j=i
  . subst e;rw[Sm hil] at hu;cases hu;exact .inl ⟨rfl,rfl⟩
  . rw[List.getElem?_set_ne (QT e)] at hu;exact .inr ⟨e,hu⟩
 refine⟨by rw[RW,RW];exact h.len,fun j u e hu he=>?_,fun j k u u' b hjk hu hu' hb1 hb2=>?_,fun j u b hu hbu=>?_⟩
 . rcases hv j u hu with⟨rfl,rfl⟩|⟨hj,hu⟩
   . rw[Sm (by rw[<-h.len];exact hil)] at he;cases he;exact hr
   . rw[List.getElem?_set_ne (QT hj)] at he;exact(h.row j u e hu he).other (hgn j u hj hu)
 . rcases hv j u hu with⟨rfl,rfl⟩|⟨hj,hu2⟩
   . rw[hb] at hb1;cases hb1;rcases hv k u' hu' with⟨rfl,rfl⟩|⟨hk,hu3⟩
     . exact hjk rfl
     . exact hgn k u' hk hu3 hb2
   . rcases hv k u' hu' with⟨rfl,rfl⟩|⟨hk,hu3⟩
     . rw[hb] at hb2;cases hb2;exact hgn j u hj hu2 hb1
     . exact h.sep j k u u' b hjk hu2 hu3 hb1 hb2
 . rcases hv j u hu with⟨rfl,rfl⟩|⟨hj,hu2⟩
   . rw[hb] at hbu;cases hbu;rcases hg with hg|hg
     . exact h.out _ v _ hi hg
     . exact fun hx=>hX _ hx hg
   . exact h.out j u b hu2 hbu
theorem Piles.other (h:Piles H vs ess X) {x:Nat} {o:Option Obj} (hx:x∈X):Piles (aw H x o) vs ess X:=
 ⟨h.len,fun i v es hi he=>(h.row i v es hi he).other (fun e=>h.out i v x hi e hx),h.sep,h.out⟩
end
def qU (ops:List Oper):Bool:=(List.range ops.length).all fun i=>match ops[i]? with|some o=>(directV o).all (fun k=>decide (k<i))|none=>true
def ClosedM (ops:List Oper) (L:Nat):Prop:=∀j o,ops[j]?=some o->L.testBit j=true->∀k∈directV o,L.testBit k=true
variable {ops:List Oper} {L:Nat} {o:Oper}
theorem nP {i:Nat} (ho:ops[i]?=some o) (hr:bZ ops L i=true):L.testBit i=false∧∀k∈directV o,L.testBit k=true:=by unfold bZ at hr;rw[ho,PG,Qx] at hr;exact⟨hr.1,PJ.1 hr.2⟩
theorem ClosedM.next {i:Nat} (h:ClosedM ops L) (ho:ops[i]?=some o) (hr:bZ ops L i=true):ClosedM ops (L|||2^i):=by
 intro j o' ho' hj k hk;rw[Rv,Rh,QO,Qa] at hj⊢;rcases hj with hj|rfl
 . exact .inl (h j o' ho' hj k hk)
 . rw[ho] at ho';cases ho';exact .inl ((nP ho hr).2 k hk)
theorem BC {P:Program} {r:Option Nat} {a:Act} {w:World} {Q:Exit->Act->World->Prop} (hm:P.follows .mixedOrders=true) (hok:qU ops=true) (J:Nat->Act->World->Prop)
 (hstep:∀(L i:Nat) (o:Oper) (a:Act) (w:World) (K:Act->World->Prop),ops[i]?=some o->bZ ops L i=true->ClosedM ops L->J L a w->(∀a' w',J (L|||2^i) a' w'->K a' w')->wpOpIn (fK r) 0 P ⟨ops⟩ Q i K a w) (hQ:∀a w,J (2^ops.length-1) a w->Q .normal a w) {id:Nat} (h0:J 0 a {w with drawn:=w.drawn+1}):(Code.region id ⟨ops⟩ true).wpIn (fK r) 0 P Q a w:=by
 refine wpIn_region_any hm ?_;have hready:∀(L:Nat) (Ls:List Nat) (listed:Array Bool),listed.size=ops.length->(∀i,(listed.getD i false=true↔i∈Ls))->(∀i,i∈Ls↔L.testBit i=true)->∀i,i∈Region.ready .any ⟨ops⟩ listed↔i<ops.length∧bZ ops L i=true:=by
  intro L Ls listed hsz hag hbit i;have hb:∀k,listed.getD k false=true↔L.testBit k=true:=fun k=>(hag k).trans (hbit k)
  rw[cm];constructor
  . rintro⟨h1,o,h2,h3⟩;have h2:ops[i]?=some o:=by simpa using h2
    have hlt:=aM h2;refine⟨hlt,?_⟩;rw[bV (ops:=⟨ops⟩) hsz hlt] at h1;have hn:L.testBit i=false:=by
     cases hb':L.testBit i with
     |false=>rfl
     |true=>rw[(hb i).2 hb'] at h1;cases h1
    simp only[bZ,hn,RJ,Ru,h2,PJ];exact fun k hk=>(hb k).1 (h3 k hk)
  . rintro⟨hlt,hr⟩;simp only[bZ,PG,Qx] at hr;obtain⟨hn,hd⟩:=hr;split at hd
    case h_2=>cases hd
    rename_i o ho;refine⟨?_,o,by simpa using ho,fun k hk=>(hb k).2 (PJ.1 hd k hk)⟩;rw[bV (ops:=⟨ops⟩) hsz hlt];cases hg:listed.getD i false with
    |false=>rfl
    |true=>rw[(hb i).1 hg] at hn;cases hn
 have hSL:∀L,L<2^ops.length->(L=2^ops.length-1∨∃i,i<ops.length∧bZ ops L i=true):=by
  intro L hL;by_cases hall:∀i,i<ops.length->L.testBit i=true
  . refine .inl (Nat.eq_of_testBit_eq fun i=>?_);rw[Nat.testBit_two_pow_sub_one];by_cases hi:i<ops.length
    . rw[hall i hi];simp[hi]
    . rw[Nat.testBit_lt_two_pow (Qf hL (Nat.pow_le_pow_right (by decide) (by omega)))];simp[hi]
  . have hex:∃i,i<ops.length∧L.testBit i=false:=by
     apply QH;intro hno;refine hall (fun i hi=>?_);cases hb:L.testBit i with
     |true=>rfl
     |false=>exact absurd ⟨i,hi,hb⟩ hno
    obtain⟨i0,hi0,hb0⟩:=hex;obtain⟨i,⟨hi,hb⟩,hmin⟩:=vO (fun i=>i<ops.length∧L.testBit i=false) i0 ⟨hi0,hb0⟩;refine .inr ⟨i,hi,?_⟩;have ho:ops[i]?=some ops[i]:=Io hi;unfold bZ;rw[ho,hb];simp only[RJ,Ru,PJ];intro k hk;have htk:=PJ.1 hok i (Qg.2 hi);rw[ho] at htk;have hki:k<i:=QA (PJ.1 htk k hk);cases hbk:L.testBit k with
    |true=>rfl
    |false=>have:=hmin k ⟨by omega,hbk⟩;omega
 have key:∀(fuel L:Nat) (Ls:List Nat) (listed:Array Bool) (a:Act) (w:World),L<2^ops.length->ClosedM ops L->listed.size=ops.length->(∀i,(listed.getD i false=true↔i∈Ls))->(∀i,i∈Ls↔L.testBit i=true)->
  ((List.range ops.length).filter fun j=> !Ls.contains j).length<=fuel->J L a w->wpAnyIn (fK r) 0 P .any ⟨ops⟩ Q fuel listed a w:=by
  intro fuel
  induction fuel with
  | zero=>
    intro L Ls listed a w hL hcl hsz hag hbit hrem h;have hno:∀i,i<ops.length->i∈Ls:=fun i hi=>by
     have h0:((List.range ops.length).filter fun j=> !Ls.contains j)=[]:=Qu.1 (PV.1 hrem);by_cases hm:i∈Ls
     . exact hm
     . have:i∈((List.range ops.length).filter fun j=> !Ls.contains j):=QB.2 ⟨Qg.2 hi,by simpa using hm⟩;rw[h0] at this;cases this
    have hnr:∀i,i<ops.length->bZ ops L i=false:=fun i hi=>by simp[bZ,(hbit i).1 (hno i hi)]
    have hfull:L=2^ops.length-1:=by
     rcases hSL L hL with h1|⟨i,hi,hr⟩
     . exact h1
     . rw[hnr i hi] at hr;cases hr
    refine⟨?_,hQ a w (hfull▸h)⟩;rw[Rw];intro i hi;obtain⟨h1,h2⟩:=(hready L Ls listed hsz hag hbit i).1 hi;rw[hnr i h1] at h2;cases h2
  | succ f ih=>
    intro L Ls listed a w hL hcl hsz hag hbit hrem h;refine⟨fun hr=>?_,fun i hi=>?_⟩
    . have hfull:L=2^ops.length-1:=by
       rcases hSL L hL with h1|⟨i,hi,hr'⟩
       . exact h1
       . have:=(hready L Ls listed hsz hag hbit i).2 ⟨hi,hr'⟩;rw[hr] at this;cases this
      exact hQ a w (hfull▸h)
    . obtain⟨hlt,hr⟩:=(hready L Ls listed hsz hag hbit i).1 hi;have ho:ops[i]?=some ops[i]:=Io hlt;have hn:i∉Ls:=fun hm=>by simp only[bZ,(hbit i).1 hm,Rg,Bool.false_and] at hr;cases hr
      refine hstep L i ops[i] a w (fun a' w'=>wpAnyIn (fK r) 0 P .any ⟨ops⟩ Q f (listed.setIfInBounds i true) a' w') ho hr hcl h (fun a' w' h'=>by
       refine ih (L|||2^i) (i::Ls) _ a' w' (Nat.or_lt_two_pow hL (Nat.pow_lt_pow_right (by decide) hlt)) (hcl.next ho hr) (by simpa using hsz) (fun j=>?_) (fun j=>?_) (by have:=gY hlt hn;omega) h'
       . by_cases e:j=i
         . subst e;rw[dq (by omega)];simp
         . rw[getD_set_ne _ (QT e),hag j];simp[e]
       . rw[Rv,Rh,QO,<-hbit j,PY,Qa];constructor
         . rintro(rfl|h)
           . exact .inr rfl
           . exact .inl h
         . rintro(h|rfl)
           . exact .inr h
           . exact .inl rfl)
 refine key _ 0 [] _ a _ (Nat.pow_pos (by decide)) (fun j o _ h=>by simp at h) (by simp) (fun i=>?_) (fun i=>by simp) ?_ h0
 . simp only[P0,Rk];split<;>simp
 . exact tl (RY _ _) (by simp)
section
variable {E:Env} {n:Nat} {B:Hb} {H H':Nat->Option Obj} {w w':World} {st:St} {a:Act} {r:Option Nat}
def mR (st:St) (val:Nat->V) (ops:List Oper) (L:Nat):St:=⟨fun k=>if dh ops L k=true then val k else st.t k,st.b⟩
theorem Ko (st:St) (val:Nat->V) (ops:List Oper):mR st val ops 0=st:=by unfold mR dh;simp
variable {k:Nat}
theorem bd {val:Nat->V} (h:(ops.all fun o=>o.dst !=some k)=true):(mR st val ops L).t k=st.t k:=by
 show(if dh ops L k=true then val k else st.t k)=_;rw[PS];unfold dh;intro hd;obtain⟨i,_,hi⟩:=Q2.1 hd;rw[PG] at hi;split at hi
 . rename_i o ho;have:=PJ.1 h o (PM ho);rw[eq_of_beq hi.2] at this;simp at this
 . cases hi.2
theorem Fd {i:Nat} {val val':Nat->V} (hi:ops[i]?=some o) (hv:∀k,o.dst≠some k->val' k=val k):Le (mR st val' ops (L|||2^i)) (match o.dst with|some d=>(mR st val ops L).put (some d) (val' d)|none=>mR st val ops L):=by
 cases hd:o.dst with
 | none=>
   have e:mR st val' ops (L|||2^i)=mR st val ops L:=by unfold mR;congr 1;funext k;rw[vT hi,hd,hv k (by rw[hd];exact fun h=>by cases h)];simp
   rw[e];exact Le.refl _
 | some d=>
   refine⟨fun k=> .inr (.inl ?_),fun s cs h=>⟨cs,h,gD cs⟩⟩;show(if dh ops (L|||2^i) k=true then val' k else st.t k)=aw (mR st val ops L).t d (val' d) k;rw[vT hi,hd,aD];by_cases e:k=d
   . subst e;simp
   . have e':(some d==some k)=false:=by simpa using fun h=>e h.symm
     rw[PS e,e',Si,hv k (by rw[hd];exact fun h=>e (by cases h;rfl))];rfl
theorem lX (L:Nat) {i k:Nat} (h:i≠k):(L|||2^i).testBit k=L.testBit k:=by rw[Rv,Rh];simp[h]
theorem BD (L i:Nat):(L|||2^i).testBit i=true:=by rw[Rv,Rh];simp
def g3 (ops:List Oper) (k j:Nat):Bool:=match ops[j]? with|some o=>o.dst==some k|none=>false
end
end Go.Proofs.Ytldnpcolhdnkdaa
