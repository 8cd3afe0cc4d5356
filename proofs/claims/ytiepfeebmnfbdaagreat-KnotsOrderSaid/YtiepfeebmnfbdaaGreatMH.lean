/- MH -/
import Derived.Test.YtiepfeebmnfbdaaGreatMU
import Derived.WideLaws
namespace Go.Proofs.YtiepfeebmnfbdaaGreat
set_option linter.unusedSimpArgs false
open Go Go.RowKit
theorem XA{P:Prop}(h:P:=by obtain⟨rfl,h1,h2⟩:=hK;cases e<;>simp only[eL,adO,reduceCtorEq,Out.exit.injEq] at ho;subst ho;exact hQ _ _ (ht.le (aK h1 h2))):P:=h
theorem Wz{P:Prop}(h:P:=by cases e<;>simp only[eL,adO,reduceCtorEq] at ho;exact hQ _ _ (ht.le (aK hK.1 hK.2))):P:=h
theorem Wy{P:Prop}(h:P:=by simp only[execOp,ho,hx,hy,Instr.storeAt,Instr.sureAddr,storeVar,Gc,Gd,Ge,bN hs,hv];rw[adq A0k];rw[hst];rfl):P:=h
theorem Wx{P:Prop}(h:P:=by refine⟨?_,hQ a w (hfull▸h)⟩;rw[ae7];intro i hi;obtain⟨h1,h2⟩:=(hready L Ls listed hsz hag hbit i).1 hi;rw[hnr i h1] at h2;cases h2):P:=h
theorem Ww{P:Prop}(h:P:=by have:i∈((List.range ops.length).filter fun j=> !Ls.contains j):=adZ.2 ⟨adU.2 hi,by simpa using hm⟩;rw[h0] at this;cases this):P:=h
theorem Wv{P:Prop}(h:P:=by rw[ht'] at hi;split at hi<;>cases hi):P:=h
theorem Wu{P:Prop}(h:P:=by have:=(hready L Ls listed hsz hag hbit i).2 ⟨hi,hr'⟩;rw[hr] at this;cases this):P:=h
structure Loose (K:Nat) (sz:Nat) (m:Lim) (w:World) (v:Value) (es:U) (g:Nat):Prop where
 box:BoxAt m w g (es.flatMap V.cells)
 low:K<=g
 is:∃(cap:Nat) (cur:Array Value) (ty:TyAt cur.size),v= .s g es.length cap∧w.heap[g]?=some (.cells cur ty.ty ty.fz)∧es.length<=cap∧cur.size=cap*sz
inductive Bed (K:Nat) (sz:Nat) (m:Lim) (w:World):List (Value×U)->List Nat->Prop
 |nil:Bed K sz m w [] []
 |no {l:List (Value×U)} {gs:List Nat} (h:Bed K sz m w l gs):Bed K sz m w ((.slice none 0 0,[])::l) gs
 |row {v:Value} {es:U} {g:Nat} {l:List (Value×U)} {gs:List Nat} (hne:es≠[]) (h1:Loose K sz m w v es g) (h2:g∉gs) (h:Bed K sz m w l gs):Bed K sz m w ((v,es)::l) (g::gs)
section
variable{E:Env}{n sz:Nat}{D:List Deferred}{m m' ms:Lim}{ws w w':World}{st:St}{a:Act}{O S:Nat->Prop}{r:Option Nat}
variable{v:Value}{es:U}{g:Nat}
theorem Loose.lt{K:Nat}(h:Loose K sz m w v es g):g<w.heap.size:=by obtain⟨_,_,_,_,hh,_⟩:=h.is;exact ag hh
theorem BoxAt.stab{cs:U}(h:BoxAt m w g cs)(hs:Step S m w m' w')(hS: ¬S g):BoxAt m' w' g cs:=by obtain⟨hl,vals,ty,xs,rest,hh,hx,hr⟩:=h;obtain⟨h1,h2⟩:=hs.same g (ag hh) hS;exact⟨by rw[h2];exact hl,vals,ty,xs,rest,by rw[h1];exact hh,hx,hr.mono hs.ext⟩
theorem Loose.stab{K:Nat}(h:Loose K sz m w v es g)(hs:Step S m w m' w')(hS: ¬S g):Loose K sz m' w' v es g:=by obtain⟨h1,h2,cap,cur,ty,q1,q2,q3⟩:=h;exact⟨h1.stab hs hS,h2,cap,cur,ty,q1,by rw[(hs.same g (ag q2) hS).1];exact q2,q3⟩
variable{gs:List Nat}
theorem Bed.lt{K:Nat}{P:List (Value×U)}(h:Bed K sz m w P gs):∀g∈gs,g<w.heap.size:=by
 induction h with
 |nil=>exact fun g hg=>by cases hg
 |no _ ih=>exact ih
 | row _ h1 _ _ ih=>
   intro g hg;rcases adA.1 hg with rfl|hg
   . exact h1.lt
   . exact ih g hg
theorem Bed.stab{K:Nat}{P:List (Value×U)}(h:Bed K sz m w P gs)(hs:Step S m w m' w')(hS:∀g∈gs,¬S g):Bed K sz m' w' P gs:=by
 induction h with
 |nil=>exact .nil
 |no _ ih=>exact .no (ih hS)
 |row hne h1 h2 _ ih=>exact .row hne (h1.stab hs (hS _ (adP ..))) h2 (ih fun g hg=>hS g (adE _ hg))
theorem Now.shed(hMB:∀s,E.MB s=false)(h:Now E n D O m st a w){s:Nat}{cs:U}(hb:st.b s=some cs){st':St}(hl:Le st' st)(hbn:st'.b s=none):
 ∃ g,O g∧E.K<=g∧BoxAt m w g cs∧(∀i,st.t i= .ptr s 0->a.tmps.getD i undef= .p g)∧
   (∀i sz len,st.t i= .row s sz len->len*sz<=cs.length∧∃(cap:Nat) (cur:Array Value) (ty:TyAt cur.size),a.tmps.getD i undef= .s g len cap∧w.heap[g]?=some (.cells cur ty.ty ty.fz)∧len<=cap∧cur.size=cap*sz)∧
   Now E n D (fun k=>O k∧k≠g) m st' a w:=by
 obtain⟨⟨b,β,hr⟩,hlt⟩:=h;have hr':=hr.le hl;obtain⟨hbox,hge⟩:=hr.boxes s cs hb;have hgsz:β s<w.heap.size:=by obtain⟨_,_,_,_,_,hh,_⟩:=hbox;exact ag hh
 have hO:O (β s):=by
  rcases hge with hge|hge
  . exact absurd hgsz (ad0.2 hge)
  . exact(bv.1 hge).2
 have hin:∀x,x<w.heap.size->(w.heap.size<=x∨x∈lst O w.heap.size)->x≠β s->x∈lst (fun k=>O k∧k≠β s) w.heap.size:=fun x hx ho hne=>by
  rcases ho with ho|ho
  . exact absurd hx (ad0.2 ho)
  . exact bv.2 ⟨hx,(bv.1 ho).2,hne⟩
 refine⟨β s,hO,hr.par.2.2 _ (bv.2 ⟨hgsz,hO⟩),hbox,fun i hi=>(hi▸hr.tmps i:Rs m w β _ (.ptr s 0)).ptr,fun i sz len hi=>?_,⟨⟨b,β,⟨hr'.tmps,hr'.size,fun s' cs' hs'=>?_,hr'.inj,Bel.refl _ _,⟨hr'.par.1,hr'.par.2.1,fun x hx=>?_⟩,⟨fun _ _ _=>rfl,Ext.refl _ _,fun y hy=>hy⟩,?_,hr'.own,hr'.defers,hr'.glob,hr'.j,?_⟩⟩,fun k hk=>hlt k hk.1⟩⟩
 . obtain⟨cap0,e0,hle⟩:=(hi▸hr.tmps i:Rs m w β _ (.row s sz len)).row;obtain⟨h1,cap,cur,ty,h2,h3,h4⟩:=hr.own i s sz len cs hi hb;have e1:a.tmps.getD i undef= .slice (some ⟨β s,0,none⟩) len cap:=h2;rw[e0] at e1;cases e1;exact⟨h1,cap0,cur,ty,e0,h3,hle,h4⟩
 . obtain⟨h1,h2⟩:=hr'.boxes s' cs' hs';have hlt':β s'<w.heap.size:=by obtain⟨_,_,_,_,_,hh,_⟩:=h1;exact ag hh
   refine⟨h1,.inr (hin _ hlt' h2 fun e=>?_)⟩;obtain⟨c0,hc0,_⟩:=hl.b s' cs' hs';have:s'=s:=hr.inj s' s c0 cs hc0 hb e;rw[this,hbn] at hs';cases hs'
 . obtain⟨q1,q2,_⟩:=bv.1 hx;exact hr.par.2.2 x (bv.2 ⟨q1,q2⟩)
 . obtain⟨ρ,hrw⟩:=hr.rows;have hB:∀v sz es s',Bear E w β st' (fun i=>a.tmps.getD i undef) v (.sl false sz es (some s'))->Bear E w β st (fun i=>a.tmps.getD i undef) v (.sl false sz es (some s')):=by
    rintro v sz es s' (⟨i,h1,h2⟩|⟨k,_,_,hk,_⟩)
    . refine .inl ⟨i,?_,h2⟩;rcases hl.t i with h0|h0|⟨_,_,_,_,h0,_⟩
      . rw[h0] at h1;cases h1
      . rw[<-h0];exact h1
      . rw[h0] at h1;cases h1
    . rw[hMB] at hk;cases hk
   refine⟨ρ,fun v sz es s' hi=>?_,fun v sz es s1 v' sz' es' s2 hi hi' e=>hrw.sep _ _ _ _ _ _ _ _ (hB _ _ _ _ hi) (hB _ _ _ _ hi') e,fun v sz es s1 k c hi hk=>?_⟩
   . obtain⟨lo,lim,cap,cur,ty,hv,hh,hc,hs⟩:=hrw.row _ _ _ _ (hB _ _ _ _ hi);exact⟨.inr (hin _ (ag hh) lo fun e=>hrw.box _ _ _ _ s cs (hB _ _ _ _ hi) hb e.symm),lim,cap,cur,ty,hv,hh,hc,hs⟩
   . obtain⟨c0,hc0,_⟩:=hl.b k c hk;exact hrw.box _ _ _ _ _ _ (hB _ _ _ _ hi) hc0
 . refine⟨fun i s' ks vs hi=>?_,hr'.maps.inj⟩;obtain⟨h1,h2⟩:=hr'.maps.holds i s' ks vs hi;obtain⟨ents,clock,hh,hrest⟩:=h1;refine⟨⟨ents,clock,hh,hrest⟩,.inr (hin _ (ag hh) h2 fun e=>?_)⟩;obtain⟨_,vals,ty,xs,rest,hh',_⟩:=hbox;rw[e,hh'] at hh;cases hh
theorem Now.learn(h:Now E n D O m st a w){d:Nat}(hd:d<n){u:V}(hv:Rd m w (a.tmps.getD d undef) u):Now E n D O m ⟨upd st.t d u.bare,st.b⟩ a w:=by
 have hz:a.tmps.size=n:=by obtain⟨_,_,hr⟩:=h.rel;exact hr.size
 have:=h.put hd hv;have e:a.put (some d) (a.tmps.getD d undef)=a:=by
  have:a.tmps.setIfInBounds d (a.tmps.getD d undef)=a.tmps:=by
   apply Array.ext_getElem?;intro i;rw[afx];split
   . rename_i e;subst e;rw[adl A0b,adC,adG A0b];rfl
   . rfl
  show({a with tmps:=_}:Act)=a;rw[this]
 rw[e] at this;exact this
theorem Step.freeze(g:Nat)(m:Lim)(w:World):Step (fun k=>k=g) m w (upd m g none) w:=by exact⟨rfl,rfl,rfl,Ext.freeze g m w,fun k _ hk=>⟨rfl,ah _ _ hk⟩⟩
structure Hb where
 Kn:Kno
 W:Nat->Bool
 t0:Array Value
 ms:Lim
 ws:World
def Hold(E:Env)(n sz:Nat)(B:Hb)(P:List (Value×U))(st:St)(a:Act)(w:World):Prop:=
 ∃m O gs,Now E n [] O m st a w∧Bed E.K sz m w P gs∧(∀g∈gs,¬O g∧B.ws.heap.size<=g)∧(∀k,O k->B.ws.heap.size<=k)∧Step (fun _=>False) B.ms B.ws m w∧B.Kn.P m w∧KeepT B.W B.t0 a.tmps
variable{B:Hb}{P:List (Value×U)}
variable{st':St}
theorem Hold.le(h:Hold E n sz B P st a w)(hl:Le st' st):Hold E n sz B P st' a w:=by obtain⟨m,O,gs,h1,h2⟩:=h;exact⟨m,O,gs,h1.le hl,h2⟩
variable{a':Act}
theorem Hold.grown(h2:Bed E.K sz m w P gs)(h3:∀g∈gs,¬O g∧B.ws.heap.size<=g)(h4:∀k,O k->B.ws.heap.size<=k)(h5:Step (fun _=>False) B.ms B.ws m w)(h6:B.Kn.P m w)(hkt:KeepT B.W B.t0 a'.tmps)
 (hn:Now E n [] (pK O w w') m' st' a' w') (hs:Step O m w m' w'):Hold E n sz B P st' a' w':=by
 refine⟨m',_,gs,hn,h2.stab hs (fun g hg=>(h3 g hg).1),fun g hg=>⟨fun hgr=>?_,(h3 g hg).2⟩,fun k hg=>?_,h5.next hs (fun i hi ho=>absurd hi (ad0.2 (h4 i ho))),B.Kn.mono _ _ _ _ h6 hs.ext,hkt⟩
 . rcases hgr.2 with ho|ho
   . exact(h3 g hg).1 ho
   . exact absurd (h2.lt g hg) (ad0.2 ho)
 . rcases hg.2 with ho|ho
   . exact h4 k ho
   . exact adJ h5.ext.size ho
theorem qt(hE:EnvOK E)(hm:E.P.follows .mixedOrders=true){c:Code}{K:Out->St->Prop}(hok:be E.any n c=true)(hW:mE B.W c=true)(h:Hold E n sz B P st a w)(hr:run E c st K):
 c.wpIn (bg r) 0 E.P (fun e a' w'=>∃o st',eL e=some o∧K o st'∧Hold E n sz B P st' a' w') a w:=by
 obtain⟨m,O,gs,h1,h2,h3,h4,h5,h6,h7⟩:=h;refine wpIn_mono (jA (r:=r) (W:=B.W) hE hm hok hW h1 hr) ?_;rintro e a' w' ⟨hk,o,st',m',ho,hK,hn,hs⟩;exact⟨o,st',ho,hK,Hold.grown h2 h3 h4 h5 h6 (h7.trans hk) hn hs⟩
theorem gT(hE:EnvOK E)(hm:E.P.follows .mixedOrders=true){c:Code}(ts:List (Nat×V))(bs:List (Nat×U))(hok:be E.any n c=true)(hW:mE B.W c=true)(h:Hold E n sz B P st a w)(hr:run E c st (pN ts bs)){Q:Exit->Act->World->Prop}
 (hQ:∀a' w',Hold E n sz B P (aq ts bs) a' w'->Q .normal a' w'):c.wpIn (bg r) 0 E.P Q a w:=by
 refine wpIn_mono (qt hE hm hok hW h hr) ?_;rintro e a' w' ⟨o,st',ho,hK,ht⟩;cases o with
 |ret=>exact hK.elim
 |exit id=>exact hK.elim
 |normal=>exact Wz
theorem SV(hE:EnvOK E)(hm:E.P.follows .mixedOrders=true){c:Code}(id:Nat)(ts:List (Nat×V))(bs:List (Nat×U))(hok:be E.any n c=true)(hW:mE B.W c=true)(h:Hold E n sz B P st a w)(hr:run E c st (wU id ts bs)){Q:Exit->Act->World->Prop}
 (hQ:∀a' w',Hold E n sz B P (aq ts bs) a' w'->Q (.exit id) a' w'):c.wpIn (bg r) 0 E.P Q a w:=by
 refine wpIn_mono (qt hE hm hok hW h hr) ?_;rintro e a' w' ⟨o,st',ho,hK,ht⟩;cases o with
 |ret=>exact hK.elim
 |normal=>exact hK.elim
 |exit i=>exact XA
theorem SW(hE:EnvOK E)(hm:E.P.follows .mixedOrders=true){c:Code}(ts:List (Nat×V))(bs:List (Nat×U))(hok:be E.any n c=true)(hW:mE B.W c=true)(h:Hold E n sz B P st a w)(hr:run E c st (JR ts bs)){Q:Exit->Act->World->Prop}
 (hQ:∀a' w',Hold E n sz B P (aq ts bs) a' w'->Q .ret a' w'):c.wpIn (bg r) 0 E.P Q a w:=by
 refine wpIn_mono (qt hE hm hok hW h hr) ?_;rintro e a' w' ⟨o,st',ho,hK,ht⟩;cases o with
 |normal=>exact hK.elim
 |exit id=>exact hK.elim
 |ret=>exact Wz
theorem xT(hE:EnvOK E){ops:List Oper}{Q:Exit->Act->World->Prop}(ts:List (Nat×V))(bs:List (Nat×U))(rest:List Nat):∀(l:List Oper) (is:List Nat) (st:St) (a:Act) (w:World),(is.map fun i=>ops[i]?)=l.map some->bu n l=true->ol B.W ops=true->
 Hold E n sz B P st a w->(bH E ⟨ops⟩ l st fun st'=>gw st' ts∧gL st' bs)->(∀a' w',Hold E n sz B P (aq ts bs) a' w'->wpOpsIn (bg r) 0 E.P ⟨ops⟩ Q rest a' w')->wpOpsIn (bg r) 0 E.P ⟨ops⟩ Q (is++rest) a w
 |[],[],st,a,w,_,_,_,h,hr,hK=>hK a w (h.le (aK hr.1 hr.2))
 |[],i::is,st,a,w,hi,_,_,h,hr,hK=>by simp at hi
 |o::l,[],st,a,w,hi,_,_,h,hr,hK=>by simp at hi
 | o ::l,i::is,st,a,w,hi,hd,hWo,h,hr,hK=>by
   rw[aee,wpOpsIn_cons];simp only[adL,adW] at hi;obtain⟨st',hs,hl,hb⟩:=da _ _ hr;unfold eV at hs;split at hs
   . rename_i st1 h1;obtain⟨m,O,gs,q1,q2,q3,q4,q5,q6,q7⟩:=h;have hlt:=q1.lt;obtain⟨b,β,hrel⟩:=q1.rel;have hi1:(⟨ops⟩:Array Oper)[i]?=some o:=by simpa using hi.1
     have hwp:wpOpIn (bg r) 0 E.P ⟨ops⟩ Q i (fun a' w'=>Hold E n sz B P st1 a' w'∨(∃m' β',Rel E n ⟨lst O w.heap.size,b,lst O w.heap.size,[]⟩ m w m' β' st1 a' w')) a w:=dC (hE.x (.inr (fun _ h=>h))) hrel hi1 (du hd A0k) h1 (fun a' w' m' β' hr'=> .inr ⟨m',β',hr'⟩);have hkeep:=eQ (W:=B.W) (t:=B.t0) (by simpa using hWo) q7 (K':=fun a' w'=>Hold E n sz B P st1 a' w') (fun a' w' hK' hkt=>by
      rcases hK' with hK'|⟨m',β',hr'⟩
      . exact hK'
      . obtain⟨hn,hst⟩:=Now.of_rel hE hlt hr';exact Hold.grown q2 q3 q4 q5 q6 hkt hn hst) hwp
     have hdl:bu n l=true:=by simp only[bu,aeo,ado] at hd;exact hd.2
     exact it (fun a' w' h'=>xT hE ts bs rest l is st1 a' w' hi.2 hdl hWo h' (gI _ _ hs ⟨hl,hb⟩) hK) (fun e a' w' h'=>h'.1) hkeep
   . cases hs
theorem SX(hE:EnvOK E){ops:List Oper}{Q:Exit->Act->World->Prop}(k j:Nat)(ts:List (Nat×V))(bs:List (Nat×U))(rest:List Nat)(hl:k+j<=ops.length)(hd:bu n ((ops.drop k).take j)=true)(hW:ol B.W ops=true)
 (h:Hold E n sz B P st a w) (hr:bH E ⟨ops⟩ ((ops.drop k).take j) st fun st'=>gw st' ts∧gL st' bs) (hK:∀a' w',Hold E n sz B P (aq ts bs) a' w'->wpOpsIn (bg r) 0 E.P ⟨ops⟩ Q rest a' w'):wpOpsIn (bg r) 0 E.P ⟨ops⟩ Q (List.range' k j++rest) a w:=
 xT hE ts bs rest _ _ st a w (iX ops k j hl) hd hW h hr hK
variable{ops:List Oper}{Q:Exit->Act->World->Prop}{rest:List Nat}{o:Oper}{d:Tmp}
theorem KO{i:Nat}(hi:ops[i]?=some o)(hdef:∀c,o.op≠ .defer c)(hd:o.dst=some d)(hg:o.guard=none){v:Value}{w':World}(hrun:(execOp a.eval o).run E.P w= .ok (.value v) w')
 (hK:wpOpsIn (bg r) 0 E.P ⟨ops⟩ Q rest (a.put (some d) v) w'):wpOpsIn (bg r) 0 E.P ⟨ops⟩ Q (i::rest) a w:=by
 rw[wpOpsIn_cons];unfold wpOpIn;have hi':(⟨ops⟩:Array Oper)[i]?=some o:=A0m
 rw[hi'];simp only;rw[adl A0u];refine⟨fun _ _=>trivial,?_⟩;rw[Oper.semAt_eq _ _ _ hdef,hrun];show wpOpsIn (bg r) 0 E.P ⟨ops⟩ Q rest (a.put o.dst v) w';rw[hd];exact hK
variable{vs:Array Value}{us:U}{k:Nat}
theorem Hold.start(hr:RdL m w vs.toList us)(hdat:us.all V.dat=true)(hl:us.length=k)(hk:k<=n)(hn1:n<=1000)(hj:E.J w)(hg:∀g,Rd m w (.p g) (E.G g)){Kn:Kno}(hkn:Kn.P m w):
 Hold E n sz ⟨Kn,fun _=>true,#[],m,w⟩ [] (start us) {tmps:=vs++Array.replicate (n-vs.size) undef,defers:=[]} w:=
 ⟨m,_,[],Now.first (gx hr hdat hl hk hn1 hj hg),.nil,fun _ h=>A09,fun _ h=>h.elim,Step.refl _ _ _,hkn,fun i hi=>by cases hi⟩
variable{f:FuncId}{fn:Func}{c:Code}
theorem ly{R:Value->World->Prop}(hf:E.P.funcs[f]?=some fn)(hb:fn.body=some c)(hn:fn.ntmps=n)(hk:k<=n)(hn1:n<=1000)
 (hr:RdL m w vs.toList us) (hdat:us.all V.dat=true) (hl:us.length=k) (hj:E.J w) (hg:∀g,Rd m w (.p g) (E.G g)) {Kn:Kno} (hkn:Kn.P m w)
 (hbody:∀a:Act,Hold E n sz ⟨Kn,fun _=>true,#[],m,w⟩ [] (start us) a w->c.wpIn (bg none) 0 E.P (fun e a' w'=>(e= .normal∨e= .ret)∧∃B' P' st' r,Hold E n sz B' P' st' a' w'∧B'.ms=m∧B'.ws=w∧eX E st' fn.results.toList=some r∧
  ∀v m' gs,Rd m' w' v r->Bed E.K sz m' w' P' gs->(∀g∈gs,w.heap.size<=g)->Step (fun _=>False) m w m' w'->B'.Kn.P m' w'->E.J w'->R v w') a w):
 Calls E.P f vs w fun e w'=>∃v,e= .returned v∧R v w':=by
 refine calls_of_wp hf hb ?_;rw[hn];refine wp_mono (wpIn_wide.1 (hbody _ (Hold.start hr hdat hl hk hn1 hj hg hkn))) ?_;rintro e a' w' ⟨he,B',P',st',r,⟨m1,O,gs,h1,h2,h3,h4,h5,h6,h7⟩,hms,hws,hres,hR⟩;have done:a'.defers=[]∧∃v,(results fn a'.tmps).run E.P w'= .ok v w'∧∃v',Ending.returned v= .returned v'∧R v' w':=by obtain⟨b,β,hrel⟩:=h1.rel;obtain⟨v,hv,hd⟩:=gJ hrel hres;subst hms hws;exact⟨hrel.defers,v,hv,v,rfl,hR v m1 gs hd h2 (fun g hg=>(h3 g hg).2) h5 h6 h1.J⟩
 rcases he with rfl|rfl
 . exact done
 . exact done
end
section
variable{E:Env}{n sz:Nat}{B:Hb}{m m':Lim}{w w':World}{st:St}{a:Act}{O:Nat->Prop}{P:List (Value×U)}{r:Option Nat}
theorem Yf{D:List Deferred}(h:Now E n D O m st a w)(i:Nat){v:Value}(hi:st.t i= .x v):a.tmps.getD i undef=v:=by obtain⟨b,β,hr⟩:=h.rel;exact(hi▸hr.tmps i:Rs m w β _ (.x v)).x
theorem Hold.keepS(h:Hold E n sz B P st a w)(d:Nat)(v:Value)(hv:a.tmps.getD d undef=v):∃t0,t0.getD d undef=v∧Hold E n sz ⟨B.Kn,fun i=>i !=d,t0,B.ms,B.ws⟩ P st a w:=by obtain⟨m,O,gs,h1,h2,h3,h4,h5,h6,h7⟩:=h;exact⟨a.tmps,hv,m,O,gs,h1,h2,h3,h4,h5,h6,KeepT.refl _ _⟩
theorem Hold.sight{t0:Array Value}{W:Nat->Bool}{Kn:Kno}{ms:Lim}{ws:World}(h:Hold E n sz ⟨Kn,W,t0,ms,ws⟩ P st a w)(d:Nat)(hW:W d=false):a.tmps.getD d undef=t0.getD d undef:=by obtain⟨m,O,gs,h1,h2,h3,h4,h5,h6,h7⟩:=h;exact h7 d hW
theorem Hold.val(h:Hold E n sz B P st a w){d:Nat}{v:Value}(hd:st.t d= .x v):a.tmps.getD d undef=v:=by obtain⟨m,O,gs,h1,_⟩:=h;exact Yf h1 d hd
theorem Hold.nil(h:Hold E n sz B P st a w)(d k:Nat)(tok:Option Nat){n0:Nat}{k0:Option Nat}(hd:st.t d= .sl true n0 [] k0):Hold E n sz B P ⟨upd st.t d (.sl true k [] tok),st.b⟩ a w:=
 h.le ⟨fun i=>by
  show(upd st.t d (.sl true k [] tok) i).le (st.t i);by_cases e:i=d
  . subst e;rw[aj,hd];exact .inr (.inr ⟨_,_,_,_,rfl,rfl⟩)
  . rw[ah _ _ e];exact .inr (.inl rfl),fun _ cs h=>⟨cs,h,fG cs⟩⟩
variable{P:Program}{ops:List Oper}{Q:Exit->Act->World->Prop}{ps:List (Nat×Nat×Nat)}
theorem KP(hm:P.follows .mixedOrders=true)(hok:j3 ops ps=true)(J:Nat->Act->World->Prop)
 (hstep:∀p∈ps,∀(a:Act) (w:World) (K:Act->World->Prop),J p.1 a w->(∀a' w',J p.2.2 a' w'->K a' w')->wpOpIn (bg r) 0 P ⟨ops⟩ Q p.2.1 K a w) (hQ:∀a w,J (2^ops.length-1) a w->Q .normal a w) {id:Nat} (h0:J 0 a {w with drawn:=w.drawn+1}):(Code.region id ⟨ops⟩ true).wpIn (bg r) 0 P Q a w:=by
 refine wpIn_region_any hm ?_;simp only[j3,ado] at hok;obtain⟨hpm,hS⟩:=hok;have hready:∀(L:Nat) (Ls:List Nat) (listed:Array Bool),listed.size=ops.length->(∀i,(listed.getD i false=true↔i∈Ls))->(∀i,i∈Ls↔L.testBit i=true)->∀i,i∈Region.ready .any ⟨ops⟩ listed↔i<ops.length∧bZ ops L i=true:=by
  intro L Ls listed hsz hag hbit i;have hb:∀k,listed.getD k false=true↔L.testBit k=true:=fun k=>(hag k).trans (hbit k)
  rw[cL];constructor
  . rintro⟨h1,o,h2,h3⟩;have h2:ops[i]?=some o:=by simpa using h2
    have hlt:=aZ h2;refine⟨hlt,?_⟩;rw[co (ops:=⟨ops⟩) hsz hlt] at h1;have hn:L.testBit i=false:=by
     cases hb':L.testBit i with
     |false=>rfl
     |true=>rw[(hb i).2 hb'] at h1;cases h1
    simp only[bZ,hn,afV,ae1,h2,adr];exact fun k hk=>(hb k).1 (h3 k hk)
  . rintro⟨hlt,hr⟩;simp only[bZ,ado,aeS] at hr;obtain⟨hn,hd⟩:=hr;split at hd
    case h_2=>cases hd
    rename_i o ho;refine⟨?_,o,by simpa using ho,fun k hk=>(hb k).2 (adr.1 hd k hk)⟩;rw[co (ops:=⟨ops⟩) hsz hlt];cases hg:listed.getD i false with
    |false=>rfl
    |true=>rw[(hb i).1 hg] at hn;cases hn
 have hSL:∀L,(L=0∨∃p∈ps,p.2.2=L)->(L=2^ops.length-1∨∃i,i<ops.length∧bZ ops L i=true)∧∀i,i<ops.length->bZ ops L i=true->∃p∈ps,p.1=L∧p.2.1=i:=by
  intro L hL;have hm:L∈(0::ps.map fun p=>p.2.2):=by
   rcases hL with rfl|⟨p,hp,rfl⟩
   . simp
   . exact adE _ (ads.2 ⟨p,hp,rfl⟩)
  have:=adr.1 hS L hm;simp only[ado,aeK,beq_iff_eq,aeJ,adr,adU] at this;refine⟨this.1,fun i hi hr=>?_⟩;have:=this.2 i hi;rw[hr] at this;simpa using this
 have key:∀(fuel L:Nat) (Ls:List Nat) (listed:Array Bool) (a:Act) (w:World),(L=0∨∃p∈ps,p.2.2=L)->listed.size=ops.length->(∀i,(listed.getD i false=true↔i∈Ls))->(∀i,i∈Ls↔L.testBit i=true)->
  ((List.range ops.length).filter fun j=> !Ls.contains j).length<=fuel->J L a w->wpAnyIn (bg r) 0 P .any ⟨ops⟩ Q fuel listed a w:=by
  intro fuel
  induction fuel with
  | zero=>
    intro L Ls listed a w hL hsz hag hbit hrem h;have hno:∀i,i<ops.length->i∈Ls:=fun i hi=>by
     have h0:((List.range ops.length).filter fun j=> !Ls.contains j)=[]:=aem.1 (Nat.le_zero.1 hrem);by_cases hm:i∈Ls
     . exact hm
     . exact Ww
    have hnr:∀i,i<ops.length->bZ ops L i=false:=fun i hi=>by simp[bZ,(hbit i).1 (hno i hi)]
    have hfull:L=2^ops.length-1:=by
     rcases(hSL L hL).1 with h1|⟨i,hi,hr⟩
     . exact h1
     . rw[hnr i hi] at hr;cases hr
    exact Wx
  | succ f ih=>
    intro L Ls listed a w hL hsz hag hbit hrem h;refine⟨fun hr=>?_,fun i hi=>?_⟩
    . have hfull:L=2^ops.length-1:=by
       rcases(hSL L hL).1 with h1|⟨i,hi,hr'⟩
       . exact h1
       . exact Wu
      exact hQ a w (hfull▸h)
    . obtain⟨hlt,hr⟩:=(hready L Ls listed hsz hag hbit i).1 hi;obtain⟨p,hp,hp1,hp2⟩:=(hSL L hL).2 i hlt hr;have hpe:=adr.1 hpm p hp;rw[beq_iff_eq] at hpe;have hn:i∉Ls:=fun hm=>by simp only[bZ,(hbit i).1 hm,afc,afI] at hr;cases hr
      have hst:=hstep p hp a w (fun a' w'=>wpAnyIn (bg r) 0 P .any ⟨ops⟩ Q f (listed.setIfInBounds i true) a' w') (hp1▸h) (fun a' w' h'=>by
       refine ih p.2.2 (i::Ls) _ a' w' (.inr ⟨p,hp,rfl⟩) A1s (fun j=>?_) (fun j=>?_) (by have:=iT hlt hn;omega) h'
       . by_cases e:j=i
         . subst e;rw[dJ A0b];simp
         . rw[getD_set_ne _ (aeM e),hag j];simp[e]
       . rw[hpe,hp1,hp2,afz,afa,aeK,<-hbit j,adA,adS];constructor
         . rintro(rfl|h)
           . exact .inr rfl
           . exact .inl h
         . rintro(h|rfl)
           . exact .inr h
           . exact .inl rfl)
      rw[hp2] at hst;exact hst
 refine key _ 0 [] _ a _ (.inl rfl) A0k (fun i=>?_) (fun i=>by simp) ?_ h0
 . simp only[adC,ae2];split<;>simp
 . exact adJ (aey _ _) A0k
variable{f:FuncId}{fn:Func}{c:Code}{F:U->Option V}{k:Nat}
theorem xU(hf:E.P.funcs[f]?=some fn)(hb:fn.body=some c)
 (hcall:∀args w,(callFunc f args).run E.P w= .ok (.enter f args) w) (hn:fn.ntmps=n) (hk:k<=n) (hn1:n<=1000)
 (hbody:∀(us:U) (r:V) (m:Lim) (w:World) (a:Act),F us=some r->us.all V.dat=true->(us.length=k->Hold E n sz ⟨Kno.top,fun _=>true,#[],m,w⟩ [] (start us) a w)->us.length=k∧
  c.wpIn (bg none) 0 E.P (fun e a' w'=>(e= .normal∨e= .ret)∧∃P' st',Hold E n sz ⟨Kno.top,fun _=>true,#[],m,w⟩ P' st' a' w'∧eX E st' fn.results.toList=some r) a w):Fun E f F:=by
 refine⟨hcall,fun m w vs us r hF hdat hr hj hg=>?_⟩;have hl:us.length=k:=(hbody us r m w {tmps:=vs++Array.replicate (n-vs.size) undef,defers:=[]} hF hdat (fun hl=>Hold.start hr hdat hl hk hn1 hj hg trivial)).1;refine(ly (sz:=sz) (Kn:=Kno.top) (R:=fun v w'=>∃m',Rd m' w' v r∧Below w.heap.size w w'∧∀blk,blk<w.heap.size->m' blk=m blk) hf hb hn hk hn1 hr hdat hl hj hg trivial (fun a ha=>?_)).mono ?_
 . refine wpIn_mono (hbody us r m w a hF hdat (fun _=>ha)).2 ?_;rintro e a' w' ⟨he,P',st',ho,hres⟩;exact⟨he,_,P',st',r,ho,rfl,rfl,hres,fun v m' gs h1 _ _ h4 _ _=>⟨m',h1,h4.below (fun _ _ h=>h),fun k hk=>(h4.same k hk (fun h=>h)).2⟩⟩
 . rintro e w' ⟨v,rfl,m',h1,h2,h3⟩;exact⟨v,m',rfl,h1,h2,h3⟩
end
section
variable{E:Env}{n sz:Nat}{B:Hb}{m:Lim}{w:World}{st:St}{a:Act}{r:Option Nat}
variable{g tok cap:Nat}{es:U}{ty:TypeId}
theorem Now.found{d:Nat}{cur:Array Value}(hMB:∀s,E.MB s=false)(hJ:E.J w)(hgl:∀g,Rd m w (.p g) (E.G g))(hsz:a.tmps.size=n)(hn:n<=1000)(hdef:a.defers=[])
 (hK:E.K<=g) (hlim:m g=some (es.length*sz)) (hv:a.tmps.getD d undef= .s g es.length cap) (hh:w.heap[g]?=some (.cells cur ty (0,0))) (hcap:es.length<=cap) (hcs:cur.size=cap*sz)
 (hrow:Rd m w (a.tmps.getD d undef) (.sl false sz es (some tok))) (hd:st.t d= .sl false sz es (some tok)) (ht:∀i,i≠d->Rd m w (a.tmps.getD i undef) (st.t i)∧∀z l k,st.t i≠ .sl false z l (some k)) (hb:∀s,st.b s=none):
 Now E n [] (fun k=>k=g) m st a w:=by
 have hg:=ag hh;have hB:∀v z l s,Bear E w id st (fun i=>a.tmps.getD i undef) v (.sl false z l (some s))->z=sz∧l=es∧s=tok∧v=a.tmps.getD d undef:=by
  intro v z l s hbr;rcases hbr with⟨i,h1,h2⟩|⟨k,cs,j,hk,_⟩
  . by_cases e:i=d
    . subst e;rw[hd] at h1;cases h1;exact⟨rfl,rfl,rfl,h2.symm⟩
    . exact absurd h1 ((ht i e).2 z l s)
  . rw[hMB] at hk;cases hk
 have hrd:∀i,Rd m w (a.tmps.getD i undef) (st.t i):=fun i=>by
  by_cases e:i=d
  . subst e;rw[hd];exact hrow
  . exact(ht i e).1
 refine⟨⟨id,id,fun i=> .of (hrd i),hsz,fun s cs hs=>(by rw[hb] at hs;cases hs),fun s s' cs cs' h1=>(by rw[hb] at h1;cases h1),Bel.refl _ _,⟨hn,fun _ _=>rfl,fun x hx=>(by obtain⟨_,rfl⟩:=bv.1 hx;exact hK)⟩,⟨fun _ _ _=>rfl,Ext.refl _ _,fun y hy=>hy⟩,
  ⟨fun _=>g,fun v z l s hbr=>?_,fun v z l s v' z' l' s' h1 h2 _=>(by rw[(hB _ _ _ _ h1).2.2.1,(hB _ _ _ _ h2).2.2.1]),fun v z l s k cs _ hk=>(by rw[hb] at hk;cases hk)⟩,fun i s z len cs hi hs=>(by rw[hb] at hs;cases hs),hdef,hgl,hJ,
  ⟨fun i s ks vs hi=>?_,fun i j s s' ks vs ks' vs' hi=>?_⟩⟩,fun k hk=>hk▸hg⟩
 . obtain⟨rfl,rfl,rfl,rfl⟩:=hB _ _ _ _ hbr;exact⟨.inr (bv.2 ⟨hg,rfl⟩),hlim,cap,cur,ty,hv,hh,hcap,hcs⟩
 . exact(hi▸hrd i).not_mp.elim
 . exact(hi▸hrd i).not_mp.elim
variable{ops:List Oper}{Q:Exit->Act->World->Prop}{rest:List Nat}{o:Oper}
theorem GB{i:Nat}(hi:ops[i]?=some o)(hdef:∀c,o.op≠ .defer c)(hd:o.dst=none)(hg:o.guard=none){w':World}(hrun:(execOp a.eval o).run E.P w= .ok .skip w')
 (hK:wpOpsIn (bg r) 0 E.P ⟨ops⟩ Q rest a w'):wpOpsIn (bg r) 0 E.P ⟨ops⟩ Q (i::rest) a w:=by
 rw[wpOpsIn_cons];unfold wpOpIn;have hi':(⟨ops⟩:Array Oper)[i]?=some o:=A0m
 rw[hi'];simp only;rw[adl A0u];refine⟨fun _ _=>trivial,?_⟩;rw[Oper.semAt_eq _ _ _ hdef,hrun];show wpOpsIn (bg r) 0 E.P ⟨ops⟩ Q rest (a.put o.dst undef) w';rw[hd];exact hK
variable{P:Program}{t el:TypeId}{ρ:Operand->Value}
theorem l7{x ix:Operand}{len:Nat}{k:IntKind}{i:Int}(ho:o.op= .indexAddr t x ix)(ht:P.underlying t=some (.slice el))(hsz:bo P el=some sz)(hx:ρ x= .s g len cap)(hix:ρ ix= .int k i)(h0:0<=i)(hl:i<len):
 (execOp ρ o).run P w= .ok (.value (.pointer (some ⟨g,i.toNat*sz,none⟩))) w:=by
 simp only[execOp,ho,hx,hix,Instr.indexAt,asIntOf,Gc,Gd,Ge,aC ht,Sem.run_ite];rw[adl ⟨h0,hl⟩];simp only[bN hsz,Ge,aP,adi]
theorem GC(hMB:∀s,E.MB s=false)(hG:∀g,E.G g= .undef)(hE:EnvOK E)(hn:n<=1000)(h:Hold E n sz B [] st a w)(hKn:B.Kn=Kno.top){d tok:Nat}{es:U}(hd:st.t d= .sl false sz es (some tok)){t:TypeId}(hs:bo E.P t=some sz)(hz:sz≠0){k:Nat}(hk:k<es.length){xs:List Value}(hv:xs.length=sz)(hone:∀v∈xs,v.oneCell'=true){x:Value}(hx:x.cells.toList=xs)
 (hflat:∀u∈es,∃ys:List Value,u.cells=ys.map V.x) {u:V} (hu:u.cells=xs.map V.x):
 ∃ g cap w',(∀d',st.t d'= .sl false sz es (some tok)->a.tmps.getD d' undef= .s g es.length cap)∧(a.tmps.size=n∧a.defers=[]∧KeepT B.W B.t0 a.tmps)∧(Instr.storeAt t (.pointer (some ⟨g,k*sz,none⟩)) x).run E.P w= .ok () w'∧
   ∀ (a':Act) (st':St) (d2 tok':Nat),a'.tmps.size=n->a'.defers=[]->KeepT B.W B.t0 a'.tmps->a'.tmps.getD d2 undef= .s g es.length cap->(∀s,st'.b s=none)->st'.t d2= .sl false sz (es.set k u) (some tok')->
     (∀i,i≠d2->st'.t i= .undef∨(∃v,st'.t i= .x v∧a'.tmps.getD i undef=v)∨(Rd B.ms B.ws (a'.tmps.getD i undef) (st'.t i)∧(st'.t i).dat=true))->Hold E n sz B [] st' a' w':=by
 obtain⟨m,O,gs,h1,h2,h3,h4,h5,h6,h7⟩:=h;obtain⟨b,β,hr⟩:=h1.rel;obtain⟨ρ,hrw⟩:=hr.rows;obtain⟨lo,lim,cap,cur,ty0,hval,hh,hcap,hcs⟩:=hrw.row _ _ _ _ (Bear.slot hd);have hrd:Rd m w (a.tmps.getD d undef) (.sl false sz es (some tok)):=by have:=hr.tmps d;rw[hd] at this;exact this.rd rfl
 have hall:∀d',st.t d'= .sl false sz es (some tok)->a.tmps.getD d' undef= .slice (some ⟨ρ tok,0,none⟩) es.length cap:=fun d' h'=>by obtain⟨_,_,cap2,cur2,ty2,hval2,hh2,hcap2,hcs2⟩:=hrw.row _ _ _ _ (Bear.slot h');rw[hh] at hh2;cases hh2;have:cap2=cap:=Nat.eq_of_mul_eq_mul_right (Nat.pos_of_ne_zero hz) (by rw[<-hcs2,hcs]);rw[<-this];exact hval2
 generalize ρ tok=g at lo lim hval hh hall;have hg:=ag hh;have hO:O g:=by
  rcases lo with lo|lo
  . exact absurd hg (ad0.2 lo)
  . exact(bv.1 lo).2
 have hgs:=h4 g hO;have hKg:E.K<=g:=h1.K g hO;have hkk:(k+1)*sz<=es.length*sz:=ad9 _ hk;have hcc:es.length*sz<=cap*sz:=ad9 _ hcap;rw[aek,afu] at hkk;have hst:=de E.P g (k*sz) ty0 (0,0) xs 0 cur w hh (.inl rfl) A0b hone;rw[aeq,hv] at hst;obtain⟨cur',hc'⟩:∃cur':Array Value,cur'=(cur.toList.take (k*sz)++xs++cur.toList.drop (k*sz+sz)).toArray:=⟨_,rfl⟩;rw[<-hc'] at hst;have hsz':cur'.size=cur.size:=by rw[hc'];simp only[aeR,adh,adz,aeE,adD,hv];omega
 refine⟨g,cap,w.setRow g cur',hall,⟨hr.size,hr.defers,h7⟩,?_,fun a' st' d2 tok' hsz hdef hkt hsame hb hd' ht=>?_⟩
 . simp only[Instr.storeAt,Instr.sureAddr,storeVar,Gc,Gd,Ge,bN hs];rw[adq (by rw[<-adD,hx];omega),hx];exact hst
 . have hh' :(w.setRow g cur').heap[g]?=some (.cells cur' ty0 (0,0)):=setRow_heap w g cur cur' ty0 (0,0) hh;have hoth:∀j,j≠g->(w.setRow g cur').heap[j]?=w.heap[j]?:=fun j hj=>setRow_other w g j cur' hj
   have hS:Step (fun _=>False) B.ms B.ws (fun j=>if j<B.ws.heap.size then B.ms j else some (es.length*sz)) (w.setRow g cur'):=by
    refine⟨h5.os,h5.tape,h5.output,⟨by have:=h5.ext.size;simpa using this,fun blk off v hb' _ hc=>?_,fun blk hb' fr hf=>⟨fr,by rw[adl hb'] at hf;exact hf,adp _⟩,fun blk e c _ hc=>?_⟩,fun j hj _=>⟨(hoth j A0b).trans (h5.same j hj (fun h=>h)).1,adl hj⟩⟩
    . rw[bc ((hoth blk A0b).trans (h5.same blk hb' (fun h=>h)).1)];exact hc
    . have hb':=eA hc;rw[(hoth blk A0b).trans (h5.same blk hb' (fun h=>h)).1];exact hc
   have hsetl:(es.set k u).length=es.length:=adV ..;have hrow:Rd (fun j=>if j<B.ws.heap.size then B.ms j else some (es.length*sz)) (w.setRow g cur') (.s g es.length cap) (.sl false sz (es.set k u) (some tok')):=by
    obtain⟨c,hc,hsz0,hr0⟩:∃c:Nat->Value,(∀j,j<es.length*sz->w.cell? ⟨g,0+j,none⟩=some (c j))∧(∀(i:Nat) (e:V),es[i]?=some e->e.cells.length=sz)∧∀(i:Nat) (e:V),es[i]?=some e->∀(j:Nat) (dd:V),e.cells[j]?=some dd->Rd m w (c (i*sz+j)) dd:=by
     rw[hval] at hrd;generalize hvv:Value.s g es.length cap=vv at hrd;cases hrd with
     |sl blk off cap1 _ _ _ c hb hcap0 hsz0 hc hm hr0=>cases hvv;exact⟨c,hc,hsz0,hr0⟩
    have hcell:∀j,j<es.length*sz->cur[j]?=some (c j):=fun j hj=>by have:=hc j hj;rw[adi,Box.cell hh] at this;exact this
    have:=Rd.sl (m:=fun j=>if j<B.ws.heap.size then B.ms j else some (es.length*sz)) (w:=w.setRow g cur') g 0 cap sz (es.set k u) (some tok') (fun j=>(cur'[j]?).getD undef) (ag hh') (by rw[hsetl];exact hcap) (fun i e hi=>by
     by_cases e0:k=i
     . rw[<-e0,ae8 hk] at hi;cases hi;rw[hu,eq,hv]
     . rw[ae0 e0] at hi;exact hsz0 i e hi) (fun j hj=>by
     rw[hsetl] at hj;have hjc:j<cur'.size:=A0b
     rw[adi,Box.cell hh',adG hjc];rfl) (fun fr hf=>by rw[adq A0b] at hf;cases hf;rw[hsetl,adi];exact adp _) (fun i e hi j dd hdd=>?_)
    . rwa [hsetl] at this
    . have hi':i<es.length:=by have:=(iO.1 hi).1;rwa [hsetl] at this
      have hjz:e.cells.length=sz:=by
       by_cases e0:k=i
       . rw[<-e0,ae8 hk] at hi;cases hi;rw[hu,eq,hv]
       . rw[ae0 e0] at hi;exact hsz0 i e hi
      have hj:j<sz:=by rw[<-hjz];exact(iO.1 hdd).1
      have hii:i*sz+j<es.length*sz:=by have:(i+1)*sz<=es.length*sz:=ad9 _ hi';rw[aek] at this;omega
      have hget:cur'[i*sz+j]?=if i*sz+j<k*sz then cur[i*sz+j]? else if i*sz+j<k*sz+sz then xs[i*sz+j-k*sz]? else cur[i*sz+j]?:=by rw[hc',aew];have:=gH (l:=cur.toList) (q:=xs) (off:=k*sz) (by rw[hv,adD];omega) (i*sz+j);rw[hv] at this;simpa using this
      by_cases eki:k=i
      . subst eki;rw[ae8 hk] at hi;cases hi;rw[hu,ac9,adn] at hdd;obtain⟨y,hy,rfl⟩:=hdd;rw[hget,adq A0b,adl A0b,show k*sz+j-k*sz=j by omega,hy];exact .x _
      . rw [ae0 eki] at hi;have hold:cur'[i*sz+j]?=cur[i*sz+j]?:=by
         rw[hget];split
         . rfl
         . rename_i c1;rw[adq];intro c2;have h8:i=k:=by
            rcases Nat.lt_trichotomy i k with h9|h9|h9
            . exfalso;have:(i+1)*sz<=k*sz:=ad9 _ h9;rw[aek] at this;omega
            . exact h9
            . exfalso;have:(k+1)*sz<=i*sz:=ad9 _ h9;rw[aek] at this;omega
           exact eki h8.symm
        rw[hold,hcell _ hii];have hr1:=hr0 i e hi j dd hdd;obtain⟨ys,hys⟩:=hflat e (adg hi);rw[hys,ac9,adn] at hdd;obtain⟨y,_,rfl⟩:=hdd;rw[Rd.x_iff.1 hr1];exact .x _
   have hJ:E.J (w.setRow g cur'):=hE.keep [g] _ _ (fun x hx=>by rw[adj.1 hx];exact hKg) h1.J ⟨rfl,rfl,rfl,A0k,fun j _ hj=>hoth j A0x ⟩;refine⟨_,fun j=>j=g,[],Now.found (tok:=tok') (cap:=cap) (cur:=cur') (ty:=ty0) (es:=es.set k u) (sz:=sz) hMB hJ (fun j=>by rw[hG];exact .undef _) hsz hn hdef hKg (by rw[adq A0b,hsetl]) (by rw[hsame,hsetl]) hh' (by rw[hsetl];exact hcap) (by rw[hsz'];exact hcs) (by rw[hsame];exact hrow) hd' (fun i hi=>?_) hb,.nil,fun _ h=>A09,fun j hj=>by rw[hj];exact hgs,hS,by rw[hKn];trivial,hkt⟩;rcases ht i hi with e|⟨v,e,hv'⟩|⟨h8,h9⟩
   . rw[e];exact⟨.undef _,fun _ _ _ h=>by cases h⟩
   . rw[e,hv'];exact⟨.x _,fun _ _ _ h=>by cases h⟩
   . exact⟨h8.mono hS.ext,fun z l k' e=>by rw[e] at h9;cases h9⟩
theorem Hold.bareS(h:Hold E n sz B [] st a w){d:Nat}(hd:d<n){nl:Bool}{z:Nat}{es:U}{tok:Option Nat}(ht:st.t d= .sl nl z es tok):Hold E n sz B [] ⟨upd st.t d (.sl nl z es none),st.b⟩ a w:=by
 obtain⟨m,O,gs,h1,h2⟩:=h;have hrd:Rd m w (a.tmps.getD d undef) (.sl nl z es tok):=by obtain⟨b,β,hr⟩:=h1.rel;have:=hr.tmps d;rw[ht] at this;exact this.rd rfl
 have:=h1.learn hd hrd;rw[dV] at this;exact⟨m,O,gs,this,h2⟩
end
section
variable{E:Env}{n:Nat}{B:Bs}{w:World}{st:St}{a:Act}{g:Nat}{ob:Obj}
theorem OneG.wrote(hE:EnvOK E){w':World}{ob':Obj}(h:OneG E n B st a w g ob (some 0))(hnd:∀l,ob≠ .deferred l)(hgs:B.ws.heap.size<=g)(hK:E.K<=g)(hb:Bel [g] w w')(hh:w'.heap[g]?=some ob'):OneG E n B st a w' g ob' (some 0):=by
 obtain⟨m,O,q1,q2,q3,q4,q5,q6,q7,q8,q9⟩:=h;have hs:Step (fun k=>k=g) m w m w':=by
  refine⟨hb.os,hb.tape,hb.output,⟨hb.size,fun b off v hlt hm hc=>?_,fun b hlt fr' hf=>⟨fr',hf,adp _⟩,fun b es c hm hc=>(hb.block b (eA hc) (by intro e;rw[adj.1 e,q9] at hm;cases hm)).trans hc⟩,fun k hk hn=>⟨hb.block k hk A0Y,rfl⟩⟩;by_cases e:b=g
  . subst e;exact absurd (hm 0 q9) (afe _)
  . rw[bc (hb.block b hlt (by simpa using e))];exact hc
 have hJ:E.J w':=hE.keep [g] _ _ (fun x hx=>by rw[adj.1 hx];exact hK) q1.J hb;refine⟨m,O,q1.other hs (fun k hk e=>q7 (e▸hk)) hJ,q2,q3.next hs (fun i hi e=>absurd hi (ad0.2 (e▸hgs))),⟨q4.nd,fun x hx=>?_⟩,B.Kn.mono _ _ _ _ q5 hs.ext,q6,q7,hh,q9⟩;obtain⟨b,rfl,r1,r2,r3⟩:=q4.is x hx;have hne:b≠g:=fun e=>by subst e;rw[r2] at q8;cases q8;exact hnd _ rfl
 exact⟨b,rfl,r1,(hs.same b (ag r2) hne).1.trans r2,r3⟩
variable{tok:Nat}{es:U}
abbrev EN(s sz es tok):=aq [(s,.ptr s 0)] [(s,[.sl false sz es (some tok)])]
theorem One.shedB{s sz:Nat}(hG:∀g,E.G g= .undef)(hMB:E.MB s=true)(hO:∀k,¬B.Os k)(hD:B.D=[])(h:One E n B (EN s sz es tok) a w):
 ∃(g cap:Nat) (cur:Array Value) (ty:TypeId) (m0:Lim),OneG E n {B with Kn:=Kno.top} (aq [(s,.ptr s 0)] [(s,[.x (.s g es.length cap)])]) a w g (.cells cur ty (0,0)) (some 0)∧es.length<=cap∧B.ws.heap.size<=g∧E.K<=g∧Rd m0 w (.s g es.length cap) (.sl false sz es (some tok)):=by
 obtain⟨m,O,h1,h2,h3,h4,h5,h6⟩:=h;have hJ:=h1.J;obtain⟨⟨b,β,hr⟩,hlt⟩:=h1;have hb:(EN s sz es tok).b s=some [.sl false sz es (some tok)]:=by simp only[aq,vq,aj]
 have ht:(EN s sz es tok).t s= .ptr s 0:=by simp only[aq,bX,aj]
 obtain⟨⟨_,vals,ty1,xs,rest,hh,hx,hrd⟩,hge⟩:=hr.boxes s _ hb;obtain⟨v,rfl,hv⟩:∃v,xs=[v]∧Rd m w v (.sl false sz es (some tok)):=by
  match xs,hrd with
  |[v],hrd=>exact⟨v,rfl,hrd.1⟩
 have hv0:vals[0]?=some v:=by rw[<-adF,hx];rfl
 obtain⟨ρ,hrw⟩:=hr.rows;have hbr:Bear E w β (EN s sz es tok) (fun i=>a.tmps.getD i undef) v (.sl false sz es (some tok)):= .inr ⟨s,_,0,hMB,hb,rfl,by rw[Box.cell hh];exact hv0⟩;obtain⟨lo,lim,cap,cur,ty,hval,hhg,hcap,hcs⟩:=hrw.row _ _ _ _ hbr;have hne:β s≠ρ tok:=hrw.box _ _ _ _ s _ hbr hb;generalize ρ tok=g at lo lim hval hhg hne;have own:∀{x:Nat} {o:Obj},w.heap[x]?=some o->(w.heap.size<=x∨x∈lst O w.heap.size)->O x:=fun {x o} hx hg=>by
  rcases hg with hg|hg
  . exact absurd (ag hx) (ad0.2 hg)
  . exact(bv.1 hg).2
 have hOs:O (β s):=own hh hge;have hOg:O g:=own hhg lo;have hlo:∀x,O x->B.ws.heap.size<=x:=fun x hx=>(h2 x hx).resolve_left (hO x)
 have hKs:∀x,O x->E.K<=x:=fun x hx=>hr.par.2.2 x (bv.2 ⟨hlt x hx,hx⟩)
 subst hval;have hS:Step B.Os B.ms B.ws (fun j=>if j<B.ws.heap.size then B.ms j else some 0) w:=by
  refine⟨h3.os,h3.tape,h3.output,⟨h3.ext.size,fun blk off v hb' _ hc=>?_,fun blk hb' fr hf=>⟨fr,by rw[adl hb'] at hf;exact hf,adp _⟩,fun blk e c _ hc=>?_⟩,fun j hj hn=>⟨(h3.same j hj hn).1,adl hj⟩⟩
  . rw[bc (h3.same blk hb' (hO blk)).1];exact hc
  . rw[(h3.same blk (eA hc) (hO blk)).1];exact hc
 have hm0:∀x,O x->(fun j=>if j<B.ws.heap.size then B.ms j else some 0) x=some 0:=fun x hx=>adq (ad0.2 (hlo x hx))
 have hb':∀k cs,(aq [(s,.ptr s 0)] [(s,[.x (.s g es.length cap)])]).b k=some cs->k=s∧cs=[.x (.s g es.length cap)]:=fun k cs hk=>by
  simp only[aq,vq] at hk;rw[aJ] at hk;split at hk
  . rename_i e;cases hk;exact⟨e,rfl⟩
  . cases hk
 have ht':∀i,(aq [(s,.ptr s 0)] [(s,[.x (.s g es.length cap)])]).t i=if i=s then .ptr s 0 else .undef:=fun i=>by simp only[aq,bX,aJ]
 refine⟨g,cap,cur,ty,m,⟨_,fun k=>k=β s,⟨⟨β,β,⟨fun i=>?_,hr.size,fun k cs hk=>?_,fun k k' cs cs' hk hk' _=>?_,Bel.refl _ _,⟨hr.par.1,fun _ _=>rfl,fun x hx=>?_⟩,⟨fun _ _ _=>rfl,Ext.refl _ _,fun y hy=>hy⟩,⟨ρ,?_⟩,fun i k z len cs hi hk=>?_,hr.defers,fun j=>(by rw[hG];exact .undef _),hJ,⟨fun i k ks vs hi=>?_,fun i j k k' ks vs ks' vs' hi=>?_⟩⟩⟩,fun k hk=>(by rw[hk];exact ag hh)⟩,fun k hk=> .inr (by rw[hk];exact hlo _ hOs),hS,⟨by rw[hD];exact ad3,fun d hd=>by rw[hD] at hd;cases hd⟩,trivial,h6,fun e=>hne e.symm,hhg,hm0 g hOg⟩,hcap,hlo g hOg,hKs g hOg,hv⟩
 . rw[ht'];split
   . rename_i e;rw[e];have:=hr.tmps s;rw[ht] at this;rw[this.ptr];exact Rs.ofPtr _ _
   . exact .of (.undef _)
 . obtain⟨rfl,rfl⟩:=hb' k cs hk;exact⟨⟨hm0 _ hOs,vals,ty1,_,rest,hh,hx,⟨.x _,trivial⟩⟩,.inr (bv.2 ⟨ag hh,rfl⟩)⟩
 . rw[(hb' k cs hk).1,(hb' k' cs' hk').1]
 . obtain⟨_,rfl⟩:=bv.1 hx;exact hKs _ hOs
 . have no:∀v z l k,¬Bear E w β (aq [(s,.ptr s 0)] [(s,[.x (.s g es.length cap)])]) (fun i=>a.tmps.getD i undef) v (.sl false z l (some k)):=by
    rintro v z l k (⟨i,hi,_⟩|⟨k',cs,j,_,hk,hj,_⟩)
    . exact Wv
    . obtain⟨rfl,rfl⟩:=hb' _ _ hk;cases j with
      |zero=>cases hj
      |succ j=>simp at hj
   exact⟨fun v z l k h=>(no _ _ _ _ h).elim,fun v z l k _ _ _ _ h=>(no _ _ _ _ h).elim,fun v z l k _ _ h=>(no _ _ _ _ h).elim⟩
 . exact Wv
 . exact Wv
 . exact Wv
variable{lg:Option Nat}{d:Tmp}
theorem OneG.putV(hd:d<n)(hWd:B.W d=true)(h:OneG E n B st a w g ob lg){v:Value}{u:V}(hv:∀m,B.Kn.P m w->Rd m w v u):OneG E n B (st.put (some d) u.bare) (a.put (some d) v) w g ob lg:=by obtain⟨m,O,q1,q2,q3,q4,q5,q6,q7,q8,q9⟩:=h;exact⟨m,O,q1.put hd (hv m q5),q2,q3,q4,q5,q6.put (fun k e=>by cases e;exact hWd),q7,q8,q9⟩
variable{r:Option Nat}
theorem xV(hE:EnvOK E)(hm:E.P.follows .mixedOrders=true){c:Code}{K:Out->St->Prop}(hok:be E.any n c=true)(hW:mE B.W c=true)(h:OneG E n B st a w g ob lg)(hr:run E c st K):
 c.wpIn (bg r) 0 E.P (fun e a' w'=>∃o st',eL e=some o∧K o st'∧OneG E n B st' a' w' g ob lg) a w:=by
 obtain⟨m,O,h1,h2,h3,h4,h5,h6,h7,h8,h9⟩:=h;refine wpIn_mono (jA (r:=r) (W:=B.W) hE hm hok hW h1 hr) ?_;rintro e a' w' ⟨hk,o,st',m',ho,hK,hn,hs⟩;exact⟨o,st',ho,hK,OneG.grown h2 h3 h4 h5 (h6.trans hk) h7 h8 h9 hn hs⟩
theorem jE(hE:EnvOK E)(hm:E.P.follows .mixedOrders=true){c:Code}(ts:List (Nat×V))(bs:List (Nat×U))(hok:be E.any n c=true)(hW:mE B.W c=true)(h:OneG E n B st a w g ob lg)(hr:run E c st (pN ts bs)){Q:Exit->Act->World->Prop}
 (hQ:∀a' w',OneG E n B (aq ts bs) a' w' g ob lg->Q .normal a' w'):c.wpIn (bg r) 0 E.P Q a w:=by
 refine wpIn_mono (xV hE hm hok hW h hr) ?_;rintro e a' w' ⟨o,st',ho,hK,ht⟩;cases o with
 |ret=>exact hK.elim
 |exit id=>exact hK.elim
 |normal=>exact Wz
theorem Ea(hE:EnvOK E)(hm:E.P.follows .mixedOrders=true){c:Code}(id:Nat)(ts:List (Nat×V))(bs:List (Nat×U))(hok:be E.any n c=true)(hW:mE B.W c=true)(h:OneG E n B st a w g ob lg)(hr:run E c st (wU id ts bs)){Q:Exit->Act->World->Prop}
 (hQ:∀a' w',OneG E n B (aq ts bs) a' w' g ob lg->Q (.exit id) a' w'):c.wpIn (bg r) 0 E.P Q a w:=by
 refine wpIn_mono (xV hE hm hok hW h hr) ?_;rintro e a' w' ⟨o,st',ho,hK,ht⟩;cases o with
 |ret=>exact hK.elim
 |normal=>exact hK.elim
 |exit i=>exact XA
end
section
variable{E:Env}{n:Nat}{B:Bs}{w:World}{st:St}{a:Act}{g:Nat}{ob:Obj}{lg:Option Nat}{r:Option Nat}{P:Program}
variable{t:TypeId}{o:Oper}{ρ:Operand->Value}{p:Addr}{v:Value}
theorem cG{x:Operand}(ho:o.op= .load t x)(ha:aR P t=some false)(hx:ρ x= .pointer (some p))(hc:w.cell? p=some v):(execOp ρ o).run P w= .ok (.value v) w:=by simp only[execOp,ho,hx,Instr.loadAt,Instr.sureAddr,loadVar,Gc,Gd,Ge,gE ha,adI,adw,run_load,hc]
variable{k b off:Nat}
theorem ce{x:Operand}{f:Nat}{off':Nat}{fs:Array Field}{fd:Field}(ho:o.op= .fieldAddr t x f)(ht:P.underlying t=some (.struct fs))(hf:fs[f]?=some fd)(hn:bo P fd.type=some k)(hk:k≠0)(hx:ρ x= .pointer (some ⟨b,off,none⟩))(he:off+fd.offset=off'):
 (execOp ρ o).run P w= .ok (.value (.pointer (some ⟨b,off',none⟩))) w:=by
 simp only[<-he,execOp,ho,hx,Instr.fieldAt,Gc,aC ht,Ge,hf,Instr.sureAddr,fieldPlace,bN hn,hk,adw,Gd,aP]
theorem bE{x:Operand}(ho:o.op= .move x)(hx:ρ x=v):(execOp ρ o).run P w= .ok (.value v) w:=by simp only[execOp,ho,hx,Gd]
variable{y:Operand}{vals:Array Value}{ty:TypeId}
theorem BN{x:Operand}{fz:Nat×Nat}(ho:o.op= .store t x y)(hs:bo P t=some 1)(hx:ρ x= .pointer (some ⟨b,off,none⟩))(hy:ρ y=v)(hv:v.cells= #[v])(hone:v.oneCell'=true)
 (hh:w.heap[b]?=some (.cells vals ty fz)) (hfz:fz.2=0∨vals.size<=fz.1) (hc:vals[off]?=some v):(execOp ρ o).run P w= .ok .skip w:=by
 have hlt:off<vals.size:=(afE.1 hc).1;have hst:=de P b off ty fz [v] 0 vals w hh hfz A0F (fun u hu=>by rw[adj.1 hu];exact hone);have h0:vals.toList[off]?=some v:=by rw[adF];exact hc
 have he:(vals.toList.take (off+0)++[v]++vals.toList.drop (off+0+[v].length)).toArray=vals:=by
  apply aed.1;rw[List.toList_toArray];apply aeB;intro i;have:=gH (l:=vals.toList) (q:=[v]) (off:=off) A0F i;simp only[aej,aeq] at this⊢;rw[this];split
  . rfl
  . split
    . have:i=off:=A0b
      subst this;rw[agv,h0];rfl
    . rfl
 rw[he,setRow_self w b vals ty fz hh] at hst;exact Wy
theorem OneG.drew(hE:EnvOK E)(h:OneG E n B st a w g ob lg):OneG E n B st a {w with drawn:=w.drawn+1} g ob lg:=by obtain⟨m,O,q1,q2,q3,q4,q5,q6,q7,q8,q9⟩:=h;have hb:Below w.heap.size w {w with drawn:=w.drawn+1}:=⟨rfl,rfl,rfl,adp _,fun _ _=>rfl⟩;have hs:Step (fun _=>False) m w m {w with drawn:=w.drawn+1}:=Step.of_below hb (fun _ _=>rfl);have hJ:E.J {w with drawn:=w.drawn+1}:=hE.keep [] _ _ (fun x hx=>by cases hx) q1.J (hs.bel (fun k _ e=>e.elim));exact⟨m,O,q1.other hs (fun _ _ h=>h) hJ,q2,q3.next hs (fun _ _ h=>h.elim),⟨q4.nd,q4.is⟩,B.Kn.mono _ _ _ _ q5 hs.ext,q6,q7,q8,q9⟩
theorem OneG.read_x(h:OneG E n B st a w g ob lg)(i:Nat){v:Value}(hi:st.t i= .x v):a.tmps.getD i undef=v:=by obtain⟨m,O,q1,_⟩:=h;exact q1.read_x i hi
variable{ops:List Oper}{Q:Exit->Act->World->Prop}{d:Tmp}{f:FuncId}{F:U->Option V}{us:U}
theorem BO{K:Act->World->Prop}{i:Nat}{args:Array Operand}{ts:Array TypeId}{r0:V}(hE:EnvOK E)(hi:ops[i]?=some o)(hop:o.op= .call {callee:= .value (.func f),args:=args,argTypes:=ts})(hd:o.dst=some d)(hdn:d<n)(hWd:B.W d=true)(hg:o.guard=none)
 (hG:∀g,E.G g= .undef) (hF:Fun E f F) (hus:F us=some r0) (hdat:us.all V.dat=true) (h:OneG E n B st a w g ob lg) (hr:∀m,RdL m w (args.map a.eval).toList us)
 (hK:∀v w',OneG E n B (st.put (some d) r0.bare) (a.put (some d) v) w' g ob lg->K (a.put (some d) v) w'):wpOpIn (bg r) 0 E.P ⟨ops⟩ Q i K a w:=by
 obtain⟨m,O,q1,q2,q3,q4,q5,q6,q7,q8,q9⟩:=h;unfold wpOpIn;have hi':(⟨ops⟩:Array Oper)[i]?=some o:=A0m
 rw[hi'];simp only;rw[adl A0u];refine⟨fun _ _=>trivial,?_⟩;rw[Oper.semAt_eq _ _ _ A0J];have hrun:(execOp a.eval o).run E.P w= .ok (.enter f (args.map a.eval)) w:=by simp only[execOp,hop,resolve,Gc,Act.eval,Deferred.ofValue,Gd,Ge,invoke];simpa using hF.1 _ _
 rw[hrun];have hc:=hF.2 m w (args.map a.eval) us r0 hus hdat (hr m) q1.J (fun g=>by rw[hG];exact .undef _);refine⟨(fun e=>by cases e),cm.2 (hc.mono ?_)⟩;rintro e w' ⟨v,m',rfl,hv,hb,hm⟩;show K (a.put o.dst v) w';rw[hd];have hs:Step (fun _=>False) m w m' w':=Step.of_below hb hm;have hJ:E.J w':=hE.keep [] _ _ (fun x hx=>by cases hx) q1.J (hs.bel (fun k _ e=>e.elim));have hsame:=hs.same g (ag q8) (fun h=>h);refine hK v w' ⟨m',O,(q1.other hs (fun _ _ h=>h) hJ).put hdn hv,q2,q3.next hs (fun _ _ h=>h.elim),⟨q4.nd,fun x hx=>?_⟩,B.Kn.mono _ _ _ _ q5 hs.ext,q6.put (fun k e=>by cases e;exact hWd),q7,hsame.1.trans q8,hsame.2.trans q9⟩;obtain⟨b,rfl,s1,s2,s3⟩:=q4.is x hx;exact⟨b,rfl,s1,(hs.same b (ag s2) (fun h=>h)).1.trans s2,s3⟩
theorem ew{K:Act->World->Prop}{i:Nat}(hi:ops[i]?=some o)(hdef:∀c,o.op≠ .defer c)(hd:o.dst=some d)(hdn:d<n)(hWd:B.W d=true)(hg:o.guard=none)(h:OneG E n B st a w g ob lg){v:Value}(hrun:(execOp a.eval o).run E.P w= .ok (.value v) w)
 (hK:OneG E n B (st.put (some d) (.x v)) (a.put (some d) v) w g ob lg->K (a.put (some d) v) w):wpOpIn (bg r) 0 E.P ⟨ops⟩ Q i K a w:=by
 unfold wpOpIn;have hi':(⟨ops⟩:Array Oper)[i]?=some o:=A0m
 rw[hi'];simp only;rw[adl A0u];refine⟨fun _ _=>trivial,?_⟩;rw[Oper.semAt_eq _ _ _ hdef,hrun];show K (a.put o.dst v) w;rw[hd];have hp:=OneG.putV (d:=d) (v:=v) (u:= .x v) hdn hWd h (fun _ _=> .x _);rw[dB] at hp;exact hK hp
theorem BP{K:Act->World->Prop}{i:Nat}(hi:ops[i]?=some o)(hdef:∀c,o.op≠ .defer c)(hd:o.dst=none)(hg:o.guard=none)(hrun:(execOp a.eval o).run E.P w= .ok .skip w)(hK:K a w):wpOpIn (bg r) 0 E.P ⟨ops⟩ Q i K a w:=by
 unfold wpOpIn;have hi':(⟨ops⟩:Array Oper)[i]?=some o:=A0m
 rw[hi'];simp only;rw[adl A0u];refine⟨fun _ _=>trivial,?_⟩;rw[Oper.semAt_eq _ _ _ hdef,hrun];show K (a.put o.dst undef) w;rw[hd];exact hK
def cN(ops:List Oper)(L k:Nat):Bool:=(List.range ops.length).any fun i=>L.testBit i&&match ops[i]? with|some o=>o.dst==some k|none=>false
def xW(st:St)(val:Nat->Value)(ops:List Oper)(L:Nat):St:=⟨fun k=>if cN ops L k=true then .x (val k) else st.t k,st.b⟩
theorem Yg(st:St)(val:Nat->Value)(ops:List Oper):xW st val ops 0=st:=by unfold xW cN;simp
variable{L:Nat}
theorem oZ{i:Nat}(hi:ops[i]?=some o):cN ops (L|||2^i) k=(cN ops L k||(o.dst==some k)):=by
 have hlt:=(iO.1 hi).1;rw[ae3];unfold cN;simp only[aeK,aeJ,adU,ado,afz,afa,adS];constructor
 . rintro⟨j,hj,h1|h1,h2⟩
   . exact .inl ⟨j,hj,h1,h2⟩
   . subst h1;rw[hi] at h2;exact .inr h2
 . rintro(⟨j,hj,h1,h2⟩|h)
   . exact⟨j,hj,.inl h1,h2⟩
   . exact⟨i,hlt,.inr rfl,by rw[hi];exact h⟩
theorem Pt{i:Nat}{val:Nat->Value}(hi:ops[i]?=some o):Le (xW st val ops (L|||2^i)) (match o.dst with|some d=>(xW st val ops L).put (some d) (.x (val d))|none=>xW st val ops L):=by
 cases hd:o.dst with
 | none=>
   have e:xW st val ops (L|||2^i)=xW st val ops L:=by unfold xW;congr 1;funext k;rw[oZ hi,hd];simp
   rw[e];exact Le.refl _
 | some d=>
   refine⟨fun k=> .inr (.inl ?_),fun s cs h=>⟨cs,h,fG cs⟩⟩;show(if cN ops (L|||2^i) k=true then V.x (val k) else st.t k)=upd (xW st val ops L).t d (.x (val d)) k;rw[oZ hi,hd,aJ];by_cases e:k=d
   . subst e;simp
   . have e':(some d==some k)=false:=by simpa using fun h=>e h.symm
     rw[adq e,e',afS];rfl
variable{ps:List (Nat×Nat×Nat)}
theorem KQ(hE:EnvOK E)(hm:E.P.follows .mixedOrders=true)(hok:j3 ops ps=true)(val:Nat->Value)(need:Nat->List Nat)(hps:(ps.all fun p=>decide (p.2.1<ops.length)&&(need p.2.1).all (cN ops p.1))=true)
 (hstep:∀(i:Nat) (o:Oper) (L:Nat) (a:Act) (w:World) (K:Act->World->Prop),ops[i]?=some o->OneG E n B (xW st val ops L) a w g ob lg->(∀k∈need i,a.tmps.getD k undef=val k)->(∀a' w',OneG E n B (match o.dst with|some d=>(xW st val ops L).put (some d) (.x (val d))|none=>xW st val ops L) a' w' g ob lg->K a' w')->wpOpIn (bg r) 0 E.P ⟨ops⟩ Q i K a w)
 (hQ:∀a w,OneG E n B (xW st val ops (2^ops.length-1)) a w g ob lg->Q .normal a w) {id:Nat} (h:OneG E n B st a w g ob lg):(Code.region id ⟨ops⟩ true).wpIn (bg r) 0 E.P Q a w:=by
 refine KP hm hok (fun L a w=>OneG E n B (xW st val ops L) a w g ob lg) ?_ hQ (by simp only[Yg];exact h.drew hE);intro p hp a w K hJ hK;have h1:=adr.1 hps p hp;simp only[ado,adS,adr] at h1;obtain⟨hlt,hn⟩:=h1;have hpe:p.2.2=p.1|||2^p.2.1:=by have hok:=hok;unfold j3 at hok;simp only[ado,adr] at hok;exact eq_of_beq (hok.1 p hp)
 refine hstep p.2.1 ops[p.2.1] p.1 a w K (io hlt) hJ (fun k hk=>hJ.read_x k ?_) (fun a' w' h'=>hK a' w' ?_)
 . show(if cN ops p.1 k=true then V.x (val k) else st.t k)=_;rw[adl (hn k hk)]
 . rw[hpe];exact h'.le (Pt (io hlt))
end
def HoldH(E:Env)(n:Nat)(B:Hb)(H:Nat->Option Obj)(st:St)(a:Act)(w:World):Prop:=
 ∃m O,Now E n [] O m st a w∧(∀g ob,H g=some ob-> ¬O g∧w.heap[g]?=some ob∧m g=some 0∧B.ws.heap.size<=g∧E.K<=g)∧(∀k,O k->B.ws.heap.size<=k)∧Step (fun _=>False) B.ms B.ws m w∧B.Kn.P m w∧KeepT B.W B.t0 a.tmps
section
variable{E:Env}{n sz:Nat}{B:Hb}{H H':Nat->Option Obj}{m m':Lim}{w w':World}{st:St}{a:Act}{O:Nat->Prop}{r:Option Nat}
theorem HoldH.of(h:Hold E n sz B [] st a w):HoldH E n B (fun _=>none) st a w:=by obtain⟨m,O,gs,h1,h2,h3,h4,h5,h6,h7⟩:=h;exact⟨m,O,h1,fun g ob e=>(by cases e),h4,h5,h6,h7⟩
variable{st':St}
theorem HoldH.le(h:HoldH E n B H st a w)(hl:Le st' st):HoldH E n B H st' a w:=by obtain⟨m,O,h1,h2⟩:=h;exact⟨m,O,h1.le hl,h2⟩
theorem HoldH.at(h:HoldH E n B H st a w){g:Nat}{ob:Obj}(hg:H g=some ob):w.heap[g]?=some ob:=by obtain⟨m,O,_,h2,_⟩:=h;exact(h2 g ob hg).2.1
theorem HoldH.read_x(h:HoldH E n B H st a w)(i:Nat){v:Value}(hi:st.t i= .x v):a.tmps.getD i undef=v:=by obtain⟨m,O,q1,_⟩:=h;exact q1.read_x i hi
theorem HoldH.read(h:HoldH E n B H st a w)(i:Nat){u:V}(hi:st.t i=u)(hu:u.dat=true):∃m,Rd m w (a.tmps.getD i undef) u:=by obtain⟨m,O,q1,_⟩:=h;exact⟨m,eM q1 i hi hu⟩
variable{a':Act}
theorem HoldH.grown(h2:∀g ob,H g=some ob-> ¬O g∧w.heap[g]?=some ob∧m g=some 0∧B.ws.heap.size<=g∧E.K<=g)(h4:∀k,O k->B.ws.heap.size<=k)(h5:Step (fun _=>False) B.ms B.ws m w)(h6:B.Kn.P m w)(hkt:KeepT B.W B.t0 a'.tmps)
 (hn:Now E n [] (pK O w w') m' st' a' w') (hs:Step O m w m' w'):HoldH E n B H st' a' w':=by
 refine⟨m',_,hn,fun g ob hg=>?_,fun k hg=>?_,h5.next hs (fun i hi ho=>absurd hi (ad0.2 (h4 i ho))),B.Kn.mono _ _ _ _ h6 hs.ext,hkt⟩
 . obtain⟨q1,q2,q3,q4,q5⟩:=h2 g ob hg;obtain⟨s1,s2⟩:=hs.same g (ag q2) q1;refine⟨fun hgr=>?_,s1.trans q2,s2.trans q3,q4,q5⟩;rcases hgr.2 with ho|ho
   . exact q1 ho
   . exact absurd (ag q2) (ad0.2 ho)
 . rcases hg.2 with ho|ho
   . exact h4 k ho
   . exact adJ h5.ext.size ho
theorem KR(hE:EnvOK E)(hm:E.P.follows .mixedOrders=true){c:Code}{K:Out->St->Prop}(hok:be E.any n c=true)(hW:mE B.W c=true)(h:HoldH E n B H st a w)(hr:run E c st K):
 c.wpIn (bg r) 0 E.P (fun e a' w'=>∃o st',eL e=some o∧K o st'∧HoldH E n B H st' a' w') a w:=by
 obtain⟨m,O,h1,h2,h4,h5,h6,h7⟩:=h;refine wpIn_mono (jA (r:=r) (W:=B.W) hE hm hok hW h1 hr) ?_;rintro e a' w' ⟨hk,o,st',m',ho,hK,hn,hs⟩;exact⟨o,st',ho,hK,HoldH.grown h2 h4 h5 h6 (h7.trans hk) hn hs⟩
theorem g9(hE:EnvOK E)(hm:E.P.follows .mixedOrders=true){c:Code}(ts:List (Nat×V))(bs:List (Nat×U))(hok:be E.any n c=true)(hW:mE B.W c=true)(h:HoldH E n B H st a w)(hr:run E c st (pN ts bs)){Q:Exit->Act->World->Prop}
 (hQ:∀a' w',HoldH E n B H (aq ts bs) a' w'->Q .normal a' w'):c.wpIn (bg r) 0 E.P Q a w:=by
 refine wpIn_mono (KR hE hm hok hW h hr) ?_;rintro e a' w' ⟨o,st',ho,hK,ht⟩;cases o with
 |ret=>exact hK.elim
 |exit id=>exact hK.elim
 |normal=>exact Wz
theorem Pu(hE:EnvOK E)(hm:E.P.follows .mixedOrders=true){c:Code}(id:Nat)(ts:List (Nat×V))(bs:List (Nat×U))(hok:be E.any n c=true)(hW:mE B.W c=true)(h:HoldH E n B H st a w)(hr:run E c st (wU id ts bs)){Q:Exit->Act->World->Prop}
 (hQ:∀a' w',HoldH E n B H (aq ts bs) a' w'->Q (.exit id) a' w'):c.wpIn (bg r) 0 E.P Q a w:=by
 refine wpIn_mono (KR hE hm hok hW h hr) ?_;rintro e a' w' ⟨o,st',ho,hK,ht⟩;cases o with
 |ret=>exact hK.elim
 |normal=>exact hK.elim
 |exit i=>exact XA
theorem Eb(hE:EnvOK E){ops:List Oper}{Q:Exit->Act->World->Prop}{K:Act->World->Prop}{i:Nat}{o:Oper}{st1:St}(hi:ops[i]?=some o)(hd:bu n [o]=true)(hW:ol B.W ops=true)(h:HoldH E n B H st a w)(h1:iR E ⟨ops⟩ o st=some st1)
 (hK:∀a' w',HoldH E n B H st1 a' w'->K a' w'):wpOpIn (bg r) 0 E.P ⟨ops⟩ Q i K a w:=by
 obtain⟨m,O,q1,q2,q4,q5,q6,q7⟩:=h;have hlt:=q1.lt;obtain⟨b,β,hrel⟩:=q1.rel;have hi1:(⟨ops⟩:Array Oper)[i]?=some o:=A0m
 have hwp:wpOpIn (bg r) 0 E.P ⟨ops⟩ Q i (fun a' w'=>HoldH E n B H st1 a' w'∨(∃m' β',Rel E n ⟨lst O w.heap.size,b,lst O w.heap.size,[]⟩ m w m' β' st1 a' w')) a w:=dC (hE.x (.inr (fun _ h=>h))) hrel hi1 (du hd A0k) h1 (fun a' w' m' β' hr'=> .inr ⟨m',β',hr'⟩);have hkeep:=eQ (W:=B.W) (t:=B.t0) (by simpa using hW) q7 (K':=fun a' w'=>HoldH E n B H st1 a' w') (fun a' w' hK' hkt=>by
  rcases hK' with hK'|⟨m',β',hr'⟩
  . exact hK'
  . obtain⟨hn,hst⟩:=Now.of_rel hE hlt hr';exact HoldH.grown q2 q4 q5 q6 hkt hn hst) hwp
 exact it (fun a' w' h'=>hK a' w' h') (fun e a' w' h'=>h'.1) hkeep
theorem KS(hE:EnvOK E){ops:List Oper}{Q:Exit->Act->World->Prop}(ts:List (Nat×V))(bs:List (Nat×U))(rest:List Nat):∀(l:List Oper) (is:List Nat) (st:St) (a:Act) (w:World),(is.map fun i=>ops[i]?)=l.map some->bu n l=true->ol B.W ops=true->
 HoldH E n B H st a w->(bH E ⟨ops⟩ l st fun st'=>gw st' ts∧gL st' bs)->(∀a' w',HoldH E n B H (aq ts bs) a' w'->wpOpsIn (bg r) 0 E.P ⟨ops⟩ Q rest a' w')->wpOpsIn (bg r) 0 E.P ⟨ops⟩ Q (is++rest) a w
 |[],[],st,a,w,_,_,_,h,hr,hK=>hK a w (h.le (aK hr.1 hr.2))
 |[],i::is,st,a,w,hi,_,_,h,hr,hK=>by simp at hi
 |o::l,[],st,a,w,hi,_,_,h,hr,hK=>by simp at hi
 | o ::l,i::is,st,a,w,hi,hd,hWo,h,hr,hK=>by
   rw[aee,wpOpsIn_cons];simp only[adL,adW] at hi;obtain⟨st',hs,hl,hb⟩:=da _ _ hr;unfold eV at hs;split at hs
   . rename_i st1 h1;have hd1:bu n [o]=true:=by simp only[bu,aeo,agu,ado,afd] at hd⊢;exact hd.1
     have hdl:bu n l=true:=by simp only[bu,aeo,ado] at hd;exact hd.2
     exact Eb hE hi.1 hd1 hWo h h1 (fun a' w' h'=>KS hE ts bs rest l is st1 a' w' hi.2 hdl hWo h' (gI _ _ hs ⟨hl,hb⟩) hK)
   . cases hs
theorem uE(hE:EnvOK E){ops:List Oper}{Q:Exit->Act->World->Prop}(k j:Nat)(ts:List (Nat×V))(bs:List (Nat×U))(rest:List Nat)(hl:k+j<=ops.length)(hd:bu n ((ops.drop k).take j)=true)(hW:ol B.W ops=true)
 (h:HoldH E n B H st a w) (hr:bH E ⟨ops⟩ ((ops.drop k).take j) st fun st'=>gw st' ts∧gL st' bs) (hK:∀a' w',HoldH E n B H (aq ts bs) a' w'->wpOpsIn (bg r) 0 E.P ⟨ops⟩ Q rest a' w'):wpOpsIn (bg r) 0 E.P ⟨ops⟩ Q (List.range' k j++rest) a w:=
 KS hE ts bs rest _ _ st a w (iX ops k j hl) hd hW h hr hK
variable{d:Tmp}
theorem HoldH.put(hd:d<n)(hWd:B.W d=true)(h:HoldH E n B H st a w){v:Value}{u:V}(hv:∀m,B.Kn.P m w->Rd m w v u):HoldH E n B H (st.put (some d) u.bare) (a.put (some d) v) w:=by obtain⟨m,O,q1,q2,q4,q5,q6,q7⟩:=h;exact⟨m,O,q1.put hd (hv m q6),q2,q4,q5,q6,q7.put (fun k e=>by cases e;exact hWd)⟩
theorem HoldH.putX(hd:d<n)(hWd:B.W d=true)(h:HoldH E n B H st a w)(v:Value):HoldH E n B H (st.put (some d) (.x v)) (a.put (some d) v) w:=by
 have:=h.put hd hWd (v:=v) (u:= .x v) (fun _ _=> .x _)
 rwa [dB] at this
theorem HoldH.know(hd:d<n)(h:HoldH E n B H st a w){u:V}(hv:∀m,B.Kn.P m w->Rd m w (a.tmps.getD d undef) u):HoldH E n B H (st.put (some d) u.bare) a w:=by obtain⟨m,O,q1,q2,q4,q5,q6,q7⟩:=h;have hp:=q1.put hd (hv m q6);rw[pT] at hp;exact⟨m,O,hp,q2,q4,q5,q6,q7⟩
theorem HoldH.learn{Kn':Kno}(h:HoldH E n B H st a w)(hk:∀m O,Now E n [] O m st a w->B.Kn.P m w->Kn'.P m w):HoldH E n {B with Kn:=Kn'} H st a w:=by obtain⟨m,O,q1,q2,q4,q5,q6,q7⟩:=h;exact⟨m,O,q1,q2,q4,q5,hk m O q1 q6,q7⟩
theorem HoldH.wrote(hE:EnvOK E)(h:HoldH E n B H st a w)(hos:w'.os=w.os)(htp:w'.tape=w.tape)(hou:w'.output=w.output)(hsz:w.heap.size<=w'.heap.size)(hb:∀k,k<w.heap.size->H k=none->w'.heap[k]?=w.heap[k]?)(hH:∀g ob,H' g=some ob->w'.heap[g]?=some ob∧(H g≠none∨w.heap.size<=g)):HoldH E n B H' st a w':=by
 obtain⟨m,O,q1,q2,q4,q5,q6,q7⟩:=h;have hne:∀k,O k->H k=none:=fun k hk=>by
  cases e:H k with
  |none=>rfl
  |some ob=>exact absurd hk (q2 k ob e).1
 have hs:Step (fun k=>H k≠none) m w (fun j=>if w.heap.size<=j then some 0 else m j) w':=by
  refine⟨hos,htp,hou,⟨hsz,fun b off v hlt hm hc=>?_,fun b hlt fr' hf=>?_,fun b es c hm hc=>?_⟩,fun k hk hn=>⟨hb k hk A0Y,adq (afg.2 hk)⟩⟩
  . cases e:H b with
    |none=>rw[bc (hb b hlt e)];exact hc
    |some ob=>exact absurd (hm 0 (q2 b ob e).2.2.1) (afe _)
  . rw[adq (afg.2 hlt)] at hf;exact⟨fr',hf,adp _⟩
  . cases e:H b with
    |none=>rw[hb b (eA hc) e];exact hc
    |some ob=>rw[(q2 b ob e).2.2.1] at hm;cases hm
 have hJ:E.J w':=hE.keep ((List.range w.heap.size).filter fun k=>(H k).isSome) _ _ (fun x hx=>by
  obtain⟨ob,e⟩:=agi.1 (adZ.1 hx).2
  exact(q2 x ob e).2.2.2.2) q1.J (hs.bel (fun k hk e=>adZ.2 ⟨adU.2 hk,by cases e':H k with
   |none=>exact absurd e' e
   |some _=>rfl⟩))
 have hK:E.K<=w.heap.size:=hE.high _ q1.J;refine⟨_,O,q1.other hs (fun k hk e=>e (hne k hk)) hJ,fun g ob hg=>?_,q4,q5.next hs (fun i hi e=>?_),B.Kn.mono _ _ _ _ q6 hs.ext,q7⟩
 . obtain⟨h1,h2⟩:=hH g ob hg;rcases h2 with h2|h2
   . cases e:H g with
     |none=>exact absurd e h2
     |some ob'=>obtain⟨s1,s2,s3,s4,s5⟩:=q2 g ob' e;exact⟨s1,h1,by rw[adq (afg.2 (ag s2))];exact s3,s4,s5⟩
   . exact⟨fun ho=>absurd (q1.lt g ho) (ad0.2 h2),h1,adl h2,adJ q5.ext.size h2,adJ hK h2⟩
 . cases e':H i with
   |none=>exact absurd e' e
   |some ob=>exact absurd hi (ad0.2 (q2 i ob e').2.2.2.1)
theorem HoldH.done(h:HoldH E n B H st a w){v:Value}{u:V}(hv:∀m,(∀g,H g≠none->m g=none)->B.Kn.P m w->Rd m w v u):Hold E n sz {B with Kn:=Kno.rd v u} [] st a w:=by
 obtain⟨m,O,q1,q2,q4,q5,q6,q7⟩:=h;have hne:∀k,O k->H k=none:=fun k hk=>by
  cases e:H k with
  |none=>rfl
  |some ob=>exact absurd hk (q2 k ob e).1
 have hs:Step (fun k=>H k≠none) m w (fun j=>if H j=none then m j else none) w:=by
  refine⟨rfl,rfl,rfl,⟨adp _,fun b off v hlt hm hc=>hc,fun b hlt fr' hf=>?_,fun b es c hm hc=>hc⟩,fun k hk hn=>⟨rfl,adl A0Y ⟩⟩;split at hf
  . exact⟨fr',hf,adp _⟩
  . cases hf
 refine⟨_,O,[],q1.other hs (fun k hk e=>e (hne k hk)) q1.J,.nil,fun _ h=>A09,q4,q5.next hs (fun i hi e=>?_),hv _ (fun g hg=>adq hg) (B.Kn.mono _ _ _ _ q6 hs.ext),q7⟩;cases e':H i with
 |none=>exact absurd e' e
 |some ob=>exact absurd hi (ad0.2 (q2 i ob e').2.2.2.1)
theorem HoldH.drew(hE:EnvOK E)(h:HoldH E n B H st a w):HoldH E n B H st a {w with drawn:=w.drawn+1}:=
 h.wrote hE rfl rfl rfl (adp _) (fun _ _ _=>rfl) (fun g ob e=>⟨h.at e,.inl (by rw[e];exact fun h=>by cases h)⟩)
end
section
variable{P:Program}{m:Lim}{w:World}{ρ:Operand->Value}{o:Oper}
variable{p:Addr}
theorem dK{x:Operand}(ho:o.op= .nilCheck x)(hx:ρ x= .pointer (some p)):(execOp ρ o).run P w= .ok (.value (.pointer (some p))) w:=by simp[execOp,ho,hx]
variable{t el:TypeId}{cap:Nat}
theorem KT{x:Operand}{a:Option Addr}{len:Nat}(ho:o.op= .call {callee:= .builtin .len,args:= #[x],argTypes:= #[t]})(hu:P.underlying t=some (.slice el))(hx:ρ x= .slice a len cap):(execOp ρ o).run P w= .ok (.value (.int .i64 (len:Int))) w:=by simp[execOp,ho,resolve,invoke,builtin,Builtin.len_,hx,aC hu,goInt]
theorem xX{x:Operand}(ho:o.op= .box t x):(execOp ρ o).run P w= .ok (.value (.pointer (some ⟨w.heap.size,0,none⟩))) (w.alloc (.cells (ρ x).cells t)):=by simp only[execOp,ho,Instr.box,Gc,Ge,newVar,newRow,run_newObj,Gd];rfl
theorem KU(ho:o.op= .makeMap t none):(execOp ρ o).run P w= .ok (.value (.map (some w.heap.size))) (w.alloc (.map #[] 0)):=by simp only[execOp,ho,afp,Gc,Gd,Ge,Instr.makeMap,run_newObj];rfl
variable{y:Operand}{zv:Value}
theorem nN{x:Operand}{i:TypeInfo}{k:IntKind}{l:Int}(ho:o.op= .makeSlice t x y)(hu:P.underlying t=some (.slice el))(hi:P.info? el=some i)(hz:i.zero=some zv)(hx:ρ x= .int k l)(hy:ρ y= .int k l)(h0:0<=l)(hb:(i.bytes:Int)*l<=281474976710656)(hm:l<=9223372036854775807):
 (execOp ρ o).run P w= .ok (.value (.slice (some ⟨w.heap.size,0,none⟩) l.toNat l.toNat)) (w.alloc (.cells (madeCells zv.cells (l.toNat*i.size)) el)):=by
 have hrun:=run_make (P:=P) w t el i zv hu hi hz k k l l h0 (afv _) hb hm;simp only[execOp,ho,Gc,hx,hy,hrun,Ge,Gd]
variable{b off:Nat}{v:Value}{vals:Array Value}{ty:TypeId}
theorem mR{x:Operand}(ho:o.op= .store t x y)(hs:bo P t=some 1)(hx:ρ x= .pointer (some ⟨b,off,none⟩))(hy:ρ y=v)(hv:v.cells= #[v])(hone:v.oneCell'=true)
 (hh:w.heap[b]?=some (.cells vals ty (0,0))) (hc:off<vals.size):(execOp ρ o).run P w= .ok .skip (w.setRow b (vals.set! off v)):=by
 have hst:=de P b off ty (0,0) [v] 0 vals w hh (.inl rfl) A0F (fun u hu=>by rw[adj.1 hu];exact hone);have he:(vals.toList.take (off+0)++[v]++vals.toList.drop (off+0+[v].length)).toArray=vals.set! off v:=by
  apply aed.1;rw[List.toList_toArray];apply aeB;intro i;have:=gH (l:=vals.toList) (q:=[v]) (off:=off) A0F i;simp only[aej,aeq] at this⊢;rw[this];simp only[Array.set!_eq_setIfInBounds,af6,adX];split
  . rw[adq A0b]
  . split
    . have e:i=off:=A0b
      subst e;rw[adl rfl,adl (by simpa using hc),agv];rfl
    . rw[adq A0b]
 rw[he] at hst;exact Wy
def blkOf:Value->Option Nat
 | .slice (some a) _ _=>some a.block
 |_=>none
def RowI(H:Nat->Option Obj)(v:Value)(es:List Int):Prop:=
 (es=[]∧v= .slice none 0 0)∨∃(g cap:Nat) (cur:Array Value) (ty:TypeId),es≠[]∧v= .s g es.length cap∧H g=some (.cells cur ty (0,0))∧es.length<=cap∧cur.size=cap∧∀j:Nat,∀i:Int,es[j]?=some i->cur[j]?=some (.int .i64 i)
def RowJ(H:Nat->Option Obj)(v:Value)(es:List Int):Prop:=
 (es=[]∧v= .slice none 0 0)∨∃(g cap:Nat) (cur:Array Value) (ty:TypeId),v= .s g es.length cap∧H g=some (.cells cur ty (0,0))∧es.length<=cap∧cur.size=cap∧∀j:Nat,∀i:Int,es[j]?=some i->cur[j]?=some (.int .i64 i)
variable{H:Nat->Option Obj}
theorem RowI.j{es:List Int}(h:RowI H v es):RowJ H v es:=h.imp id fun⟨g,cap,cur,ty,_,h⟩=>⟨g,cap,cur,ty,h⟩
theorem RowJ.i{es:List Int}(h:RowJ H v es)(hne:es≠[]):RowI H v es:=h.imp id fun⟨g,cap,cur,ty,h⟩=>⟨g,cap,cur,ty,hne,h⟩
theorem xY{i:TypeInfo}(hu:P.underlying t=some (.slice el))(hi:P.info? el=some i)(hs:i.size=1)(hz:i.zero=some zv)(hzv:zv.cells.size=1)(hby:i.bytes=8){H:Nat->Option Obj}{v y:Value}{es:List Int}{x:Int}(hr:RowJ H v es)(hw:∀g ob,H g=some ob->w.heap[g]?=some ob)(hy:Rd m w y (.sl false 1 [.i x] none))(hlen:es.length+1<=100000000):
 ∃(v':Value) (w':World) (g:Nat) (ob:Obj),(Builtin.append_ #[t,t] ty #[v,y]).run P w= .ok v' w'∧w'.os=w.os∧w'.tape=w.tape∧w'.output=w.output∧w.heap.size<=w'.heap.size∧blkOf v'=some g∧w'.heap[g]?=some ob∧(∀k,k<w.heap.size->k≠g->w'.heap[k]?=w.heap[k]?)∧(blkOf v=some g∨w.heap.size<=g)∧∀H',H' g=some ob->RowJ H' v' (es++[x]):=by
 obtain⟨cs,hS⟩:=Ij (P:=P) (t:=t) (el:=el) hu hi hy (.inl hs.symm);have hflat:=hS.flat;have hcs:cs=[.int .i64 x]:=by
  have hl:=hflat.len;simp only[adm,adT,hs] at hl
  match cs,hl with
  |[c],_=>obtain⟨c',hc,hr⟩:=(hflat.each 0 _ rfl).2 0 _ rfl;simp only[agt,adi] at hc;cases hc;rw[Rd.x_iff.1 hr]
 subst hcs;have hsnoc:∀(l:List Value),l.length=es.length->(∀(j:Nat) (n:Int),es[j]?=some n->l[j]?=some (.int .i64 n))->∀(r:List Value) (j:Nat) (n:Int),(es++[x])[j]?=some n->(l++[.int .i64 x]++r)[j]?=some (.int .i64 n):=fun l hl h r j n hj=>by
  by_cases hlt:j<es.length
  . rw[adu hlt] at hj;rw[aef,adu A0b];exact h j n hj
  . rw[adH A0b] at hj;have e:j=es.length:=by have:=(iO.1 hj).1;simp at this;omega
    subst e;rw[agv] at hj;cases hj;rw[aef,adH A0b,hl,agv];rfl
 rcases hr with⟨rfl,rfl⟩|⟨g,cap,cur,tyc,rfl,hg,hcap,hsz,hc⟩
 . have hrun:=hS.nil A0k ty zv hz A0k A0k (by rw[hby];simp);have hge:=grownCap_ge w [V.i x].length 0 el;simp only[adm,adT,adi] at hrun hge;refine⟨_,_,w.heap.size,_,hrun,rfl,rfl,rfl,?_,rfl,World.heap_new w.drew _,fun k hk _=>Below.heap_alloc w.drew _ k hk,.inr (adp _),fun H' h'=>?_⟩
   . exact agG (ag (World.heap_new w.drew _))
   . refine .inr ⟨_,_,_,_,rfl,h',by simpa using hge,?_,fun j n hj=>?_⟩
     . simp only[afA,size_zeroCells,hzv,aeR,adm,adT];omega
     . have:=hsnoc [] rfl (fun j n hj=>by simp at hj) (Builtin.zeroCells zv.cells (grownCap w 1 0 el-1)).toList j n hj;rw[<-adF];simpa using this
 . have hh:=hw g _ hg;have hlt:=ag hh;have hold:∀(j:Nat) (n:Int),es[j]?=some n->(cur.toList.take es.length)[j]?=some (.int .i64 n):=fun j n hj=>by rw[ad6,adl (iO.1 hj).1,adF];exact hc j n hj
   have holdl:(cur.toList.take es.length).length=es.length:=by rw[adz];exact aeZ (by rw[show cur.toList.length=cur.size from adD];omega)
   by_cases hroom:es.length+1<=cap
   . have hrun:=hS.room ty g es.length cap cur (.plain tyc) hh (fun u hu=>by rw[adj.1 hu];rfl) hroom (by simp only[hs,adx,adm,adT];omega);refine⟨_,_,g,_,hrun,rfl,rfl,rfl,A0k,rfl,setRow_heap w g cur _ tyc (0,0) hh,fun k _ hk=>setRow_other w g k _ hk,.inl rfl,fun H' h'=>?_⟩;refine .inr ⟨_,_,_,_,by rw[adh];rfl,h',by rw[adh];exact hroom,?_,fun j n hj=>?_⟩
     . simp only[hs,aeR,adh,adz,aeE,adD,adm,adT];omega
     . have:=hsnoc _ holdl hold (cur.toList.drop (es.length+1)) j n hj;rw[aew];simpa[hs] using this
   . have hrun:=hS.grow A0k ty zv ⟨g,0,none⟩ es.length cap (cur.toList.take es.length) hz (by rw[holdl,hs,adx]) (fun j u hj=>by
      rw[aP,adi,Box.cell hh];rw[ad6] at hj;split at hj
      . rwa [adF] at hj
      . cases hj) A0F A0F (growslice_fits A0F (by rw[hby];simp;omega))
     simp only[adm,adT,adi] at hrun;have hge:=grownCap_ge w (es.length+1) cap el;refine⟨_,_,w.heap.size,_,hrun,rfl,rfl,rfl,?_,rfl,World.heap_new w.drew _,fun k hk _=>Below.heap_alloc w.drew _ k hk,.inr (adp _),fun H' h'=>?_⟩
     . exact agG (ag (World.heap_new w.drew _))
     . refine .inr ⟨_,_,_,_,by rw[adh];rfl,h',by rw[adh];exact hge,?_,fun j n hj=>?_⟩
       . simp only[afA,size_zeroCells,hzv,aeR,adm,adT,holdl];omega
       . have:=hsnoc _ holdl hold (Builtin.zeroCells zv.cells (grownCap w (es.length+1) cap el-(es.length+1))).toList j n hj;rw[<-adF];simpa using this
theorem xZ{i:TypeInfo}(hu:P.underlying t=some (.slice el))(hi:P.info? el=some i)(hs:i.size=1)(hz:i.zero=some zv)(hzv:zv.cells.size=1)(hby:i.bytes=8){H:Nat->Option Obj}{v y:Value}{es:List Int}{x:Int}(hr:RowI H v es)(hw:∀g ob,H g=some ob->w.heap[g]?=some ob)(hy:Rd m w y (.sl false 1 [.i x] none))(hlen:es.length+1<=100000000):
 ∃(v':Value) (w':World) (g:Nat) (ob:Obj),(Builtin.append_ #[t,t] ty #[v,y]).run P w= .ok v' w'∧w'.os=w.os∧w'.tape=w.tape∧w'.output=w.output∧w.heap.size<=w'.heap.size∧blkOf v'=some g∧w'.heap[g]?=some ob∧(∀k,k<w.heap.size->k≠g->w'.heap[k]?=w.heap[k]?)∧(blkOf v=some g∨w.heap.size<=g)∧∀H',H' g=some ob->RowI H' v' (es++[x]):=by
 obtain⟨v',w',g,ob,h1,h2,h3,h4,h5,h6,h7,h8,h9,h10⟩:=xY (ty:=ty) hu hi hs hz hzv hby hr.j hw hy hlen;exact⟨v',w',g,ob,h1,h2,h3,h4,h5,h6,h7,h8,h9,fun H' h=>(h10 H' h).i A0k ⟩
end
section
variable{H:Nat->Option Obj}{vs:List Value}{ess:List (List Int)}{X:List Nat}
variable{v:Value}
theorem RowI.blk{es:List Int}(h:RowI H v es){g:Nat}(hb:blkOf v=some g):H g≠none:=by
 rcases h with⟨_,rfl⟩|⟨g',cap,cur,ty,_,rfl,hg,_⟩
 . cases hb
 . cases hb;show H g'≠none;rw[hg];exact fun h=>by cases h
theorem RowI.other{es:List Int}(h:RowI H v es){g:Nat}{o:Option Obj}(hne:blkOf v≠some g):RowI (upd H g o) v es:=by
 rcases h with h|⟨g',cap,cur,ty,h0,rfl,hg,h1⟩
 . exact .inl h
 . refine .inr ⟨g',cap,cur,ty,h0,rfl,?_,h1⟩;rw[ah _ _ (fun e=>hne (by rw[<-e];rfl))];exact hg
structure Piles (H:Nat->Option Obj) (vs:List Value) (ess:List (List Int)) (X:List Nat):Prop where
 len:vs.length=ess.length
 row:∀(i:Nat) (v:Value) (es:List Int),vs[i]?=some v->ess[i]?=some es->RowI H v es
 sep:∀(i j:Nat) (v v':Value) (g:Nat),i≠j->vs[i]?=some v->vs[j]?=some v'->blkOf v=some g->blkOf v'≠some g
 out:∀(i:Nat) (v:Value) (g:Nat),vs[i]?=some v->blkOf v=some g->g∉X
theorem Piles.set(h:Piles H vs ess X){i:Nat}{v v':Value}{es':List Int}{g:Nat}{ob:Obj}(hi:vs[i]?=some v)(hX:∀x∈X,H x≠none)(hb:blkOf v'=some g)(hg:blkOf v=some g∨H g=none)(hr:RowI (upd H g (some ob)) v' es'):Piles (upd H g (some ob)) (vs.set i v') (ess.set i es') X:=by
 have hil:=(iO.1 hi).1;have hgn:∀j u,j≠i->vs[j]?=some u->blkOf u≠some g:=fun j u hj hu e=>by
  rcases hg with hg|hg
  . exact h.sep i j v u g (aeM hj) hi hu hg e
  . have hjl:=(iO.1 hu).1;obtain⟨e0,he0⟩:∃e0,ess[j]?=some e0:=⟨_,io (by rw[<-h.len];exact hjl)⟩;exact(h.row j u e0 hu he0).blk e hg
 have hv:∀j u,(vs.set i v')[j]?=some u->(j=i∧u=v')∨(j≠i∧vs[j]?=some u):=fun j u hu=>by
  by_cases e:j=i
  . subst e;rw[ae8 hil] at hu;cases hu;exact .inl ⟨rfl,rfl⟩
  . rw[ae0 (aeM e)] at hu;exact .inr ⟨e,hu⟩
 refine⟨by rw[adV,adV];exact h.len,fun j u e hu he=>?_,fun j k u u' b hjk hu hu' hb1 hb2=>?_,fun j u b hu hbu=>?_⟩
 . rcases hv j u hu with⟨rfl,rfl⟩|⟨hj,hu⟩
   . rw[ae8 (by rw[<-h.len];exact hil)] at he;cases he;exact hr
   . rw[ae0 (aeM hj)] at he;exact(h.row j u e hu he).other (hgn j u hj hu)
 . rcases hv j u hu with⟨rfl,rfl⟩|⟨hj,hu2⟩
   . rw[hb] at hb1;cases hb1;rcases hv k u' hu' with⟨rfl,rfl⟩|⟨hk,hu3⟩
     . exact hjk rfl
     . exact hgn k u' hk hu3 hb2
   . rcases hv k u' hu' with⟨rfl,rfl⟩|⟨hk,hu3⟩
     . rw[hb] at hb2;cases hb2;exact hgn j u hj hu2 hb1
     . exact h.sep j k u u' b hjk hu2 hu3 hb1 hb2
 . rcases hv j u hu with⟨rfl,rfl⟩|⟨hj,hu2⟩
   . rw[hb] at hbu;cases hbu;rcases hg with hg|hg
     . exact h.out _ v _ hi hg
     . exact fun hx=>hX _ hx hg
   . exact h.out j u b hu2 hbu
theorem Piles.other(h:Piles H vs ess X){x:Nat}{o:Option Obj}(hx:x∈X):Piles (upd H x o) vs ess X:=
 ⟨h.len,fun i v es hi he=>(h.row i v es hi he).other (fun e=>h.out i v x hi e hx),h.sep,h.out⟩
end
def sX(ops:List Oper):Bool:=(List.range ops.length).all fun i=>match ops[i]? with|some o=>(directV o).all (fun k=>decide (k<i))|none=>true
def ClosedM(ops:List Oper)(L:Nat):Prop:=∀j o,ops[j]?=some o->L.testBit j=true->∀k∈directV o,L.testBit k=true
variable{ops:List Oper}{L:Nat}{o:Oper}
theorem nO{i:Nat}(ho:ops[i]?=some o)(hr:bZ ops L i=true):L.testBit i=false∧∀k∈directV o,L.testBit k=true:=by unfold bZ at hr;rw[ho,ado,aeS] at hr;exact⟨hr.1,adr.1 hr.2⟩
theorem ClosedM.next{i:Nat}(h:ClosedM ops L)(ho:ops[i]?=some o)(hr:bZ ops L i=true):ClosedM ops (L|||2^i):=by
 intro j o' ho' hj k hk;rw[afz,afa,aeK,adS] at hj⊢;rcases hj with hj|rfl
 . exact .inl (h j o' ho' hj k hk)
 . rw[ho] at ho';cases ho';exact .inl ((nO ho hr).2 k hk)
variable{P:Program}{r:Option Nat}{w:World}{Q:Exit->Act->World->Prop}
theorem x7{a:Act}(hm:P.follows .mixedOrders=true)(hok:sX ops=true)(J:Nat->Act->World->Prop)
 (hstep:∀(L i:Nat) (o:Oper) (a:Act) (w:World) (K:Act->World->Prop),ops[i]?=some o->bZ ops L i=true->ClosedM ops L->J L a w->(∀a' w',J (L|||2^i) a' w'->K a' w')->wpOpIn (bg r) 0 P ⟨ops⟩ Q i K a w) (hQ:∀a w,J (2^ops.length-1) a w->Q .normal a w) {id:Nat} (h0:J 0 a {w with drawn:=w.drawn+1}):(Code.region id ⟨ops⟩ true).wpIn (bg r) 0 P Q a w:=by
 refine wpIn_region_any hm ?_;have hready:∀(L:Nat) (Ls:List Nat) (listed:Array Bool),listed.size=ops.length->(∀i,(listed.getD i false=true↔i∈Ls))->(∀i,i∈Ls↔L.testBit i=true)->∀i,i∈Region.ready .any ⟨ops⟩ listed↔i<ops.length∧bZ ops L i=true:=by
  intro L Ls listed hsz hag hbit i;have hb:∀k,listed.getD k false=true↔L.testBit k=true:=fun k=>(hag k).trans (hbit k)
  rw[cL];constructor
  . rintro⟨h1,o,h2,h3⟩;have h2:ops[i]?=some o:=by simpa using h2
    have hlt:=aZ h2;refine⟨hlt,?_⟩;rw[co (ops:=⟨ops⟩) hsz hlt] at h1;have hn:L.testBit i=false:=by
     cases hb':L.testBit i with
     |false=>rfl
     |true=>rw[(hb i).2 hb'] at h1;cases h1
    simp only[bZ,hn,afV,ae1,h2,adr];exact fun k hk=>(hb k).1 (h3 k hk)
  . rintro⟨hlt,hr⟩;simp only[bZ,ado,aeS] at hr;obtain⟨hn,hd⟩:=hr;split at hd
    case h_2=>cases hd
    rename_i o ho;refine⟨?_,o,by simpa using ho,fun k hk=>(hb k).2 (adr.1 hd k hk)⟩;rw[co (ops:=⟨ops⟩) hsz hlt];cases hg:listed.getD i false with
    |false=>rfl
    |true=>rw[(hb i).1 hg] at hn;cases hn
 have hSL:∀L,L<2^ops.length->(L=2^ops.length-1∨∃i,i<ops.length∧bZ ops L i=true):=by
  intro L hL;by_cases hall:∀i,i<ops.length->L.testBit i=true
  . refine .inl (Nat.eq_of_testBit_eq fun i=>?_);rw[Nat.testBit_two_pow_sub_one];by_cases hi:i<ops.length
    . rw[hall i hi];simp[hi]
    . rw[Nat.testBit_lt_two_pow (ad1 hL (Nat.pow_le_pow_right A0c A0b))];simp[hi]
  . have hex:∃i,i<ops.length∧L.testBit i=false:=by
     apply Classical.byContradiction;intro hno;refine hall (fun i hi=>?_);cases hb:L.testBit i with
     |true=>rfl
     |false=>exact absurd ⟨i,hi,hb⟩ hno
    obtain⟨i0,hi0,hb0⟩:=hex;obtain⟨i,⟨hi,hb⟩,hmin⟩:=Dy (fun i=>i<ops.length∧L.testBit i=false) i0 ⟨hi0,hb0⟩;refine .inr ⟨i,hi,?_⟩;have ho:ops[i]?=some ops[i]:=io hi;unfold bZ;rw[ho,hb];simp only[afV,ae1,adr];intro k hk;have htk:=adr.1 hok i (adU.2 hi);rw[ho] at htk;have hki:k<i:=adQ (adr.1 htk k hk);cases hbk:L.testBit k with
    |true=>rfl
    |false=>have:=hmin k ⟨A0b,hbk⟩;omega
 have key:∀(fuel L:Nat) (Ls:List Nat) (listed:Array Bool) (a:Act) (w:World),L<2^ops.length->ClosedM ops L->listed.size=ops.length->(∀i,(listed.getD i false=true↔i∈Ls))->(∀i,i∈Ls↔L.testBit i=true)->
  ((List.range ops.length).filter fun j=> !Ls.contains j).length<=fuel->J L a w->wpAnyIn (bg r) 0 P .any ⟨ops⟩ Q fuel listed a w:=by
  intro fuel
  induction fuel with
  | zero=>
    intro L Ls listed a w hL hcl hsz hag hbit hrem h;have hno:∀i,i<ops.length->i∈Ls:=fun i hi=>by
     have h0:((List.range ops.length).filter fun j=> !Ls.contains j)=[]:=aem.1 (Nat.le_zero.1 hrem);by_cases hm:i∈Ls
     . exact hm
     . exact Ww
    have hnr:∀i,i<ops.length->bZ ops L i=false:=fun i hi=>by simp[bZ,(hbit i).1 (hno i hi)]
    have hfull:L=2^ops.length-1:=by
     rcases hSL L hL with h1|⟨i,hi,hr⟩
     . exact h1
     . rw[hnr i hi] at hr;cases hr
    exact Wx
  | succ f ih=>
    intro L Ls listed a w hL hcl hsz hag hbit hrem h;refine⟨fun hr=>?_,fun i hi=>?_⟩
    . have hfull:L=2^ops.length-1:=by
       rcases hSL L hL with h1|⟨i,hi,hr'⟩
       . exact h1
       . exact Wu
      exact hQ a w (hfull▸h)
    . obtain⟨hlt,hr⟩:=(hready L Ls listed hsz hag hbit i).1 hi;have ho:ops[i]?=some ops[i]:=io hlt;have hn:i∉Ls:=fun hm=>by simp only[bZ,(hbit i).1 hm,afc,afI] at hr;cases hr
      refine hstep L i ops[i] a w (fun a' w'=>wpAnyIn (bg r) 0 P .any ⟨ops⟩ Q f (listed.setIfInBounds i true) a' w') ho hr hcl h (fun a' w' h'=>by
       refine ih (L|||2^i) (i::Ls) _ a' w' (Nat.or_lt_two_pow hL (Nat.pow_lt_pow_right A0c hlt)) (hcl.next ho hr) A1s (fun j=>?_) (fun j=>?_) (by have:=iT hlt hn;omega) h'
       . by_cases e:j=i
         . subst e;rw[dJ A0b];simp
         . rw[getD_set_ne _ (aeM e),hag j];simp[e]
       . rw[afz,afa,aeK,<-hbit j,adA,adS];constructor
         . rintro(rfl|h)
           . exact .inr rfl
           . exact .inl h
         . rintro(h|rfl)
           . exact .inr h
           . exact .inl rfl)
 refine key _ 0 [] _ a _ (Nat.pow_pos A0c) (fun j o _ h=>by simp at h) A0k (fun i=>?_) (fun i=>by simp) ?_ h0
 . simp only[adC,ae2];split<;>simp
 . exact adJ (aey _ _) A0k
section
variable{E:Env}{n:Nat}{B:Hb}{H H':Nat->Option Obj}{w w':World}{st:St}{a:Act}{r:Option Nat}
variable{d:Tmp}{v:Value}
theorem aX{K:Act->World->Prop}{i:Nat}(hi:ops[i]?=some o)(hdef:∀c,o.op≠ .defer c)(hd:o.dst=some d)(hg:o.guard=none)(hrun:(execOp a.eval o).run E.P w= .ok (.value v) w')
 (hK:K (a.put (some d) v) w'):wpOpIn (bg r) 0 E.P ⟨ops⟩ Q i K a w:=by
 unfold wpOpIn;have hi':(⟨ops⟩:Array Oper)[i]?=some o:=A0m
 rw[hi'];simp only;rw[adl A0u];refine⟨fun _ _=>trivial,?_⟩;rw[Oper.semAt_eq _ _ _ hdef,hrun];show K (a.put o.dst v) w';rw[hd];exact hK
theorem kh{K:Act->World->Prop}{i:Nat}(hi:ops[i]?=some o)(hdef:∀c,o.op≠ .defer c)(hd:o.dst=none)(hg:o.guard=none)(hrun:(execOp a.eval o).run E.P w= .ok .skip w')(hK:K a w'):wpOpIn (bg r) 0 E.P ⟨ops⟩ Q i K a w:=by
 unfold wpOpIn;have hi':(⟨ops⟩:Array Oper)[i]?=some o:=A0m
 rw[hi'];simp only;rw[adl A0u];refine⟨fun _ _=>trivial,?_⟩;rw[Oper.semAt_eq _ _ _ hdef,hrun];show K (a.put o.dst undef) w';rw[hd];exact hK
variable{rest:List Nat}
theorem c8{i:Nat}(hi:ops[i]?=some o)(hdef:∀c,o.op≠ .defer c)(hd:o.dst=some d)(hdn:d<n)(hWd:B.W d=true)(hg:o.guard=none)(h:HoldH E n B H st a w)(hrun:(execOp a.eval o).run E.P w= .ok (.value v) w)
 (hK:∀a',HoldH E n B H (st.put (some d) (.x v)) a' w->wpOpsIn (bg r) 0 E.P ⟨ops⟩ Q rest a' w):wpOpsIn (bg r) 0 E.P ⟨ops⟩ Q (i::rest) a w:=by
 rw[wpOpsIn_cons];exact aX hi hdef hd hg hrun (hK _ (h.putX hdn hWd v))
def gC(st:St)(val:Nat->V)(ops:List Oper)(L:Nat):St:=⟨fun k=>if cN ops L k=true then val k else st.t k,st.b⟩
theorem QT(st:St)(val:Nat->V)(ops:List Oper):gC st val ops 0=st:=by unfold gC cN;simp
variable{k:Nat}
theorem au{val:Nat->V}(h:(ops.all fun o=>o.dst !=some k)=true):(gC st val ops L).t k=st.t k:=by
 show(if cN ops L k=true then val k else st.t k)=_;rw[adq];unfold cN;intro hd;obtain⟨i,_,hi⟩:=aeJ.1 hd;rw[ado] at hi;split at hi
 . rename_i o ho;have:=adr.1 h o (adg ho);rw[eq_of_beq hi.2] at this;simp at this
 . cases hi.2
theorem Ec{i:Nat}{val val':Nat->V}(hi:ops[i]?=some o)(hv:∀k,o.dst≠some k->val' k=val k):Le (gC st val' ops (L|||2^i)) (match o.dst with|some d=>(gC st val ops L).put (some d) (val' d)|none=>gC st val ops L):=by
 cases hd:o.dst with
 | none=>
   have e:gC st val' ops (L|||2^i)=gC st val ops L:=by unfold gC;congr 1;funext k;rw[oZ hi,hd,hv k (by rw[hd];exact fun h=>by cases h)];simp
   rw[e];exact Le.refl _
 | some d=>
   refine⟨fun k=> .inr (.inl ?_),fun s cs h=>⟨cs,h,fG cs⟩⟩;show(if cN ops (L|||2^i) k=true then val' k else st.t k)=upd (gC st val ops L).t d (val' d) k;rw[oZ hi,hd,aJ];by_cases e:k=d
   . subst e;simp
   . have e':(some d==some k)=false:=by simpa using fun h=>e h.symm
     rw[adq e,e',afS,hv k (by rw[hd];exact fun h=>e (by cases h;rfl))];rfl
theorem uF{n j:Nat}(hcl:ClosedM ops L)(ho:ops[n]?=some o)(hall:((List.range n).all fun k=>(directV o).contains k)=true)(hj:j<=n)(hb:L.testBit j=false):L.testBit n=false:=by
 cases h:L.testBit n with
 |false=>rfl
 | true=>
   rcases Nat.lt_or_eq_of_le hj with h1|rfl
   . have:=hcl n o ho h j (by simpa using adr.1 hall j (adU.2 h1));rw[hb] at this;cases this
   . rw[hb] at h;cases h
theorem av(L:Nat){i k:Nat}(h:i≠k):(L|||2^i).testBit k=L.testBit k:=by rw[afz,afa];simp[h]
theorem cy(L i:Nat):(L|||2^i).testBit i=true:=by rw[afz,afa];simp
def jF(ops:List Oper)(k j:Nat):Bool:=match ops[j]? with|some o=>o.dst==some k|none=>false
theorem BQ(hE:EnvOK E)(hm:E.P.follows .mixedOrders=true)(hok:sX ops=true)(need:Nat->List Nat)(hps:((List.range ops.length).all fun i=>(match ops[i]? with|some o=>(need i).all fun k=>(directV o).any (jF ops k)|none=>true))=true)(I:Nat->(Nat->Option Obj)->(Nat->V)->Prop)
 (hstep:∀(L i:Nat) (o:Oper) (H:Nat->Option Obj) (val:Nat->V) (a:Act) (w:World) (K:Act->World->Prop),ops[i]?=some o->L.testBit i=false->(∀k∈directV o,L.testBit k=true)->ClosedM ops L->I L H val->HoldH E n B H (gC st val ops L) a w->(∀k∈need i,(gC st val ops L).t k=val k)->
  (∀a' w' H' val',(∀k,o.dst≠some k->val' k=val k)->I (L|||2^i) H' val'->HoldH E n B H' (match o.dst with|some d=>(gC st val ops L).put (some d) (val' d)|none=>gC st val ops L) a' w'->K a' w')->wpOpIn (bg r) 0 E.P ⟨ops⟩ Q i K a w)
 (val0:Nat->V) (hI:I 0 H val0) (hQ:∀a w H val,I (2^ops.length-1) H val->HoldH E n B H (gC st val ops (2^ops.length-1)) a w->Q .normal a w) {id:Nat} (h:HoldH E n B H st a w):(Code.region id ⟨ops⟩ true).wpIn (bg r) 0 E.P Q a w:=by
 refine x7 hm hok (fun L a w=>∃H val,I L H val∧HoldH E n B H (gC st val ops L) a w) ?_ (fun a w ⟨H,val,h1,h2⟩=>hQ a w H val h1 h2) ⟨H,val0,hI,by rw[QT];exact h.drew hE⟩;rintro L i o a w K ho hr hcl ⟨H,val,h1,h2⟩ hK;obtain⟨hb,hd⟩:=nO ho hr;refine hstep L i o H val a w K ho hb hd hcl h1 h2 (fun k hk=>?_) (fun a' w' H' val' hv hI' h'=>hK a' w' ⟨H',val',hI',h'.le (Ec ho hv)⟩);show(if cN ops L k=true then val k else st.t k)=_;rw[adl];have h3:=adr.1 hps i (adU.2 (iO.1 ho).1);rw[ho] at h3;obtain⟨j,hj,hjk⟩:=aeJ.1 (adr.1 h3 k hk);unfold cN;refine aeJ.2 ⟨j,adU.2 ?_,by rw[hd j hj,ae1];exact hjk⟩;unfold jF at hjk;split at hjk
 . rename_i o' ho';exact(iO.1 ho').1
 . cases hjk
end
