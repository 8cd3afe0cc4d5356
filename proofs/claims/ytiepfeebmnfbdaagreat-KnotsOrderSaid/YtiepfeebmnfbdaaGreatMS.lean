/- MS -/
import Derived.Test.YtiepfeebmnfbdaaGreatMG
import Derived.Sort.AssemblyPlain
import Derived.Sort.LotD4
namespace Go.Proofs.YtiepfeebmnfbdaaGreat
open Tryz
set_option linter.unusedSimpArgs false
set_option maxHeartbeats 8000000
set_option maxRecDepth 100000
open Go Go.RowKit
attribute [go_sem] results89 results90 results92 results93 results94 results95 results96 results100 results103 results104 results106
theorem Xk{P:Prop}(h:P:=by rw[oV hc A00] at hi3;rw[hl] at l1;simp +decide only[go_sem,X1,X2,X3,bC,c1,c2,l1];refine⟨⟨i+1,A0b,A0b,hi3⟩,?_,?_,by simp only;omega⟩<;>simp +decide only[go_sem]<;>(repeat' first|rfl|constructor)):P:=h
theorem Xj{P:Prop}(h:P:=by rw[oW hc A00] at hj3;rw[hl] at l1;simp +decide only[go_sem,X1,X2,X3,bC,c1,c2,l1];refine⟨⟨k,A0b,A0b,hj3⟩,?_,?_,by simp only;omega⟩<;>simp +decide only[go_sem]<;>(repeat' first|rfl|constructor)):P:=h
theorem Xi{P:Prop}(h:P:=by simp +decide only[go_sem,X1,X2,X3,bC,c1]):P:=h
theorem Xh{P:Prop}(h:P:=by have s1:=eD (N:=N) IL JL dk A0b A0b hdk;refine Sem.run hE ai A0a ?_;simp +decide only[go_sem,X1,X2,X3,bC,c1,c2,c3,s1];refine⟨⟨(IL+1,JL-1,swp dk IL JL),by simp only;omega,by simp only;omega,by simp only;omega,by rw[bR];exact hdk,heq⟩,?_,?_,by simp only;omega⟩<;>simp +decide only[go_sem]<;>(repeat' first|rfl|constructor)):P:=h
theorem Xg{P:Prop}(h:P:=by simp +decide only[go_sem,X1,X2,X3,bC,c1,c2,l1]):P:=h
theorem Xf{P:Prop}(h:P:=by refine⟨⟨(2*r+1,swp dk (F+r) (F+(2*r+1))),A0b,by rw[bR];exact hdk,heq⟩,?_,?_,by simp only;omega⟩<;>simp +decide only[go_sem]<;>(repeat' first|rfl|constructor)):P:=h
theorem Xe{P:Prop}(h:P:=by refine⟨⟨(i+1,dj),A0b,A0b,hdj,by rw[hej];exact heq⟩,?_,?_,by simp only;omega⟩<;>simp +decide only[go_sem]<;>(repeat' first|rfl|constructor)):P:=h
theorem Xd{P:Prop}(h:P:=by rw[hl2] at l2 heq;simp only[adI,adw] at heq;subst heq;simp +decide only[go_sem,X1,X2,X3,bC,p1,p2,c1,p3,p4,p5,c2,l1,p6,p7,l2]):P:=h
theorem Xc{P:Prop}(h:P:=by rw[hl] at l1;simp +decide (maxDischargeDepth:=200) only[go_sem,X1,X2,X3,bC,w1,l1]):P:=h
def Sem(E:Env)(n:Nat)(pm:Pm)(m0:Lim)(w0:World)(c:Code)(st:St)(K:Out->St->Prop):Prop:=
 ∀a w m β,Rel E n pm m0 w0 m β st a w->c.wpIn (bg none) 0 E.P (fH E n pm m0 w0 K) a w
def Gs(ts:List (Nat×V))(bs:List (Nat×U))(K:Out->St->Prop):Out->St->Prop
 | .normal,st=>gw st ts∧gL st bs
 | .ret,st=>K .ret st
 | .exit id,st=>K (.exit id) st
def seqQ(Q:Prop)(ts:List (Nat×V))(bs:List (Nat×U))(K:Out->St->Prop):Out->St->Prop
 | .normal,st=>Q∧gw st ts∧gL st bs
 | .ret,st=>K .ret st
 | .exit id,st=>K (.exit id) st
def Pd(K:Out->St->Prop):Out->St->Prop
 | .normal,_=>False
 | .ret,st=>K .ret st
 | .exit id,st=>K (.exit id) st
def nL{X:Type}(T:X->List (Nat×V))(B:X->List (Nat×U))(μ:X->Nat)(n:Nat)(K:Out->St->Prop):Out->St->Prop
 | .normal,st=>sE T B μ n st
 | .ret,st=>K .ret st
 | .exit id,st=>K (.exit id) st
section
variable{E:Env}{n:Nat}{pm:Pm}{m0:Lim}{w0:World}{st:St}{K:Out->St->Prop}
section
variable(ts:List (Nat×V))(bs:List (Nat×U))(K:Out->St->Prop)(st:St)(id:Nat)
theorem xB:Gs ts bs K .normal st=(gw st ts∧gL st bs):=rfl
theorem xC(Q:Prop):seqQ Q ts bs K .normal st=(Q∧gw st ts∧gL st bs):=rfl
theorem Kj(Q:Prop):seqQ Q ts bs K .ret st=K .ret st:=rfl
theorem Gt(Q:Prop):seqQ Q ts bs K (.exit id) st=K (.exit id) st:=rfl
theorem Bw(Q:Prop){o o':Out}(h:o=o'):seqQ Q ts bs K o st=seqQ Q ts bs K o' st:=by rw[h]
variable{o o':Out}
theorem Bx(h:o=o'):Gs ts bs K o st=Gs ts bs K o' st:=by rw[h]
theorem Kk:Pd K .ret st=K .ret st:=rfl
theorem Gu:Pd K (.exit id) st=K (.exit id) st:=rfl
theorem Gv:Gs ts bs K (.exit id) st=K (.exit id) st:=rfl
variable{X:Type}(T:X->List (Nat×V))(B:X->List (Nat×U))(μ:X->Nat)(n:Nat)
theorem rK:nL T B μ n K .normal st=sE T B μ n st:=rfl
theorem By:nL T B μ n K .ret st=K .ret st:=rfl
theorem uv(h:o=o'):nL T B μ n K o st=nL T B μ n K o' st:=by rw[h]
theorem xE:nL T B μ n K (.exit id) st=K (.exit id) st:=rfl
end
attribute [go_sem] xB Gv Kk Gu rK By xE gw gL
attribute [go_sem] xC Kj Gt
attribute [congr] Bw Bx uv
theorem Sem.run(hE:EnvX E pm)(hm:E.P.follows .mixedOrders=true){c:Code}(hok:be E.any n c=true)(h:Go.Proofs.YtiepfeebmnfbdaaGreat.run E c st K):Sem E n pm m0 w0 c st K:=fun a w m β hr=>
 wpIn_mono (lJ (r:=none) (W:=fun _=>true) hE hm c K st a w m β hok (ik c) hr h) (fun _ _ _ h=>h.1)
variable{c:Code}
theorem Sem.seq{d:Code}(ts:List (Nat×V))(bs:List (Nat×U))(h1:Sem E n pm m0 w0 c st (Gs ts bs K))(h2:Sem E n pm m0 w0 d (aq ts bs) K):Sem E n pm m0 w0 (c.seq d) st K:=fun a w m β hr=>by
 refine wpIn_seq (wpIn_mono (h1 a w m β hr) ?_);intro e a' w' hp;cases e<;>simp only[fH,Exit.then] at hp⊢ <;>first|exact hp.elim|exact hp|skip
 obtain⟨st',m',β',hk,h'⟩:=hp;exact h2 a' w' m' β' (h'.le (aK hk.1 hk.2))
theorem Sem.seqQ{d:Code}(Q:Prop)(ts:List (Nat×V))(bs:List (Nat×U))(h1:Sem E n pm m0 w0 c st (Go.Proofs.YtiepfeebmnfbdaaGreat.seqQ Q ts bs K))(h2:Q->Sem E n pm m0 w0 d (aq ts bs) K):Sem E n pm m0 w0 (c.seq d) st K:=fun a w m β hr=>by
 refine wpIn_seq (wpIn_mono (h1 a w m β hr) ?_);intro e a' w' hp;cases e<;>simp only[fH,Exit.then] at hp⊢ <;>first|exact hp.elim|exact hp|skip
 obtain⟨st',m',β',⟨hq,hk1,hk2⟩,h'⟩:=hp;exact h2 hq a' w' m' β' (h'.le (aK hk1 hk2))
theorem Sem.seq_out{d:Code}(h1:Sem E n pm m0 w0 c st (Pd K)):Sem E n pm m0 w0 (c.seq d) st K:=fun a w m β hr=>by
 refine wpIn_seq (wpIn_mono (h1 a w m β hr) ?_);intro e a' w' hp;cases e<;>simp only[fH,Exit.then] at hp⊢ <;>first|exact hp.elim|exact hp|skip
 obtain⟨st',m',β',hk,h'⟩:=hp;exact hk.elim
theorem Sem.block{id:Nat}(h:Sem E n pm m0 w0 c st (lI id K)):Sem E n pm m0 w0 (.block id c) st K:=fun a w m β hr=>by
 refine wpIn_block (wpIn_mono (h a w m β hr) ?_);intro e a' w' hp;cases e<;>simp only[fH,Exit.inBlock] at hp⊢ <;>first|exact hp.elim|exact hp|skip
 rename_i id';obtain⟨st',m',β',hk,h'⟩:=hp;by_cases hid:id'=id
 . subst hid;rw[j5,adl rfl] at hk;simp only[adB];exact⟨st',m',β',hk,h'⟩
 . rw[j5,adq hid] at hk;simp only[hid,adw];exact⟨st',m',β',hk,h'⟩
variable{X:Type}
theorem Sem.loop(T:X->List (Nat×V))(B:X->List (Nat×U))(μ:X->Nat)(x0:X)(h0:gw st (T x0))(h0':gL st (B x0))
 (h:∀x,Sem E n pm m0 w0 c (aq (T x) (B x)) (nL T B μ (μ x) K)):Sem E n pm m0 w0 (.loop c) st K:=fun a w m β hr=>by
 refine cI (X:=X) (fun x a w=>∃m β,Rel E n pm m0 w0 m β (aq (T x) (B x)) a w) μ x0 ⟨m,β,hr.le (aK h0 h0')⟩ ?_;rintro x a1 w1 ⟨m1,β1,hr1⟩;refine wpIn_mono (h x a1 w1 m1 β1 hr1) ?_;intro e a' w' hp;cases e<;>simp only[fH] at hp⊢ <;>first|exact hp.elim|exact hp|skip
 obtain⟨st',m',β',⟨x',h1,h2,h3⟩,h'⟩:=hp;exact⟨x',⟨m',β',h'.le (aK h1 h2)⟩,h3⟩
theorem Sem.cond{c:Operand}{x y:Code}{t:Bool}(hc:ev E st c= .bool t)(h1:t=true->Sem E n pm m0 w0 x st K)(h2:t=false->Sem E n pm m0 w0 y st K):Sem E n pm m0 w0 (.cond c x y) st K:=fun a w m β hr=>by have hv:a.eval c= .bool t:=(hc▸aQ hr c:Rs m w β (a.eval c) (.bool t)).x;exact wpIn_cond_split hv (fun e=>h1 e a w m β hr) (fun e=>h2 e a w m β hr)
theorem Sem.mono{K':Out->St->Prop}(h:Sem E n pm m0 w0 c st K)(hk:∀o st,K o st->K' o st):Sem E n pm m0 w0 c st K':=fun a w m β hr=>by refine wpIn_mono (h a w m β hr) ?_;intro e a' w' hp;cases e<;>simp only[fH] at hp⊢ <;>first|exact hp.elim|(obtain⟨st',m',β',h1,h2⟩:=hp;exact⟨st',m',β',hk _ _ h1,h2⟩)
theorem Bz(hEx:∀pm:Pm,∀bk,pm.b E.xk=bk->(∀f lb F,E.X f lb=some F->FunX E bk f lb F)->EnvX E pm)(hmb:∀s,1000<=s->E.MB s=false)(_hm:E.P.follows .mixedOrders=true){f:FuncId}{fn:Func}{c:Code}{F:U->Option (V×List U)}{k bk:Nat}(hf:E.P.funcs[f]?=some fn)(hb:fn.body=some c)
 (hcall:∀args w,(callFunc f args).run E.P w= .ok (.enter f args) w) (hn:fn.ntmps=n) (hk:k<n) (hn1:n<=1000) (hxk:E.xk=1000+k) (hX:∀f lb F,E.X f lb=some F->FunX E bk f lb F)
 (hrun:∀us r outs,F us=some (r,outs)->∃cs,us.length=k+1∧us[k]?=some (.bx cs)∧∀pm m0 w0,EnvX E pm->Sem E n pm m0 w0 c ⟨upd (dR us).t k .undef,(dR us).b⟩ (IH E fn.results.toList us r outs)):FunX E bk f [] F:=by
 intro m w vs us bs gs hs r outs hF hargs hnd hhnd hj hg;obtain⟨cs,hl,hcs,hrun⟩:=hrun us r outs hF;have hlen:=hargs.len;simp only[adh,adD,adm,adT] at hlen;have hargs':ArgsP m w E.K (vs.push (.p bk)).toList us bs gs hs:=by simpa using hargs
 obtain⟨γ,hrel,_,h1,h3,h8⟩:=lP hmb hn1 hargs' hnd hhnd hj hg A0F;have hγ:γ (1000+k)=bk:=by
  obtain⟨q1,_,_⟩:=h1 k cs hcs;have hkv:k=vs.size:=A0b
  subst hkv;simp at q1;exact q1.symm
 subst hn;have hE:EnvX E ⟨bs++(gs++hs),γ,gs,[]⟩:=hEx _ bk (by rw[hxk];exact hγ) hX;have hrel':=Rel.drop (T:=vs++Array.replicate (fn.ntmps-vs.size) undef) hrel A0F k (fun i hi=>by
  have hkv:k=vs.size:=A0b
  subst hkv;simp only[adC];rcases aeb i vs.size with h'|h'
  . rw[aet h',aet A0F,Array.getElem?_push_lt h',adG h']
  . rw[afC h',afC A0F];simp only[Array.size_push,ae2];have:i-vs.size<fn.ntmps-vs.size↔i-(vs.size+1)<fn.ntmps-(vs.size+1):=A0b
    by_cases hc:i-vs.size<fn.ntmps-vs.size
    . rw[adl hc,adl (this.1 hc)]
    . rw[adq hc,adq (fun h=>hc (this.2 h))])
 refine .inl ⟨hcall _ _,?_⟩;rw[show vs++(⟨[]⟩:Array Value)=vs from afX];refine calls_of_wp hf hb (wp_mono (wpIn_wide.1 (hrun _ _ _ hE _ _ _ _ hrel')) ?_);intro e a' w' hp
 have done:∀st' m' β',((oL E st' fn.results.toList=some r∨eX E st' fn.results.toList=some r)∧mF us st'=some outs)->Rel E fn.ntmps ⟨bs++(gs++hs),γ,gs,[]⟩ m w m' β' st' a' w'->a'.defers=[]∧∃v,(results fn a'.tmps).run E.P w'= .ok v w'∧∃v',Ending.returned v= .returned v'∧∃m',Rd m' w' v' r∧Bel (bs++(gs++hs)) w w'∧Ext m w m' w'∧(∀blk,blk<w.heap.size->blk∉gs->m' blk=m blk)∧(∃o1 o2,outs=o1++o2∧OutsP m' w' bs o1∧OutsM m' w' hs o2)∧
  ∀sz es k,r= .sl false sz es (some k)->∃g,RowIs m' w' v' g sz es.length∧(w.heap.size<=g∨g∈gs):=by
  intro st' m' β' h1' h2';obtain⟨q1,v,q2,q3⟩:=lQ h3 h8 h1' h2';exact⟨q1,v,q2,v,rfl,m',q3⟩
 cases e with
 |normal=>obtain⟨st',m',β',h1,h2⟩:=hp;exact done st' m' β' h1 h2
 |ret=>obtain⟨st',m',β',h1,h2⟩:=hp;exact done st' m' β' h1 h2
 |exit id=>obtain⟨st',m',β',h1,h2⟩:=hp;exact h1.elim
 |goto l=>exact hp.elim
 |panic ch=>exact hp.elim
 |outgrown=>exact hp.elim
end
open Go.Sort (swp)
def aH(d:Array C3):U:=d.toList.flatMap fun p=>(aa p).cells
theorem i7{a b:Array C3}(h:aH a=aH b):a=b:=by
 have key:∀l l':List C3,(l.flatMap fun p=>(aa p).cells)=(l'.flatMap fun p=>(aa p).cells)->l=l':=by
  intro l
  induction l with
  | nil=>
    intro l' h;cases l' with
    |nil=>rfl
    |cons p l'=>simp[aa,V.cells] at h
  | cons p l ih=>
    intro l' h;cases l' with
    |nil=>simp[aa,V.cells] at h
    | cons p' l'=>
      simp only[aeg] at h;obtain⟨h1,h2⟩:=List.append_inj h (by simp[aa,V.cells]);have e:aa p=aa p':=by obtain⟨x,y,z⟩:=p;obtain⟨x',y',z'⟩:=p';simp only[aa,V.cells] at h1⊢;rw[h1]
      rw[kM _ _ e,ih _ h2]
 exact aed.1 (key _ _ h)
abbrev eH(g sf:FuncId)(gl gs:Array Value):V:= .agg [.x (.func (.func g) #[] gl),.x (.func (.func sf) #[] gs)]
section
variable(g sf:FuncId)(gl gs:Array Value)
def en2(x:Nat×Nat×Array C3):U:=[.i x.1,.i x.2.1,.bx (aH x.2.2)]
def fb(x:Nat×Nat×Array C3):U:=[eH g sf gl gs,.i x.1,.i x.2.1,.bx (aH x.2.2)]
def g7(x:Nat×Nat×Nat×Array C3):U:=[eH g sf gl gs,.i x.1,.i x.2.1,.i x.2.2.1,.bx (aH x.2.2.2)]
def BC(x:Nat×Nat×Nat×Array C3):U:=[eH g sf gl gs,.i x.1,.i x.2.1,.bx [.i x.2.2.1],.bx (aH x.2.2.2)]
def BD(x:Nat×Nat×Array C3):U:=[eH g sf gl gs,.i x.1,.bx [.i x.2.1],.bx (aH x.2.2)]
def xF(x:Nat×Nat×Nat×Nat×Array C3):U:=[eH g sf gl gs,.i x.1,.i x.2.1,.i x.2.2.1,.bx [.i x.2.2.2.1],.bx (aH x.2.2.2.2)]
end
theorem DS(x y:Nat×Nat×Array C3)(h:en2 x=en2 y):x=y:=by obtain⟨a,b,d⟩:=x;obtain⟨a',b',d'⟩:=y;simp only[en2,adW,V.x.injEq,Value.int.injEq,V.bx.injEq,afK,aeQ,af1] at h;obtain⟨rfl,rfl,h⟩:=h;rw[i7 h]
section
variable{g sf:FuncId}{gl gs:Array Value}
theorem i8(x y:Nat×Nat×Array C3)(h:fb g sf gl gs x=fb g sf gl gs y):x=y:=by obtain⟨a,b,d⟩:=x;obtain⟨a',b',d'⟩:=y;simp only[fb,adW,V.x.injEq,Value.int.injEq,V.bx.injEq,afK,aeQ,af1] at h;obtain⟨rfl,rfl,h⟩:=h;rw[i7 h]
theorem mQ(x y:Nat×Nat×Nat×Array C3)(h:g7 g sf gl gs x=g7 g sf gl gs y):x=y:=by obtain⟨a,b,c,d⟩:=x;obtain⟨a',b',c',d'⟩:=y;simp only[g7,adW,V.x.injEq,Value.int.injEq,V.bx.injEq,afK,aeQ,af1] at h;obtain⟨rfl,rfl,rfl,h⟩:=h;rw[i7 h]
theorem Kl(x y:Nat×Nat×Nat×Array C3)(h:BC g sf gl gs x=BC g sf gl gs y):x=y:=by obtain⟨a,b,c,d⟩:=x;obtain⟨a',b',c',d'⟩:=y;simp only[BC,adW,V.x.injEq,Value.int.injEq,V.bx.injEq,afK,aeQ,af1] at h;obtain⟨rfl,rfl,rfl,h⟩:=h;rw[i7 h]
theorem Km(x y:Nat×Nat×Array C3)(h:BD g sf gl gs x=BD g sf gl gs y):x=y:=by obtain⟨a,c,d⟩:=x;obtain⟨a',c',d'⟩:=y;simp only[BD,adW,V.x.injEq,Value.int.injEq,V.bx.injEq,afK,aeQ,af1] at h;obtain⟨rfl,rfl,h⟩:=h;rw[i7 h]
theorem Ko(x y:Nat×Nat×Nat×Nat×Array C3)(h:xF g sf gl gs x=xF g sf gl gs y):x=y:=by obtain⟨a,b,e,c,d⟩:=x;obtain⟨a',b',e',c',d'⟩:=y;simp only[xF,adW,V.x.injEq,Value.int.injEq,V.bx.injEq,afK,aeQ,af1] at h;obtain⟨rfl,rfl,rfl,rfl,h⟩:=h;rw[i7 h]
end
theorem bR(d:Array C3)(i j:Nat):(swp d i j).size=d.size:=by simp[swp]
abbrev MX:Nat:=1000000
def GLess(N:Nat)(x:Nat×Nat×Array C3):Option (V×List U):=if x.1<N∧x.2.1<N∧x.2.2.size=N then some (.bool (ae x.2.2[x.1]! x.2.2[x.2.1]!),[aH x.2.2]) else none
def GSwp(N:Nat)(x:Nat×Nat×Array C3):Option (V×List U):=if x.1<N∧x.2.1<N∧x.2.2.size=N then some (.tup [],[aH (swp x.2.2 x.1 x.2.1)]) else none
def FunXV(G:Nat->V)(bk:Nat)(f:FuncId)(lb:List Value)(F:U->Option (V×List U)):Prop:=FunX (eB G (fun _ _=>none) 0) bk f lb F
structure SoOK (G:Nat->V) (bk N:Nat) (g sf:FuncId) (gl gs:Array Value):Prop where
 gl0:gl.toList≠[]
 gs0:gs.toList≠[]
 ne:g≠sf
 N1:N<=MX
 less:FunXV G bk g gl.toList (FE en2 (GLess N))
 swap:FunXV G bk sf gs.toList (FE en2 (GSwp N))
def SE(G:Nat->V)(bk:Nat):List (Nat×(U->Option (V×List U)))->Prop
 |[]=>True
 |p::l=>FunXV G bk p.1 [] p.2∧SE G bk l
section
variable{G:Nat->V}{bk N:Nat}{g sf:FuncId}{gl gs:Array Value}
theorem jO(hS:SoOK G bk N g sf gl gs)(l:List (Nat×(U->Option (V×List U))))(hl:SE G bk l):∃X:FuncId->List Value->Option (U->Option (V×List U)),(∀f lb F,X f lb=some F->FunXV G bk f lb F)∧X g gl.toList=some (FE en2 (GLess N))∧X sf gs.toList=some (FE en2 (GSwp N))∧∀f,X f []=bC l f:=by
 classical
 refine⟨fun f lb=>if lb=[] then bC l f else if f=g∧lb=gl.toList then some (FE en2 (GLess N)) else if f=sf∧lb=gs.toList then some (FE en2 (GSwp N)) else none,fun f lb F h=>?_,?_,?_,fun f=>adl rfl⟩
 . by_cases h0:lb=[]
   . simp only[h0,adB] at h⊢;have key:∀l,SE G bk l->bC l f=some F->FunXV G bk f [] F:=by
      intro l
      induction l with
      |nil=>intro _ h;cases h
      | cons p l ih=>
        intro q hF;simp only[bC] at hF;split at hF
        . rename_i e;cases hF;exact e▸q.1
        . exact ih q.2 hF
     exact key l hl h
   . simp only[h0,adw] at h;split at h
     . rename_i e;cases h;rw[e.1,e.2];exact hS.less
     . split at h
       . rename_i e;cases h;rw[e.1,e.2];exact hS.swap
       . cases h
 . simp only[hS.gl0,adw,and_self,adB]
 . simp only[hS.gs0,adw,and_self,adB];rw[adq (fun e=>hS.ne e.1.symm)]
theorem dg(i j:Nat)(d:Array C3)(hi:i<N)(hj:j<N)(hd:d.size=N):FE en2 (GLess N) [.i i,.i j,.bx (aH d)]=some (.bool (ae d[i]! d[j]!),[aH d]):=
 (ca DS (GLess N) (i,j,d)).trans (adl ⟨hi,hj,hd⟩)
theorem eD(i j:Nat)(d:Array C3)(hi:i<N)(hj:j<N)(hd:d.size=N):FE en2 (GSwp N) [.i i,.i j,.bx (aH d)]=some (.tup [],[aH (swp d i j)]):=
 (ca DS (GSwp N) (i,j,d)).trans (adl ⟨hi,hj,hd⟩)
end
variable{G:Nat->V}{f:FuncId}{fn:Func}{c:Code}{F:U->Option (V×List U)}{k n bk:Nat}
theorem jD{X:FuncId->List Value->Option (U->Option (V×List U))}(hX:∀f lb F,X f lb=some F->FunXV G bk f lb F)(hf:prog.funcs[f]?=some fn)(hb:fn.body=some c)
 (hcall:∀args w,(callFunc f args).run prog w= .ok (.enter f args) w) (hn:fn.ntmps=n) (hok:be (fun _=>false) n c=true) (hk:k<n) (hn1:n<=1000)
 (hrun:∀us r outs,F us=some (r,outs)->∃cs,us.length=k+1∧us[k]?=some (.bx cs)∧run (eB G X (1000+k)) c ⟨upd (dR us).t k .undef,(dR us).b⟩ (Dz (eB G X (1000+k)) fn.results.toList us r outs)):FunXV G bk f [] F:=by
 refine wB (E:=eB G X (1000+k)) (n:=n) (fun pm bk' h1 h2=>DC G X (1000+k) A0b pm bk' h1 h2) (fun _ _=>rfl) A0a hf hb hcall hn hok hk hn1 rfl hX (fun us r outs hF=>?_);obtain⟨cs,h1,h2,h3⟩:=hrun us r outs hF;refine⟨cs,h1,h2,_,Le.refl _,pE (fun o st hk=>?_) h3⟩;cases o with
 |exit id=>exact hk
 |normal=>exact⟨.inr hk.1,hk.2⟩
 |ret=>exact⟨.inr hk.1,hk.2⟩
theorem cM{X:FuncId->List Value->Option (U->Option (V×List U))}(hX:∀f lb F,X f lb=some F->FunXV G bk f lb F)(hf:prog.funcs[f]?=some fn)(hb:fn.body=some c)
 (hcall:∀args w,(callFunc f args).run prog w= .ok (.enter f args) w) (hn:fn.ntmps=n) (hk:k<n) (hn1:n<=1000)
 (hrun:∀us r outs,F us=some (r,outs)->∃cs,us.length=k+1∧us[k]?=some (.bx cs)∧∀pm m0 w0,EnvX (eB G X (1000+k)) pm->Sem (eB G X (1000+k)) n pm m0 w0 c ⟨upd (dR us).t k .undef,(dR us).b⟩ (Dz (eB G X (1000+k)) fn.results.toList us r outs)):FunXV G bk f [] F:=by
 refine Bz (E:=eB G X (1000+k)) (n:=n) (fun pm bk' h1 h2=>DC G X (1000+k) A0b pm bk' h1 h2) (fun _ _=>rfl) A0a hf hb hcall hn hk hn1 rfl hX (fun us r outs hF=>?_);obtain⟨cs,h1,h2,h3⟩:=hrun us r outs hF;refine⟨cs,h1,h2,fun pm m0 w0 hE=>Sem.mono (h3 pm m0 w0 hE) (fun o st hk=>?_)⟩;cases o with
 |exit id=>exact hk
 |normal=>exact⟨.inr hk.1,hk.2⟩
 |ret=>exact⟨.inr hk.1,hk.2⟩
theorem ai:prog.follows .mixedOrders=true:=A0a
def Kp(N:Nat)(x:Nat×Nat×Array C3):Option (V×List U):=if x.1<=x.2.1∧x.2.1<=N∧x.2.2.size=N then some (.tup [],[aH (Sort.insertionSort ae x.2.2 x.1 x.2.1)]) else none
variable{a:Nat}{d:Array C3}
theorem rM{j:Nat}(h: ¬a<j):Sort.insInner ae a j d=d:=by
 cases j with
 |zero=>rfl
 |succ j=>rw[Sort.insInner];simp;intro h1;omega
variable{N:Nat}{g sf:FuncId}{gl gs:Array Value}
theorem X4(hS:SoOK G bk N g sf gl gs):FunXV G bk 89 [] (FE (fb g sf gl gs) (Kp N)):=by
 obtain⟨X,hX,X1,X2,X3⟩:=jO hS [] trivial;have hN:=hS.N1;unfold MX at hN;refine jD (k:=3) hX func89 rfl (fun a w=>call89 a w) ntmps89 A0a A0c A0c ?_;intro us r outs hF;obtain⟨⟨a,b,d⟩,hus,hG⟩:=bh hF;subst hus;unfold Kp at hG;obtain⟨⟨hab,hbN,hd⟩,hG⟩:=bK hG;simp only at hab hbN hd;cases hG;refine⟨_,rfl,rfl,?_⟩;simp only[fb];have w1:az .i64 ((a:Int)+1)=((a+1:Nat):Int):=by rw[ak A0j];omega
 simp +decide (maxDischargeDepth:=200) only[go_sem,X1,X2,X3,bC,w1];refine aT (X:={x:Nat×Array C3//a+1<=x.1∧x.1<=N+1∧x.2.size=N∧Sort.insOuter ae a b x.1 x.2=Sort.insertionSort ae d a b}) (fun x=>[(1,.i a),(2,.i b),(3,.ptr 3 0),(6,.i x.1.1)]) (fun x=>[(3,[.x (.func (.func g) #[] gl),.x (.func (.func sf) #[] gs)]),(1003,aH x.1.2)]) (fun x=>b-x.1.1) ⟨(a+1,d),A0b,A0b,hd,rfl⟩ A0e A0e (fun⟨⟨i,dk⟩,hi1,hi2,hdk,heq⟩=>?_);simp only at hi1 hi2 hdk heq;by_cases hi:i<b
 . have c1:decide ((i:Int)<b)=true:=ac0 A0b;rw[Sort.insOuter,adl hi] at heq;have w2:az .i64 ((i:Int)+1)=((i+1:Nat):Int):=by rw[ak A0j];omega
   simp +decide only[go_sem,X1,X2,X3,bC,c1];refine aT (X:={y:Nat×Array C3//a<=y.1∧y.1<=i∧y.2.size=N∧Sort.insInner ae a y.1 y.2=Sort.insInner ae a i dk}) (fun y=>[(1,.i a),(2,.i b),(3,.ptr 3 0),(6,.i i),(7,.i y.1.1)]) (fun y=>[(3,[.x (.func (.func g) #[] gl),.x (.func (.func sf) #[] gs)]),(1003,aH y.1.2)]) (fun y=>y.1.1) ⟨(i,dk),A0b,A0b,hdk,rfl⟩ A0e A0e (fun⟨⟨j,dj⟩,hj1,hj2,hdj,hej⟩=>?_);simp only at hj1 hj2 hdj hej;by_cases hj:a<j
   . obtain⟨k,rfl⟩:∃k,j=k+1:=⟨j-1,A0b⟩;have q1:decide ((a:Int)<((k+1:Nat):Int))=true:=ac0 A0b;have q2:az .i64 (((k+1:Nat):Int)-1)=(k:Int):=by rw[ak A0j];omega
     have l1:=dg (N:=N) (k+1) k dj A0b A0b hdj;have s1:=eD (N:=N) (k+1) k dj A0b A0b hdj;rw[Sort.insInner] at hej;cases hl:ae dj[k+1]! dj[k]! with
     |false=>rw[hl] at l1 hej;simp only[Bool.and_false,adI,adw] at hej;simp +decide only[go_sem,X1,X2,X3,bC,q1,q2,w2,l1];exact Xe
     |true=>rw[hl] at l1 hej;simp only[afd,adS,agI,hj,adB] at hej;simp +decide only[go_sem,X1,X2,X3,bC,q1,q2,w2,l1,s1];refine⟨⟨(k,swp dj (k+1) k),A0b,A0b,by rw[bR];exact hdj,hej⟩,?_,?_,by simp only;omega⟩<;>simp +decide only[go_sem]<;>(repeat' first|rfl|constructor)
   . have q1:decide ((a:Int)<j)=false:=Io A0b;rw[rM hj] at hej;simp +decide only[go_sem,X1,X2,X3,bC,q1,w2];exact Xe
 . have c1:decide ((i:Int)<b)=false:=Io A0b;rw[Sort.insOuter,adq hi] at heq;subst heq;exact Xi
def sU(N:Nat)(x:Nat×Nat×Nat×Array C3):Option (V×List U):=if x.1<=N∧x.2.2.1+x.2.1<=N∧x.2.2.2.size=N then some (.tup [],[aH (Sort.siftDown ae x.2.1 x.2.2.1 x.1 x.2.2.2)]) else none
def xG(N:Nat)(x:Nat×Nat×Array C3):Option (V×List U):=if x.1<=x.2.1∧x.2.1<=N∧x.2.2.size=N then some (.tup [],[aH (Sort.heapSort ae x.2.2 x.1 x.2.1)]) else none
section
variable{hi F r:Nat}{d:Array C3}
theorem uw(h: ¬2*r+1<hi):Sort.siftDown ae hi F r d=d:=by rw[Sort.siftDown,dif_pos A0b]
theorem X5(h:2*r+2<hi)(h1:ae d[F+(2*r+1)]! d[F+(2*r+1)+1]! =true):Sort.siftDown ae hi F r d=if ae d[F+r]! d[F+(2*r+2)]! =true then Sort.siftDown ae hi F (2*r+2) (swp d (F+r) (F+(2*r+2))) else d:=by
 rw[Sort.siftDown,dif_neg A0b];have e:(decide (2*r+1+1<hi)&&ae d[F+(2*r+1)]! d[F+(2*r+1)+1]!)=true:=by rw[h1,afd];exact ac0 A0b
 rw[adl e];cases ae d[F+r]! d[F+(2*r+2)]! <;>simp[h]
theorem SF(h0:2*r+1<hi)(h1: ¬(2*r+2<hi∧ae d[F+(2*r+1)]! d[F+(2*r+1)+1]! =true)):Sort.siftDown ae hi F r d=if ae d[F+r]! d[F+(2*r+1)]! =true then Sort.siftDown ae hi F (2*r+1) (swp d (F+r) (F+(2*r+1))) else d:=by
 rw[Sort.siftDown,dif_neg A0b];have e: ¬(decide (2*r+1+1<hi)&&ae d[F+(2*r+1)]! d[F+(2*r+1)+1]!)=true:=by intro e;rw[ado,adS] at e;exact h1 ⟨A0b,e.2⟩
 rw[adq e];cases ae d[F+r]! d[F+(2*r+1)]! <;>simp
end
theorem DT(hi F:Nat):∀(n r:Nat) (d:Array C3),hi-r<=n->(Sort.siftDown ae hi F r d).size=d.size:=by
 intro n
 induction n with
 |zero=>intro r d h;rw[uw A0b]
 | succ n ih=>
   intro r d h;by_cases h0:2*r+1<hi
   . by_cases h1:2*r+2<hi∧ae d[F+(2*r+1)]! d[F+(2*r+1)+1]! =true
     . rw[X5 h1.1 h1.2];split
       . rw[ih _ _ A0b,bR]
       . rfl
     . rw[SF h0 h1];split
       . rw[ih _ _ A0b,bR]
       . rfl
   . rw[uw h0]
theorem SG(hS:SoOK G bk N g sf gl gs):FunXV G bk 100 [] (FE (g7 g sf gl gs) (sU N)):=by
 obtain⟨X,hX,X1,X2,X3⟩:=jO hS [] trivial;have hN:=hS.N1;unfold MX at hN;refine jD (k:=4) hX func100 rfl (fun a w=>call100 a w) ntmps100 A0a A0c A0c ?_;intro us r outs hF;obtain⟨⟨lo,hi,F,d⟩,hus,hG⟩:=bh hF;subst hus;unfold sU at hG;obtain⟨⟨hlo,hFh,hd⟩,hG⟩:=bK hG;simp only at hlo hFh hd;cases hG;refine⟨_,rfl,rfl,?_⟩;simp only[g7];simp +decide (maxDischargeDepth:=200) only[go_sem,X1,X2,X3,bC];refine aT (X:={x:Nat×Array C3//x.1<=N∧x.2.size=N∧Sort.siftDown ae hi F x.1 x.2=Sort.siftDown ae hi F lo d}) (fun x=>[(1,.i lo),(2,.i hi),(3,.i F),(4,.ptr 4 0),(8,.i x.1.1)]) (fun x=>[(4,[.x (.func (.func g) #[] gl),.x (.func (.func sf) #[] gs)]),(1004,aH x.1.2)]) (fun x=>hi-x.1.1) ⟨(lo,d),A0b,hd,rfl⟩ A0e A0e (fun⟨⟨r,dk⟩,hr,hdk,heq⟩=>?_);simp only at hr hdk heq;have p1:az .i64 (2*(r:Int))=((2*r:Nat):Int):=by rw[ak A0j];omega
 have p2:az .i64 (((2*r:Nat):Int)+1)=((2*r+1:Nat):Int):=by rw[ak A0j];omega
 by_cases h0:2*r+1<hi
 . have c1:decide ((hi:Int)<=((2*r+1:Nat):Int))=false:=Io A0b;have p3:az .i64 (((2*r+1:Nat):Int)+1)=((2*r+2:Nat):Int):=by rw[ak A0j];omega
   by_cases h1:2*r+2<hi
   . have c2:decide (((2*r+2:Nat):Int)<(hi:Int))=true:=ac0 A0b;have p4:az .i64 ((F:Int)+((2*r+1:Nat):Int))=((F+(2*r+1):Nat):Int):=by rw[ak A0j];omega
     have p5:az .i64 (((F+(2*r+1):Nat):Int)+1)=((F+(2*r+1)+1:Nat):Int):=by rw[ak A0j];omega
     have l1:=dg (N:=N) (F+(2*r+1)) (F+(2*r+1)+1) dk A0b A0b hdk;cases hl:ae dk[F+(2*r+1)]! dk[F+(2*r+1)+1]! with
     | true=>
       rw[X5 h1 hl] at heq;rw[hl] at l1;have p6:az .i64 ((F:Int)+(r:Int))=((F+r:Nat):Int):=by rw[ak A0j];omega
       have p7:az .i64 ((F:Int)+((2*r+2:Nat):Int))=((F+(2*r+2):Nat):Int):=by rw[ak A0j];omega
       have l2:=dg (N:=N) (F+r) (F+(2*r+2)) dk A0b A0b hdk;have s2:=eD (N:=N) (F+r) (F+(2*r+2)) dk A0b A0b hdk;cases hl2:ae dk[F+r]! dk[F+(2*r+2)]! with
       |false=>exact Xd
       |true=>rw[hl2] at l2 heq;simp only[adB] at heq;simp +decide only[go_sem,X1,X2,X3,bC,p1,p2,c1,p3,p4,p5,c2,l1,p6,p7,l2,s2];refine⟨⟨(2*r+2,swp dk (F+r) (F+(2*r+2))),A0b,by rw[bR];exact hdk,heq⟩,?_,?_,by simp only;omega⟩<;>simp +decide only[go_sem]<;>(repeat' first|rfl|constructor)
     | false=>
       rw[SF h0 (by rw[hl];simp)] at heq;rw[hl] at l1;have p6:az .i64 ((F:Int)+(r:Int))=((F+r:Nat):Int):=by rw[ak A0j];omega
       have p7:az .i64 ((F:Int)+((2*r+1:Nat):Int))=((F+(2*r+1):Nat):Int):=by rw[ak A0j];omega
       have l2:=dg (N:=N) (F+r) (F+(2*r+1)) dk A0b A0b hdk;have s2:=eD (N:=N) (F+r) (F+(2*r+1)) dk A0b A0b hdk;cases hl2:ae dk[F+r]! dk[F+(2*r+1)]! with
       |false=>exact Xd
       |true=>rw[hl2] at l2 heq;simp only[adB] at heq;simp +decide only[go_sem,X1,X2,X3,bC,p1,p2,c1,p3,p4,p5,c2,l1,p6,p7,l2,s2];exact Xf
   . have c2:decide (((2*r+2:Nat):Int)<(hi:Int))=false:=Io A0b;rw[SF h0 A0b] at heq;have p6:az .i64 ((F:Int)+(r:Int))=((F+r:Nat):Int):=by rw[ak A0j];omega
     have p7:az .i64 ((F:Int)+((2*r+1:Nat):Int))=((F+(2*r+1):Nat):Int):=by rw[ak A0j];omega
     have l2:=dg (N:=N) (F+r) (F+(2*r+1)) dk A0b A0b hdk;have s2:=eD (N:=N) (F+r) (F+(2*r+1)) dk A0b A0b hdk;cases hl2:ae dk[F+r]! dk[F+(2*r+1)]! with
     |false=>rw[hl2] at l2 heq;simp only[adI,adw] at heq;subst heq;simp +decide only[go_sem,X1,X2,X3,bC,p1,p2,c1,p3,c2,p6,p7,l2]
     |true=>rw[hl2] at l2 heq;simp only[adB] at heq;simp +decide only[go_sem,X1,X2,X3,bC,p1,p2,c1,p3,c2,p6,p7,l2,s2];exact Xf
 . have c1:decide ((hi:Int)<=((2*r+1:Nat):Int))=true:=ac0 A0b;rw[uw h0] at heq;subst heq;simp +decide only[go_sem,X1,X2,X3,bC,p1,p2,c1]
theorem DU(lo hi F:Nat)(d:Array C3)(h1:lo<=N)(h2:F+hi<=N)(h3:d.size=N):FE (g7 g sf gl gs) (sU N) [eH g sf gl gs,.i lo,.i hi,.i F,.bx (aH d)]=some (.tup [],[aH (Sort.siftDown ae hi F lo d)]):=
 (ca mQ (sU N) (lo,hi,F,d)).trans (adl ⟨h1,h2,h3⟩)
theorem Kq(hi F:Nat)(d:Array C3)(h2:F+hi<=N)(h3:d.size=N):FE (g7 g sf gl gs) (sU N) [eH g sf gl gs,.i 0,.i hi,.i F,.bx (aH d)]=some (.tup [],[aH (Sort.siftDown ae hi F 0 d)]):=DU 0 hi F d (adN _) h2 h3
theorem SH(n:Nat)(h:n<=1000000):az .i64 (az .i64 ((n:Int)-1)|>.tdiv 2)=((((n-1)/2+1:Nat)):Int)-1:=by
 have e0:az .i64 ((n:Int)-1)=(n:Int)-1:=ak A0j;rw[e0];have e:((n:Int)-1).tdiv 2=((((n-1)/2+1:Nat)):Int)-1:=by
  cases n with
  |zero=>decide
  |succ n=>rw[show((n+1:Nat):Int)-1=(n:Int) from by omega,af7 A0b];omega
 rw[e];exact ak A0j
theorem SI(hS:SoOK G bk N g sf gl gs):FunXV G bk 90 [] (FE (fb g sf gl gs) (xG N)):=by
 obtain⟨X,hX,X1,X2,X3⟩:=jO hS [(100,FE (g7 g sf gl gs) (sU N))] ⟨SG hS,trivial⟩;have hN:=hS.N1;unfold MX at hN;refine jD (k:=3) hX func90 rfl (fun a w=>call90 a w) ntmps90 A0a A0c A0c ?_;intro us r outs hF;obtain⟨⟨a,b,d⟩,hus,hG⟩:=bh hF;subst hus;unfold xG at hG;obtain⟨⟨hab,hbN,hd⟩,hG⟩:=bK hG;simp only at hab hbN hd;cases hG;refine⟨_,rfl,rfl,?_⟩;simp only[fb];have w1:az .i64 ((b:Int)-(a:Int))=((b-a:Nat):Int):=by rw[ak A0j];omega
 have w2:=SH (b-a) A0b;simp +decide (maxDischargeDepth:=200) only[go_sem,X1,X2,X3,bC,w1,w2];refine aT (X:={x:Nat×Array C3//x.1<=N+1∧x.2.size=N∧Sort.heapPop ae a (b-a) (Sort.heapBuild ae (b-a) a x.1 x.2)=Sort.heapSort ae d a b}) (fun x=>[(1,.i a),(2,.i b),(3,.ptr 3 0),(6,.i a),(7,.i 0),(8,.i (b-a:Nat)),(9,.i ((x.1.1:Int)-1))]) (fun x=>[(3,[.x (.func (.func g) #[] gl),.x (.func (.func sf) #[] gs)]),(1003,aH x.1.2)]) (fun x=>x.1.1) ⟨((b-a-1)/2+1,d),by simp only;omega,hd,rfl⟩ A0e A0e (fun⟨⟨k,dk⟩,hk,hdk,heq⟩=>?_);simp only at hk hdk heq;cases k with
 | succ k=>
   have c1:decide ((0:Int)<=((k+1:Nat):Int)-1)=true:=ac0 A0b;have e1:((k+1:Nat):Int)-1=(k:Int):=A0b
   have e2:az .i64 ((k:Int)-1)=(k:Int)-1:=ak A0j;have s1:=DU (g:=g) (sf:=sf) (gl:=gl) (gs:=gs) (N:=N) k (b-a) a dk A0b A0b hdk;rw[Sort.heapBuild] at heq;rw[e1] at c1⊢;simp +decide only[go_sem,X1,X2,X3,bC,c1,e2,s1];refine⟨⟨(k,Sort.siftDown ae (b-a) a k dk),by simp only;omega,by rw[DT _ _ _ _ _ (adp _)];exact hdk,heq⟩,?_,?_,by simp only;omega⟩<;>simp +decide only[go_sem]<;>(repeat' first|rfl|constructor)
 | zero=>
   have c1:decide ((0:Int)<=((0:Nat):Int)-1)=false:=Io A0b;rw[Sort.heapBuild] at heq;have e2:az .i64 (((b-a:Nat):Int)-1)=((b-a:Nat):Int)-1:=ak A0j;simp +decide only[go_sem,X1,X2,X3,bC,c1,e2];refine aT (X:={x:Nat×Array C3//x.1<=b-a∧x.2.size=N∧Sort.heapPop ae a x.1 x.2=Sort.heapSort ae d a b}) (fun x=>[(1,.i a),(2,.i b),(3,.ptr 3 0),(6,.i a),(7,.i 0),(8,.i (b-a:Nat)),(10,.i ((x.1.1:Int)-1))]) (fun x=>[(3,[.x (.func (.func g) #[] gl),.x (.func (.func sf) #[] gs)]),(1003,aH x.1.2)]) (fun x=>x.1.1) ⟨(b-a,dk),by simp only;omega,hdk,heq⟩ A0e A0e (fun⟨⟨k,dk⟩,hk,hdk,heq⟩=>?_);simp only at hk hdk heq;cases k with
   | succ k=>
     have c1:decide ((0:Int)<=((k+1:Nat):Int)-1)=true:=ac0 A0b;have e1:((k+1:Nat):Int)-1=(k:Int):=A0b
     have e3:az .i64 ((k:Int)-1)=(k:Int)-1:=ak A0j;have e4:az .i64 ((a:Int)+(k:Int))=((a+k:Nat):Int):=by rw[ak A0j];omega
     have t1:=eD (N:=N) a (a+k) dk A0b A0b hdk;have s1:=Kq (g:=g) (sf:=sf) (gl:=gl) (gs:=gs) (N:=N) k a (swp dk a (a+k)) A0b (by rw[bR];exact hdk);rw[Sort.heapPop] at heq;rw[e1] at c1⊢;simp +decide only[go_sem,X1,X2,X3,bC,c1,e3,e4,t1,s1];refine⟨⟨(k,Sort.siftDown ae k a 0 (swp dk a (a+k))),by simp only;omega,by rw[DT _ _ _ _ _ (adp _),bR];exact hdk,heq⟩,?_,?_,by simp only;omega⟩<;>simp +decide only[go_sem]<;>(repeat' first|rfl|constructor)
   |zero=>have c1:decide ((0:Int)<=((0:Nat):Int)-1)=false:=Io A0b;rw[Sort.heapPop] at heq;subst heq;exact Xi
section
variable{p:C3->Bool}{d:Array C3}
theorem oV{i j:Nat}(h:i<=j)(hp:p d[i]! =true):Sort.scanUp p d j i=Sort.scanUp p d j (i+1):=by rw[Sort.scanUp,adl (by rw[hp,afd];exact ac0 h)]
theorem gh{i j:Nat}(h: ¬(i<=j∧p d[i]! =true)):Sort.scanUp p d j i=i:=by rw[Sort.scanUp,adq (by rw[ado,adS];exact h)]
theorem DV{j:Nat}:∀(n i:Nat),j+1-i<=n->i<=Sort.scanUp p d j i∧(Sort.scanUp p d j i<=j+1∨Sort.scanUp p d j i=i):=by
 intro n
 induction n with
 |zero=>intro i h;rw[gh A0b];omega
 | succ n ih=>
   intro i h;by_cases h0:i<=j∧p d[i]! =true
   . rw[oV h0.1 h0.2];have:=ih (i+1) A0b;omega
   . rw[gh h0];omega
theorem oW{i j:Nat}(h:i<=j+1)(hp:p d[j+1]! =true):Sort.scanDown p d i (j+1)=Sort.scanDown p d i j:=by rw[Sort.scanDown,adl (by rw[hp,afd];exact ac0 h)]
theorem gm{i j:Nat}(h: ¬(i<=j∧p d[j]! =true)):Sort.scanDown p d i j=j:=by
 cases j with
 |zero=>rfl
 |succ j=>rw[Sort.scanDown,adq (by rw[ado,adS];exact h)]
theorem DW{i:Nat}(hi:1<=i):∀j:Nat,Sort.scanDown p d i j<=j∧(i<=Sort.scanDown p d i j+1∨Sort.scanDown p d i j=j):=by
 intro j
 induction j with
 |zero=>rw[gm A0b];omega
 | succ j ih=>
   by_cases h0:i<=j+1∧p d[j+1]! =true
   . rw[oW h0.1 h0.2];omega
   . rw[gm h0];omega
end
variable{I:Nat}
theorem ux{i j J:Nat}(hI:Sort.scanUp (fun x=>ae x d[a]!) d j i=I)(hJ:Sort.scanDown (fun x=> !ae x d[a]!) d I j=J)(h:J<I):Sort.partLoop ae a i j d=(J,d):=by rw[Sort.partLoop];simp only[hI,hJ,agI,h,adB]
theorem DX{i j J:Nat}(hI:Sort.scanUp (fun x=>ae x d[a]!) d j i=I)(hJ:Sort.scanDown (fun x=> !ae x d[a]!) d I j=J)(h: ¬J<I)(h2:J-1+1-(I+1)<j+1-i):Sort.partLoop ae a i j d=Sort.partLoop ae a (I+1) (J-1) (swp d I J):=by rw[Sort.partLoop];simp only[hI,hJ,agI,h,adw,h2,dif_pos]
theorem X6:∀(n i j:Nat) (d:Array C3),j+1-i<=n->1<=i->i<=j+2->(Sort.partLoop ae a i j d).1<=j∧(Sort.partLoop ae a i j d).2.size=d.size:=by
 intro n
 induction n with
 |zero=>intro i j d h h1 h3;have hI:=gh (p:=fun x=>ae x d[a]!) (d:=d) (i:=i) (j:=j) A0b;have hJ:=gm (p:=fun x=> !ae x d[a]!) (d:=d) (i:=i) (j:=j) A0b;rw[ux hI hJ A0b];exact⟨by simp only;omega,rfl⟩
 | succ n ih=>
   intro i j d h h1 h3;obtain⟨I,hI⟩:∃I,Sort.scanUp (fun x=>ae x d[a]!) d j i=I:=⟨_,rfl⟩;obtain⟨J,hJ⟩:∃J,Sort.scanDown (fun x=> !ae x d[a]!) d I j=J:=⟨_,rfl⟩;have b1:=DV (p:=fun x=>ae x d[a]!) (d:=d) (j:=j) _ i (adp _);rw[hI] at b1;have b2:=DW (p:=fun x=> !ae x d[a]!) (d:=d) (i:=I) A0b j;rw[hJ] at b2;by_cases hc:J<I
   . rw[ux hI hJ hc];exact⟨by simp only;omega,rfl⟩
   . rw[DX hI hJ hc A0b];have:=ih (I+1) (J-1) (swp d I J) A0b A0b A0b;rw[bR] at this;exact⟨A0b,this.2⟩
theorem Pe{i j J:Nat}(hI:Sort.scanUp (fun x=> !ae d[a]! x) d j i=I)(hJ:Sort.scanDown (fun x=>ae d[a]! x) d I j=J)(h:J<I):Sort.partEqLoop ae a i j d=(I,d):=by rw[Sort.partEqLoop];simp only[hI,hJ,agI,h,adB]
theorem Pf{i j J:Nat}(hI:Sort.scanUp (fun x=> !ae d[a]! x) d j i=I)(hJ:Sort.scanDown (fun x=>ae d[a]! x) d I j=J)(h: ¬J<I)(h2:J-1+1-(I+1)<j+1-i):Sort.partEqLoop ae a i j d=Sort.partEqLoop ae a (I+1) (J-1) (swp d I J):=by rw[Sort.partEqLoop];simp only[hI,hJ,agI,h,adw,h2,dif_pos]
def xH(N:Nat)(x:Nat×Nat×Nat×Array C3):Option (V×List U):=if x.1<=x.2.2.1∧x.2.2.1<x.2.1∧x.2.1<=N∧x.2.2.2.size=N then some (.tup [.i ((Sort.partition ae x.2.2.2 x.1 x.2.1 x.2.2.1).1:Int),.bool (Sort.partition ae x.2.2.2 x.1 x.2.1 x.2.2.1).2.1],[aH (Sort.partition ae x.2.2.2 x.1 x.2.1 x.2.2.1).2.2]) else none
def ql(N:Nat)(x:Nat×Nat×Nat×Array C3):Option (V×List U):=if x.1<=x.2.2.1∧x.2.2.1<x.2.1∧x.2.1<=N∧x.2.2.2.size=N then some (.i ((Sort.partitionEqual ae x.2.2.2 x.1 x.2.1 x.2.2.1).1:Int),[aH (Sort.partitionEqual ae x.2.2.2 x.1 x.2.1 x.2.2.1).2]) else none
variable{b pv:Nat}
theorem Gw{J:Nat}{d1:Array C3}(h1:swp d a pv=d1)(hI:Sort.scanUp (fun x=>ae x d1[a]!) d1 (b-1) (a+1)=I)(hJ:Sort.scanDown (fun x=> !ae x d1[a]!) d1 I (b-1)=J)(h:J<I):Sort.partition ae d a b pv=(J,true,swp d1 J a):=by unfold Sort.partition;simp only[h1,hI,hJ,agI,h,adB]
theorem Pg{J:Nat}{d1:Array C3}(h1:swp d a pv=d1)(hI:Sort.scanUp (fun x=>ae x d1[a]!) d1 (b-1) (a+1)=I)(hJ:Sort.scanDown (fun x=> !ae x d1[a]!) d1 I (b-1)=J)(h: ¬J<I):Sort.partition ae d a b pv=((Sort.partLoop ae a (I+1) (J-1) (swp d1 I J)).1,false,swp (Sort.partLoop ae a (I+1) (J-1) (swp d1 I J)).2 (Sort.partLoop ae a (I+1) (J-1) (swp d1 I J)).1 a):=by unfold Sort.partition;simp only[h1,hI,hJ,agI,h,adw]
abbrev A8(a b pv):=([(1,.i a),(2,.i b),(3,.i pv),(4,.ptr 4 0)]:List (Nat×V))
abbrev A9(a IF JF):=([(1,.i a),(4,.ptr 4 0),(10,.i IF),(11,.i JF)]:List (Nat×V))
theorem SJ(hS:SoOK G bk N g sf gl gs):FunXV G bk 96 [] (FE (g7 g sf gl gs) (xH N)):=by
 obtain⟨X,hX,X1,X2,X3⟩:=jO hS [] trivial;have hN:=hS.N1;unfold MX at hN;refine cM (k:=4) hX func96 rfl (fun a w=>call96 a w) ntmps96 A0c A0c ?_;intro us r outs hF;obtain⟨⟨a,b,pv,d⟩,hus,hG⟩:=bh hF;subst hus;unfold xH at hG;obtain⟨⟨hap,hpb,hbN,hd⟩,hG⟩:=bK hG;simp only at hap hpb hbN hd;cases hG;refine⟨_,rfl,rfl,fun pm m0 w0 hE=>?_⟩;simp only[g7];have s0:=eD (N:=N) a pv d A0b A0b hd;obtain⟨d1,hd1⟩:∃d1,swp d a pv=d1:=⟨_,rfl⟩;have hz1:d1.size=N:=by rw[<-hd1,bR];exact hd
 rw[hd1] at s0;have w1:az .i64 ((a:Int)+1)=((a+1:Nat):Int):=by rw[ak A0j];omega
 have w2:az .i64 ((b:Int)-1)=((b-1:Nat):Int):=by rw[ak A0j];omega
 refine Sem.seq (A8 a b pv) [(4,[.x (.func (.func g) #[] gl),.x (.func (.func sf) #[] gs)]),(1004,aH d)] (Sem.run hE ai A0a A0o) ?_;refine Sem.seq (A8 a b pv) [(4,[.x (.func (.func g) #[] gl),.x (.func (.func sf) #[] gs)]),(1004,aH d1)] (Sem.run hE ai A0a A1f) ?_;refine Sem.seq [(1,.i a),(4,.ptr 4 0),(10,.i (a+1:Nat)),(11,.i (b-1:Nat))] [(4,[.x (.func (.func g) #[] gl),.x (.func (.func sf) #[] gs)]),(1004,aH d1)] (Sem.run hE ai A0a A1c) ?_;obtain⟨IF,hIF⟩:∃I,Sort.scanUp (fun x=>ae x d1[a]!) d1 (b-1) (a+1)=I:=⟨_,rfl⟩;obtain⟨JF,hJF⟩:∃J,Sort.scanDown (fun x=> !ae x d1[a]!) d1 IF (b-1)=J:=⟨_,rfl⟩;have buF:=DV (p:=fun x=>ae x d1[a]!) (d:=d1) (j:=b-1) _ (a+1) (adp _);rw[hIF] at buF;have bdF:=DW (p:=fun x=> !ae x d1[a]!) (d:=d1) (i:=IF) A0b (b-1);rw[hJF] at bdF;refine Sem.seq [(1,.i a),(4,.ptr 4 0),(10,.i IF),(11,.i (b-1:Nat))] [(4,[.x (.func (.func g) #[] gl),.x (.func (.func sf) #[] gs)]),(1004,aH d1)] (Sem.block (Sem.loop (X:={i:Nat//a+1<=i∧(i<=b-1+1∨i=a+1)∧Sort.scanUp (fun x=>ae x d1[a]!) d1 (b-1) i=IF}) (fun x=>[(1,.i a),(4,.ptr 4 0),(10,.i x.1),(11,.i (b-1:Nat))]) (fun _=>[(4,[.x (.func (.func g) #[] gl),.x (.func (.func sf) #[] gs)]),(1004,aH d1)]) (fun x=>b-1+1-x.1) ⟨a+1,A0b,A0b,hIF⟩ A0e A0e (fun⟨i,hi1,hi2,hi3⟩=>Sem.run hE ai A0a ?_))) ?_
 . simp only;by_cases hc:i<=b-1
   . have c1:decide ((i:Int)<=((b-1:Nat):Int))=true:=ac0 A0b;have c2:az .i64 ((i:Int)+1)=((i+1:Nat):Int):=by rw[ak A0j];omega
     have l1:=dg (N:=N) i a d1 A0b A0b hz1;cases hl:ae d1[i]! d1[a]! with
     |true=>exact Xk
     |false=>rw[gh A00] at hi3;rw[hl] at l1;rw[<-hi3];exact Xg
   . have c1:decide ((i:Int)<=((b-1:Nat):Int))=false:=Io A0b;rw[gh (fun h=>hc h.1)] at hi3;rw[<-hi3];exact Xi
 refine Sem.seq (A9 a IF JF) [(4,[.x (.func (.func g) #[] gl),.x (.func (.func sf) #[] gs)]),(1004,aH d1)] (Sem.block (Sem.loop (X:={j:Nat//j<=b-1∧(IF<=j+1∨j=b-1)∧Sort.scanDown (fun x=> !ae x d1[a]!) d1 IF j=JF}) (fun x=>[(1,.i a),(4,.ptr 4 0),(10,.i IF),(11,.i x.1)]) (fun _=>[(4,[.x (.func (.func g) #[] gl),.x (.func (.func sf) #[] gs)]),(1004,aH d1)]) (fun x=>x.1) ⟨b-1,A0b,A0b,hJF⟩ A0e A0e (fun⟨j,hj1,hj2,hj3⟩=>Sem.run hE ai A0a ?_))) ?_
 . simp only;by_cases hc:IF<=j
   . obtain⟨k,rfl⟩:∃k,j=k+1:=⟨j-1,A0b⟩;have c1:decide ((IF:Int)<=((k+1:Nat):Int))=true:=ac0 A0b;have c2:az .i64 (((k+1:Nat):Int)-1)=(k:Int):=by rw[ak A0j];omega
     have l1:=dg (N:=N) (k+1) a d1 A0b A0b hz1;cases hl:ae d1[k+1]! d1[a]! with
     |false=>exact Xj
     |true=>rw[gm A00] at hj3;rw[hl] at l1;rw[<-hj3];exact Xg
   . have c1:decide ((IF:Int)<=j)=false:=Io A0b;rw[gm (fun h=>hc h.1)] at hj3;rw[<-hj3];exact Xi
 by_cases hc:JF<IF
 . rw[Gw hd1 hIF hJF hc];have c1:decide ((JF:Int)<IF)=true:=ac0 A0b;have s1:=eD (N:=N) JF a d1 A0b A0b hz1;refine Sem.seq_out (Sem.run hE ai A0a ?_);simp +decide only[go_sem,X1,X2,X3,bC,c1,s1]
 . rw [Pg hd1 hIF hJF hc];have c1:decide ((JF:Int)<IF)=false:=Io A0b;have c2:az .i64 ((IF:Int)+1)=((IF+1:Nat):Int):=by rw[ak A0j];omega
   have c3:az .i64 ((JF:Int)-1)=((JF-1:Nat):Int):=by rw[ak A0j];omega
   have s1:=eD (N:=N) IF JF d1 A0b A0b hz1;obtain⟨d2,hd2⟩:∃d2,swp d1 IF JF=d2:=⟨_,rfl⟩;have hz2:d2.size=N:=by rw[<-hd2,bR];exact hz1
   rw[hd2] at s1⊢;obtain⟨PL,hPL⟩:∃PL,Sort.partLoop ae a (IF+1) (JF-1) d2=PL:=⟨_,rfl⟩;have bPL:=X6 (a:=a) _ (IF+1) (JF-1) d2 (adp _) A0b A0b;rw[hPL] at bPL⊢;refine Sem.seq (A9 a IF JF) [(4,[.x (.func (.func g) #[] gl),.x (.func (.func sf) #[] gs)]),(1004,aH d1)] (Sem.run hE ai A0a A0P) ?_;refine Sem.seq (A9 a IF JF) [(4,[.x (.func (.func g) #[] gl),.x (.func (.func sf) #[] gs)]),(1004,aH d2)] (Sem.run hE ai A0a (by simp +decide only[go_sem,X1,X2,X3,bC,s1])) ?_;refine Sem.seq [(1,.i a),(4,.ptr 4 0),(10,.i (IF+1:Nat)),(11,.i JF)] [(4,[.x (.func (.func g) #[] gl),.x (.func (.func sf) #[] gs)]),(1004,aH d2)] (Sem.run hE ai A0a A1g) ?_;refine Sem.seq [(1,.i a),(4,.ptr 4 0),(10,.i (IF+1:Nat)),(11,.i (JF-1:Nat))] [(4,[.x (.func (.func g) #[] gl),.x (.func (.func sf) #[] gs)]),(1004,aH d2)] (Sem.run hE ai A0a (by simp +decide only[go_sem,X1,X2,X3,bC,c3])) ?_;refine Sem.seq [(1,.i a),(4,.ptr 4 0),(11,.i PL.1)] [(4,[.x (.func (.func g) #[] gl),.x (.func (.func sf) #[] gs)]),(1004,aH PL.2)] (Sem.block (Sem.loop (X:={x:Nat×Nat×Array C3//a+1<=x.1∧x.1<=x.2.1+2∧x.2.1<b∧x.2.2.size=N∧Sort.partLoop ae a x.1 x.2.1 x.2.2=PL}) (fun x=>[(1,.i a),(4,.ptr 4 0),(10,.i x.1.1),(11,.i x.1.2.1)]) (fun x=>[(4,[.x (.func (.func g) #[] gl),.x (.func (.func sf) #[] gs)]),(1004,aH x.1.2.2)]) (fun x=>x.1.2.1+1-x.1.1) ⟨(IF+1,JF-1,d2),by simp only;omega,by simp only;omega,by simp only;omega,hz2,hPL⟩ A0e A0e (fun⟨⟨i0,j0,dk⟩,hx1,hx2,hx3,hdk,heq⟩=>?_))) ?_
   . simp only at hx1 hx2 hx3 hdk heq⊢;refine Sem.block ?_;obtain⟨IL,hIL⟩:∃I,Sort.scanUp (fun x=>ae x dk[a]!) dk (j0) (i0)=I:=⟨_,rfl⟩;obtain⟨JL,hJL⟩:∃J,Sort.scanDown (fun x=> !ae x dk[a]!) dk IL (j0)=J:=⟨_,rfl⟩;have buL:=DV (p:=fun x=>ae x dk[a]!) (d:=dk) (j:=j0) _ (i0) (adp _);rw[hIL] at buL;have bdL:=DW (p:=fun x=> !ae x dk[a]!) (d:=dk) (i:=IL) A0b (j0);rw[hJL] at bdL;refine Sem.seq [(1,.i a),(4,.ptr 4 0),(10,.i IL),(11,.i j0)] [(4,[.x (.func (.func g) #[] gl),.x (.func (.func sf) #[] gs)]),(1004,aH dk)] (Sem.block (Sem.loop (X:={i:Nat//i0<=i∧(i<=j0+1∨i=i0)∧Sort.scanUp (fun x=>ae x dk[a]!) dk (j0) i=IL}) (fun x=>[(1,.i a),(4,.ptr 4 0),(10,.i x.1),(11,.i j0)]) (fun _=>[(4,[.x (.func (.func g) #[] gl),.x (.func (.func sf) #[] gs)]),(1004,aH dk)]) (fun x=>j0+1-x.1) ⟨i0,A0b,A0b,hIL⟩ A0e A0e (fun⟨i,hi1,hi2,hi3⟩=>Sem.run hE ai A0a ?_))) ?_
     . simp only;by_cases hc:i<=j0
       . have c1:decide ((i:Int)<=j0)=true:=ac0 A0b;have c2:az .i64 ((i:Int)+1)=((i+1:Nat):Int):=by rw[ak A0j];omega
         have l1:=dg (N:=N) i a dk A0b A0b hdk;cases hl:ae dk[i]! dk[a]! with
         |true=>exact Xk
         |false=>rw[gh A00] at hi3;rw[hl] at l1;rw[<-hi3];exact Xg
       . have c1:decide ((i:Int)<=j0)=false:=Io A0b;rw[gh (fun h=>hc h.1)] at hi3;rw[<-hi3];exact Xi
     refine Sem.seq [(1,.i a),(4,.ptr 4 0),(10,.i IL),(11,.i JL)] [(4,[.x (.func (.func g) #[] gl),.x (.func (.func sf) #[] gs)]),(1004,aH dk)] (Sem.block (Sem.loop (X:={j:Nat//j<=j0∧(IL<=j+1∨j=j0)∧Sort.scanDown (fun x=> !ae x dk[a]!) dk IL j=JL}) (fun x=>[(1,.i a),(4,.ptr 4 0),(10,.i IL),(11,.i x.1)]) (fun _=>[(4,[.x (.func (.func g) #[] gl),.x (.func (.func sf) #[] gs)]),(1004,aH dk)]) (fun x=>x.1) ⟨j0,A0b,A0b,hJL⟩ A0e A0e (fun⟨j,hj1,hj2,hj3⟩=>Sem.run hE ai A0a ?_))) ?_
     . simp only;by_cases hc:IL<=j
       . obtain⟨k,rfl⟩:∃k,j=k+1:=⟨j-1,A0b⟩;have c1:decide ((IL:Int)<=((k+1:Nat):Int))=true:=ac0 A0b;have c2:az .i64 (((k+1:Nat):Int)-1)=(k:Int):=by rw[ak A0j];omega
         have l1:=dg (N:=N) (k+1) a dk A0b A0b hdk;cases hl:ae dk[k+1]! dk[a]! with
         |false=>exact Xj
         |true=>rw[gm A00] at hj3;rw[hl] at l1;rw[<-hj3];exact Xg
       . have c1:decide ((IL:Int)<=j)=false:=Io A0b;rw[gm (fun h=>hc h.1)] at hj3;rw[<-hj3];exact Xi
     by_cases hc:JL<IL
     . rw[ux hIL hJL hc] at heq;have c1:decide ((JL:Int)<IL)=true:=ac0 A0b;rw[<-heq];refine Sem.seq_out (Sem.run hE ai A0a ?_);exact Xi
     . rw[DX hIL hJL hc A0b] at heq;have c1:decide ((JL:Int)<IL)=false:=Io A0b;have c2:az .i64 ((IL:Int)+1)=((IL+1:Nat):Int):=by rw[ak A0j];omega
       have c3:az .i64 ((JL:Int)-1)=((JL-1:Nat):Int):=by rw[ak A0j];omega
       exact Xh
   have s3:=eD (N:=N) PL.1 a PL.2 A0b A0b A0b;refine Sem.run hE ai A0a ?_;simp +decide only[go_sem,X1,X2,X3,bC,s3]
theorem Ph(hS:SoOK G bk N g sf gl gs):FunXV G bk 95 [] (FE (g7 g sf gl gs) (ql N)):=by
 obtain⟨X,hX,X1,X2,X3⟩:=jO hS [] trivial;have hN:=hS.N1;unfold MX at hN;refine cM (k:=4) hX func95 rfl (fun a w=>call95 a w) ntmps95 A0c A0c ?_;intro us r outs hF;obtain⟨⟨a,b,pv,d⟩,hus,hG⟩:=bh hF;subst hus;unfold ql at hG;obtain⟨⟨hap,hpb,hbN,hd⟩,hG⟩:=bK hG;simp only at hap hpb hbN hd;cases hG;refine⟨_,rfl,rfl,fun pm m0 w0 hE=>?_⟩;simp only[g7];have s0:=eD (N:=N) a pv d A0b A0b hd;obtain⟨d1,hd1⟩:∃d1,swp d a pv=d1:=⟨_,rfl⟩;have hz1:d1.size=N:=by rw[<-hd1,bR];exact hd
 rw[hd1] at s0;have w1:az .i64 ((a:Int)+1)=((a+1:Nat):Int):=by rw[ak A0j];omega
 have w2:az .i64 ((b:Int)-1)=((b-1:Nat):Int):=by rw[ak A0j];omega
 unfold Sort.partitionEqual;rw[hd1];obtain⟨PL,hPL⟩:∃PL,Sort.partEqLoop ae a (a+1) (b-1) d1=PL:=⟨_,rfl⟩;rw[hPL];refine Sem.seq (A8 a b pv) [(4,[.x (.func (.func g) #[] gl),.x (.func (.func sf) #[] gs)]),(1004,aH d)] (Sem.run hE ai A0a A0o) ?_;refine Sem.seq (A8 a b pv) [(4,[.x (.func (.func g) #[] gl),.x (.func (.func sf) #[] gs)]),(1004,aH d1)] (Sem.run hE ai A0a A1f) ?_;refine Sem.seq [(1,.i a),(4,.ptr 4 0),(9,.i (a+1:Nat)),(10,.i (b-1:Nat))] [(4,[.x (.func (.func g) #[] gl),.x (.func (.func sf) #[] gs)]),(1004,aH d1)] (Sem.run hE ai A0a A1c) ?_;refine Sem.seq [(9,.i PL.1)] [(4,[.x (.func (.func g) #[] gl),.x (.func (.func sf) #[] gs)]),(1004,aH PL.2)] (Sem.block (Sem.loop (X:={x:Nat×Nat×Array C3//a+1<=x.1∧x.1<=x.2.1+2∧x.2.1<b∧x.2.2.size=N∧Sort.partEqLoop ae a x.1 x.2.1 x.2.2=PL}) (fun x=>[(1,.i a),(4,.ptr 4 0),(9,.i x.1.1),(10,.i x.1.2.1)]) (fun x=>[(4,[.x (.func (.func g) #[] gl),.x (.func (.func sf) #[] gs)]),(1004,aH x.1.2.2)]) (fun x=>x.1.2.1+1-x.1.1) ⟨(a+1,b-1,d1),by simp only;omega,by simp only;omega,by simp only;omega,hz1,hPL⟩ A0e A0e (fun⟨⟨i0,j0,dk⟩,hx1,hx2,hx3,hdk,heq⟩=>?_))) ?_
 . simp only at hx1 hx2 hx3 hdk heq⊢;refine Sem.block ?_;obtain⟨IL,hIL⟩:∃I,Sort.scanUp (fun x=> !ae dk[a]! x) dk (j0) (i0)=I:=⟨_,rfl⟩;obtain⟨JL,hJL⟩:∃J,Sort.scanDown (fun x=>ae dk[a]! x) dk IL (j0)=J:=⟨_,rfl⟩;have buL:=DV (p:=fun x=> !ae dk[a]! x) (d:=dk) (j:=j0) _ (i0) (adp _);rw[hIL] at buL;have bdL:=DW (p:=fun x=>ae dk[a]! x) (d:=dk) (i:=IL) A0b (j0);rw[hJL] at bdL;refine Sem.seq [(1,.i a),(4,.ptr 4 0),(9,.i IL),(10,.i j0)] [(4,[.x (.func (.func g) #[] gl),.x (.func (.func sf) #[] gs)]),(1004,aH dk)] (Sem.block (Sem.loop (X:={i:Nat//i0<=i∧(i<=j0+1∨i=i0)∧Sort.scanUp (fun x=> !ae dk[a]! x) dk (j0) i=IL}) (fun x=>[(1,.i a),(4,.ptr 4 0),(9,.i x.1),(10,.i j0)]) (fun _=>[(4,[.x (.func (.func g) #[] gl),.x (.func (.func sf) #[] gs)]),(1004,aH dk)]) (fun x=>j0+1-x.1) ⟨i0,A0b,A0b,hIL⟩ A0e A0e (fun⟨i,hi1,hi2,hi3⟩=>Sem.run hE ai A0a ?_))) ?_
   . simp only;by_cases hc:i<=j0
     . have c1:decide ((i:Int)<=j0)=true:=ac0 A0b;have c2:az .i64 ((i:Int)+1)=((i+1:Nat):Int):=by rw[ak A0j];omega
       have l1:=dg (N:=N) a i dk A0b A0b hdk;cases hl:ae dk[a]! dk[i]! with
       |false=>exact Xk
       |true=>rw[gh A00] at hi3;rw[hl] at l1;rw[<-hi3];exact Xg
     . have c1:decide ((i:Int)<=j0)=false:=Io A0b;rw[gh (fun h=>hc h.1)] at hi3;rw[<-hi3];exact Xi
   refine Sem.seq [(1,.i a),(4,.ptr 4 0),(9,.i IL),(10,.i JL)] [(4,[.x (.func (.func g) #[] gl),.x (.func (.func sf) #[] gs)]),(1004,aH dk)] (Sem.block (Sem.loop (X:={j:Nat//j<=j0∧(IL<=j+1∨j=j0)∧Sort.scanDown (fun x=>ae dk[a]! x) dk IL j=JL}) (fun x=>[(1,.i a),(4,.ptr 4 0),(9,.i IL),(10,.i x.1)]) (fun _=>[(4,[.x (.func (.func g) #[] gl),.x (.func (.func sf) #[] gs)]),(1004,aH dk)]) (fun x=>x.1) ⟨j0,A0b,A0b,hJL⟩ A0e A0e (fun⟨j,hj1,hj2,hj3⟩=>Sem.run hE ai A0a ?_))) ?_
   . simp only;by_cases hc:IL<=j
     . obtain⟨k,rfl⟩:∃k,j=k+1:=⟨j-1,A0b⟩;have c1:decide ((IL:Int)<=((k+1:Nat):Int))=true:=ac0 A0b;have c2:az .i64 (((k+1:Nat):Int)-1)=(k:Int):=by rw[ak A0j];omega
       have l1:=dg (N:=N) a (k+1) dk A0b A0b hdk;cases hl:ae dk[a]! dk[k+1]! with
       |true=>exact Xj
       |false=>rw[gm A00] at hj3;rw[hl] at l1;rw[<-hj3];exact Xg
     . have c1:decide ((IL:Int)<=j)=false:=Io A0b;rw[gm (fun h=>hc h.1)] at hj3;rw[<-hj3];exact Xi
   by_cases hc:JL<IL
   . rw[Pe hIL hJL hc] at heq;have c1:decide ((JL:Int)<IL)=true:=ac0 A0b;rw[<-heq];refine Sem.seq_out (Sem.run hE ai A0a ?_);exact Xi
   . rw[Pf hIL hJL hc A0b] at heq;have c1:decide ((JL:Int)<IL)=false:=Io A0b;have c2:az .i64 ((IL:Int)+1)=((IL+1:Nat):Int):=by rw[ak A0j];omega
     have c3:az .i64 ((JL:Int)-1)=((JL-1:Nat):Int):=by rw[ak A0j];omega
     exact Xh
 refine Sem.run hE ai A0a ?_;simp +decide only[go_sem,X1,X2,X3,bC]
theorem DY{i:Nat}(h:i<b)(hl:ae d[i]! d[i-1]! =false):Sort.scanSorted ae d b i=Sort.scanSorted ae d b (i+1):=by rw[Sort.scanSorted,adl (by rw[hl];simpa using h)]
theorem oX{i:Nat}(h: ¬(i<b∧ae d[i]! d[i-1]! =false)):Sort.scanSorted ae d b i=i:=by rw[Sort.scanSorted,adq (by simpa using h)]
theorem X7:∀(n i:Nat),b-i<=n->i<=b->i<=Sort.scanSorted ae d b i∧Sort.scanSorted ae d b i<=b:=by
 intro n
 induction n with
 |zero=>intro i h hi;rw[oX A0b];omega
 | succ n ih=>
   intro i h hi;by_cases h0:i<b∧ae d[i]! d[i-1]! =false
   . rw[DY h0.1 h0.2];have:=ih (i+1) A0b A0b;omega
   . rw[oX h0];omega
theorem xI:∀(j:Nat) (d:Array C3),(Sort.shiftDown ae j d).size=d.size
 |0,d=>rfl
 | j+1,d=>by
   rw[Sort.shiftDown];split
   . rfl
   . rw[xI j,bR]
theorem Kr(b:Nat):∀(n j:Nat) (d:Array C3),b-j<=n->(Sort.shiftUp ae b j d).size=d.size:=by
 intro n
 induction n with
 |zero=>intro j d h;rw[Sort.shiftUp,adq A0b]
 | succ n ih=>
   intro j d h;rw[Sort.shiftUp];split
   . split
     . rfl
     . rw[ih _ _ A0b,bR]
   . rfl
section
variable{a b s i I:Nat}{d:Array C3}
theorem acV(hI:Sort.scanSorted ae d b i=I)(h:I=b):Sort.partialIns ae a b (s+1) i d=(d,true):=by rw[Sort.partialIns];simp only[hI,h,adB]
theorem acW(hI:Sort.scanSorted ae d b i=I)(h: ¬I=b)(h2:b-a<50):Sort.partialIns ae a b (s+1) i d=(d,false):=by rw[Sort.partialIns];simp only[hI,h,adw,h2,adB]
theorem acX(hI:Sort.scanSorted ae d b i=I)(h: ¬I=b)(h2: ¬b-a<50):Sort.partialIns ae a b (s+1) i d=Sort.partialIns ae a b s I (if b-I≥2 then Sort.shiftUp ae b (I+1) (if I-a≥2 then Sort.shiftDown ae (I-1) (swp d I (I-1)) else swp d I (I-1)) else (if I-a≥2 then Sort.shiftDown ae (I-1) (swp d I (I-1)) else swp d I (I-1))):=by rw[Sort.partialIns];simp only[hI,h,adw,h2]
end
def xJ(N:Nat)(x:Nat×Nat×Array C3):Option (V×List U):=if x.1<x.2.1∧x.2.1<=N∧x.2.2.size=N then some (.bool (Sort.partialInsertionSort ae x.2.2 x.1 x.2.1).2,[aH (Sort.partialInsertionSort ae x.2.2 x.1 x.2.1).1]) else none
def Ks(N:Nat)(x:Nat×Nat×Array C3):Option (V×List U):=if x.1<x.2.1∧x.2.1<=N∧x.2.2.size=N then some (.tup [],[aH (Sort.reverseRange x.2.2 x.1 x.2.1)]) else none
abbrev A6(a b I s):=([(1,.i a),(2,.i b),(3,.ptr 3 0),(7,.i I),(8,.i (5-((s+1:Nat):Int)))]:List (Nat×V))
abbrev A7(s):=((8,.i (5-((s+1:Nat):Int))):Nat×V)
theorem SK(hS:SoOK G bk N g sf gl gs):FunXV G bk 94 [] (FE (fb g sf gl gs) (xJ N)):=by
 obtain⟨X,hX,X1,X2,X3⟩:=jO hS [] trivial;have hN:=hS.N1;unfold MX at hN;refine cM (k:=3) hX func94 rfl (fun a w=>call94 a w) ntmps94 A0c A0c ?_;intro us r outs hF;obtain⟨⟨a,b,d⟩,hus,hG⟩:=bh hF;subst hus;unfold xJ at hG;obtain⟨⟨hab,hbN,hd⟩,hG⟩:=bK hG;simp only at hab hbN hd;cases hG;refine⟨_,rfl,rfl,fun pm m0 w0 hE=>?_⟩;simp only[fb];have w1:az .i64 ((a:Int)+1)=((a+1:Nat):Int):=by rw[ak A0j];omega
 unfold Sort.partialInsertionSort;obtain⟨PI,hPI⟩:∃PI,Sort.partialIns ae a b 5 (a+1) d=PI:=⟨_,rfl⟩;rw[hPI];refine Sem.seq [(1,.i a),(2,.i b),(3,.ptr 3 0)] [(3,[.x (.func (.func g) #[] gl),.x (.func (.func sf) #[] gs)]),(1003,aH d)] (Sem.run hE ai A0a A0o) ?_;refine Sem.seq [(1,.i a),(2,.i b),(3,.ptr 3 0),(7,.i (a+1:Nat))] [(3,[.x (.func (.func g) #[] gl),.x (.func (.func sf) #[] gs)]),(1003,aH d)] (Sem.run hE ai A0a A1e) ?_;refine Sem.seqQ (PI.2=false) [] [(3,[.x (.func (.func g) #[] gl),.x (.func (.func sf) #[] gs)]),(1003,aH PI.1)] ?_ (fun hf=>?_)
 rotate_left
 . refine Sem.run hE ai A0a ?_;simp +decide only[go_sem,X1,X2,X3,bC,hf]
 refine Sem.seq [(1,.i a),(2,.i b),(3,.ptr 3 0),(7,.i (a+1:Nat)),(8,.i (0))] [(3,[.x (.func (.func g) #[] gl),.x (.func (.func sf) #[] gs)]),(1003,aH d)] (Sem.run hE ai A0a A0o) ?_;refine Sem.block (Sem.loop (X:={x:Nat×Nat×Array C3//x.1<=5∧a+1<=x.2.1∧x.2.1<=b∧x.2.2.size=N∧Sort.partialIns ae a b x.1 x.2.1 x.2.2=PI}) (fun x=>[(1,.i a),(2,.i b),(3,.ptr 3 0),(7,.i x.1.2.1),(8,.i (5-(x.1.1:Int)))]) (fun x=>[(3,[.x (.func (.func g) #[] gl),.x (.func (.func sf) #[] gs)]),(1003,aH x.1.2.2)]) (fun x=>x.1.1) ⟨(5,a+1,d),by simp only;omega,by simp only;omega,by simp only;omega,hd,hPI⟩ A0e A0e (fun⟨⟨s,i0,d0⟩,hs,hi1,hi2,hd0,heq⟩=>?_));simp only at hs hi1 hi2 hd0 heq⊢;cases s with
 |zero=>have c0:decide (5-((0:Nat):Int)<5)=false:=Io A0b;rw[Sort.partialIns] at heq;rw[<-heq];refine Sem.seq_out (Sem.run hE ai A0a ?_);simp +decide only[go_sem,X1,X2,X3,bC,c0]
 | succ s=>
   have c0:decide (5-((s+1:Nat):Int)<5)=true:=ac0 A0b;have e0:az .i64 (5-((s+1:Nat):Int)+1)=5-(s:Int):=by rw[ak A0j];omega
   refine Sem.seq [(1,.i a),(2,.i b),(3,.ptr 3 0),(7,.i i0),(A7 s)] [(3,[.x (.func (.func g) #[] gl),.x (.func (.func sf) #[] gs)]),(1003,aH d0)] (Sem.run hE ai A0a (by simp +decide only[go_sem,X1,X2,X3,bC,c0])) ?_;obtain⟨I,hI⟩:∃I,Sort.scanSorted ae d0 b i0=I:=⟨_,rfl⟩;have bI:=X7 (d:=d0) (b:=b) _ i0 (adp _) hi2;rw[hI] at bI;obtain⟨D0,hD0⟩:∃D0,swp d0 I (I-1)=D0:=⟨_,rfl⟩;obtain⟨D1,hD1⟩:∃D1,(if I-a≥2 then Sort.shiftDown ae (I-1) D0 else D0)=D1:=⟨_,rfl⟩;obtain⟨D2,hD2⟩:∃D2,(if b-I≥2 then Sort.shiftUp ae b (I+1) D1 else D1)=D2:=⟨_,rfl⟩;have z0:D0.size=N:=by rw[<-hD0,bR];exact hd0
   have z1:D1.size=N:=by
    rw[<-hD1];split
    . rw[xI];exact z0
    . exact z0
   have z2:D2.size=N:=by
    rw[<-hD2];split
    . rw[Kr _ _ _ _ (adp _)];exact z1
    . exact z1
   obtain⟨Q,hQ1,hQ2⟩:∃Q:Prop,(Q-> ¬I=b∧ ¬b-a<50)∧(¬I=b-> ¬b-a<50->Q):=⟨_,id,fun h1 h2=>⟨h1,h2⟩⟩;refine Sem.seqQ Q (A6 a b I s) [(3,[.x (.func (.func g) #[] gl),.x (.func (.func sf) #[] gs)]),(1003,aH D2)] (Sem.block ?_) (fun hQ=>?_)
   rotate_left
   . have hQ:=hQ1 hQ;rw[acX hI hQ.1 hQ.2,hD0,hD1,hD2] at heq;refine Sem.run hE ai A0a ?_;simp +decide only[go_sem,X1,X2,X3,bC,e0];refine⟨⟨(s,I,D2),by simp only;omega,by simp only;omega,by simp only;omega,z2,heq⟩,?_,?_,by simp only;omega⟩<;>simp +decide only[go_sem]<;>(repeat' first|rfl|constructor)
   refine Sem.seq (A6 a b I s) [(3,[.x (.func (.func g) #[] gl),.x (.func (.func sf) #[] gs)]),(1003,aH d0)] (Sem.block (Sem.loop (X:={i:Nat//i0<=i∧i<=b∧Sort.scanSorted ae d0 b i=I}) (fun x=>[(1,.i a),(2,.i b),(3,.ptr 3 0),(7,.i x.1),(A7 s)]) (fun _=>[(3,[.x (.func (.func g) #[] gl),.x (.func (.func sf) #[] gs)]),(1003,aH d0)]) (fun x=>b-x.1) ⟨i0,A0b,A0b,hI⟩ A0e A0e (fun⟨i,hi1,hi2,hi3⟩=>Sem.run hE ai A0a ?_))) ?_
   . simp only;by_cases hc:i<b
     . have c1:decide ((i:Int)<b)=true:=ac0 A0b;have c2:az .i64 ((i:Int)+1)=((i+1:Nat):Int):=by rw[ak A0j];omega
       have c3:az .i64 ((i:Int)-1)=((i-1:Nat):Int):=by rw[ak A0j];omega
       have l1:=dg (N:=N) i (i-1) d0 A0b A0b hd0;cases hl:ae d0[i]! d0[i-1]! with
       |false=>rw[DY hc hl] at hi3;rw[hl] at l1;simp +decide only[go_sem,X1,X2,X3,bC,c1,c2,c3,l1];refine⟨⟨i+1,A0b,A0b,hi3⟩,?_,?_,by simp only;omega⟩<;>simp +decide only[go_sem]<;>(repeat' first|rfl|constructor)
       |true=>rw[oX (by rw[hl];simp)] at hi3;rw[hl] at l1;rw[<-hi3];simp +decide only[go_sem,X1,X2,X3,bC,c1,c2,c3,l1]
     . have c1:decide ((i:Int)<b)=false:=Io A0b;rw[oX (fun h=>hc h.1)] at hi3;rw[<-hi3];exact Xi
   by_cases hIb:I=b
   . rw[acV hI hIb] at heq;have c1:decide ((I:Int)=b)=true:=ac0 A0b;rw[<-heq];refine Sem.seq_out (Sem.run hE ai A0a ?_);exact Xi
   have c1:decide ((I:Int)=b)=false:=Io A0b;have w2:az .i64 ((b:Int)-(a:Int))=((b-a:Nat):Int):=by rw[ak A0j];omega
   refine Sem.seq (A6 a b I s) [(3,[.x (.func (.func g) #[] gl),.x (.func (.func sf) #[] gs)]),(1003,aH d0)] (Sem.run hE ai A0a A0P) ?_;by_cases h50:b-a<50
   . rw[acW hI hIb h50] at heq;have c2:decide (((b-a:Nat):Int)<50)=true:=ac0 A0b;rw[<-heq];refine Sem.seq_out (Sem.run hE ai A0a ?_);simp +decide only[go_sem,X1,X2,X3,bC,w2,c2]
   have c2:decide (((b-a:Nat):Int)<50)=false:=Io A0b;have q:=hQ2 hIb h50;have w3:az .i64 ((I:Int)-1)=((I-1:Nat):Int):=by rw[ak A0j];omega
   have w4:az .i64 ((I:Int)-(a:Int))=((I-a:Nat):Int):=by rw[ak A0j];omega
   have w5:az .i64 ((b:Int)-(I:Int))=((b-I:Nat):Int):=by rw[ak A0j];omega
   have w6:az .i64 ((I:Int)+1)=((I+1:Nat):Int):=by rw[ak A0j];omega
   have s1:=eD (N:=N) I (I-1) d0 A0b A0b hd0;rw[hD0] at s1;refine Sem.seq (A6 a b I s) [(3,[.x (.func (.func g) #[] gl),.x (.func (.func sf) #[] gs)]),(1003,aH d0)] (Sem.run hE ai A0a (by simp +decide only[go_sem,X1,X2,X3,bC,w2,c2])) ?_;refine Sem.seq (A6 a b I s) [(3,[.x (.func (.func g) #[] gl),.x (.func (.func sf) #[] gs)]),(1003,aH D0)] (Sem.run hE ai A0a (by simp +decide only[go_sem,X1,X2,X3,bC,w3,s1])) ?_;refine Sem.seq (A6 a b I s) [(3,[.x (.func (.func g) #[] gl),.x (.func (.func sf) #[] gs)]),(1003,aH D1)] ?_ ?_
   . by_cases h2:I-a≥2
     . rw[adl h2] at hD1;have c3:decide (2<=((I-a:Nat):Int))=true:=ac0 A0b;refine Sem.seq [(1,.i a),(2,.i b),(3,.ptr 3 0),(7,.i I),(A7 s),(47,.bool true)] [(3,[.x (.func (.func g) #[] gl),.x (.func (.func sf) #[] gs)]),(1003,aH D0)] (Sem.run hE ai A0a (by simp +decide only[go_sem,X1,X2,X3,bC,w4,c3])) ?_;refine Sem.cond (t:=true) A0o (fun _=>?_) (fun h=>by cases h);refine Sem.seq [(1,.i a),(2,.i b),(3,.ptr 3 0),(7,.i I),(A7 s),(9,.i (I-1:Nat))] [(3,[.x (.func (.func g) #[] gl),.x (.func (.func sf) #[] gs)]),(1003,aH D0)] (Sem.run hE ai A0a (by simp +decide only[go_sem,X1,X2,X3,bC,w3])) ?_;refine Sem.block (Sem.loop (X:={x:Nat×Array C3//x.1<=I-1∧x.2.size=N∧Sort.shiftDown ae x.1 x.2=D1}) (fun x=>[(1,.i a),(2,.i b),(3,.ptr 3 0),(7,.i I),(A7 s),(9,.i x.1.1)]) (fun x=>[(3,[.x (.func (.func g) #[] gl),.x (.func (.func sf) #[] gs)]),(1003,aH x.1.2)]) (fun x=>x.1.1) ⟨(I-1,D0),by simp only;omega,z0,hD1⟩ A0e A0e (fun⟨⟨j,dj⟩,hj1,hj2,hj3⟩=>Sem.run hE ai A0a ?_));simp only at hj1 hj2 hj3⊢;cases j with
       |zero=>have c4:decide (1<=((0:Nat):Int))=false:=Io A0b;rw[Sort.shiftDown] at hj3;rw[<-hj3];simp +decide only[go_sem,X1,X2,X3,bC,c4]
       | succ j=>
         have c4:decide (1<=((j+1:Nat):Int))=true:=ac0 A0b;have c5:az .i64 (((j+1:Nat):Int)-1)=(j:Int):=by rw[ak A0j];omega
         have l1:=dg (N:=N) (j+1) j dj A0b A0b hj2;have s2:=eD (N:=N) (j+1) j dj A0b A0b hj2;rw[Sort.shiftDown] at hj3;cases hl:ae dj[j+1]! dj[j]! with
         |false=>rw[hl] at l1 hj3;simp only[afV,adB] at hj3;rw[<-hj3];simp +decide only[go_sem,X1,X2,X3,bC,c4,c5,l1]
         |true=>rw[hl] at l1 hj3;simp only[afc,adI,adw] at hj3;simp +decide only[go_sem,X1,X2,X3,bC,c4,c5,l1,s2];refine⟨⟨(j,swp dj (j+1) j),by simp only;omega,by rw[bR];exact hj2,hj3⟩,?_,?_,by simp only;omega⟩<;>simp +decide only[go_sem]<;>(repeat' first|rfl|constructor)
     . rw[adq h2] at hD1;have c3:decide (2<=((I-a:Nat):Int))=false:=Io A0b;rw[<-hD1];refine Sem.run hE ai A0a ?_;simp +decide only[go_sem,X1,X2,X3,bC,w4,c3]
   by_cases h2:b-I≥2
   . rw[adl h2] at hD2;have c3:decide (2<=((b-I:Nat):Int))=true:=ac0 A0b;refine Sem.seq [(1,.i a),(2,.i b),(3,.ptr 3 0),(7,.i I),(A7 s),(70,.bool true)] [(3,[.x (.func (.func g) #[] gl),.x (.func (.func sf) #[] gs)]),(1003,aH D1)] (Sem.run hE ai A0a (by simp +decide only[go_sem,X1,X2,X3,bC,w5,c3])) ?_;refine Sem.cond (t:=true) A0o (fun _=>?_) (fun h=>by cases h);refine Sem.seq [(1,.i a),(2,.i b),(3,.ptr 3 0),(7,.i I),(A7 s),(10,.i (I+1:Nat))] [(3,[.x (.func (.func g) #[] gl),.x (.func (.func sf) #[] gs)]),(1003,aH D1)] (Sem.run hE ai A0a (by simp +decide only[go_sem,X1,X2,X3,bC,w6])) ?_;refine Sem.block (Sem.loop (X:={x:Nat×Array C3//I+1<=x.1∧x.1<=b∧x.2.size=N∧Sort.shiftUp ae b x.1 x.2=D2}) (fun x=>[(1,.i a),(2,.i b),(3,.ptr 3 0),(7,.i I),(A7 s),(10,.i x.1.1)]) (fun x=>[(3,[.x (.func (.func g) #[] gl),.x (.func (.func sf) #[] gs)]),(1003,aH x.1.2)]) (fun x=>b-x.1.1) ⟨(I+1,D1),by simp only;omega,by simp only;omega,z1,hD2⟩ A0e A0e (fun⟨⟨j,dj⟩,hj0,hj1,hj2,hj3⟩=>Sem.run hE ai A0a ?_));simp only at hj0 hj1 hj2 hj3⊢;rw[Sort.shiftUp] at hj3;by_cases hjb:j<b
     . have c4:decide ((j:Int)<b)=true:=ac0 A0b;have c5:az .i64 ((j:Int)-1)=((j-1:Nat):Int):=by rw[ak A0j];omega
       have c6:az .i64 ((j:Int)+1)=((j+1:Nat):Int):=by rw[ak A0j];omega
       have l1:=dg (N:=N) j (j-1) dj A0b A0b hj2;have s2:=eD (N:=N) j (j-1) dj A0b A0b hj2;rw[adl hjb] at hj3;cases hl:ae dj[j]! dj[j-1]! with
       |false=>rw[hl] at l1 hj3;simp only[afV,adB] at hj3;rw[<-hj3];simp +decide only[go_sem,X1,X2,X3,bC,c4,c5,l1,q]
       |true=>rw[hl] at l1 hj3;simp only[afc,adI,adw] at hj3;simp +decide only[go_sem,X1,X2,X3,bC,c4,c5,c6,l1,s2];refine⟨⟨(j+1,swp dj j (j-1)),by simp only;omega,by simp only;omega,by rw[bR];exact hj2,hj3⟩,?_,?_,by simp only;omega⟩<;>simp +decide only[go_sem]<;>(repeat' first|rfl|constructor)
     . have c4:decide ((j:Int)<b)=false:=Io A0b;rw[adq hjb] at hj3;rw[<-hj3];simp +decide only[go_sem,X1,X2,X3,bC,c4,q]
   . rw[adq h2] at hD2;have c3:decide (2<=((b-I:Nat):Int))=false:=Io A0b;rw[<-hD2];refine Sem.run hE ai A0a ?_;simp +decide only[go_sem,X1,X2,X3,bC,w5,c3,q]
theorem X8(hS:SoOK G bk N g sf gl gs):FunXV G bk 93 [] (FE (fb g sf gl gs) (Ks N)):=by
 obtain⟨X,hX,X1,X2,X3⟩:=jO hS [] trivial;have hN:=hS.N1;unfold MX at hN;refine cM (k:=3) hX func93 rfl (fun a w=>call93 a w) ntmps93 A0c A0c ?_;intro us r outs hF;obtain⟨⟨a,b,d⟩,hus,hG⟩:=bh hF;subst hus;unfold Ks at hG;obtain⟨⟨hab,hbN,hd⟩,hG⟩:=bK hG;simp only at hab hbN hd;cases hG;refine⟨_,rfl,rfl,fun pm m0 w0 hE=>?_⟩;simp only[fb];have w1:az .i64 ((b:Int)-1)=((b-1:Nat):Int):=by rw[ak A0j];omega
 refine Sem.run hE ai A0a ?_;simp +decide (maxDischargeDepth:=200) only[go_sem,X1,X2,X3,bC,w1];refine aT (X:={x:Nat×Nat×Array C3//x.1<=N∧x.2.1<N∧x.2.2.size=N∧Sort.reverseLoop x.1 x.2.1 x.2.2=Sort.reverseRange d a b}) (fun x=>[(3,.ptr 3 0),(6,.i x.1.1),(7,.i x.1.2.1)]) (fun x=>[(3,[.x (.func (.func g) #[] gl),.x (.func (.func sf) #[] gs)]),(1003,aH x.1.2.2)]) (fun x=>x.1.2.1-x.1.1) ⟨(a,b-1,d),by simp only;omega,by simp only;omega,hd,rfl⟩ A0e A0e (fun⟨⟨i,j,dk⟩,hi,hj,hdk,heq⟩=>?_);simp only at hi hj hdk heq;by_cases hc:i<j
 . have c1:decide ((i:Int)<j)=true:=ac0 A0b;have c2:az .i64 ((i:Int)+1)=((i+1:Nat):Int):=by rw[ak A0j];omega
   have c3:az .i64 ((j:Int)-1)=((j-1:Nat):Int):=by rw[ak A0j];omega
   have s1:=eD (N:=N) i j dk A0b A0b hdk;rw[Sort.reverseLoop,adl hc] at heq;simp +decide only[go_sem,X1,X2,X3,bC,c1,c2,c3,s1];refine⟨⟨(i+1,j-1,swp dk i j),by simp only;omega,by simp only;omega,by rw[bR];exact hdk,heq⟩,?_,?_,by simp only;omega⟩<;>simp +decide only[go_sem]<;>(repeat' first|rfl|constructor)
 . have c1:decide ((i:Int)<j)=false:=Io A0b;rw[Sort.reverseLoop,adq hc] at heq;subst heq;exact Xi
theorem xK(d:Array C3)(a b s M:Nat)(ha:a<M)(hb:b<M):(Sort.order2 ae d a b s).1<M∧(Sort.order2 ae d a b s).2.1<M∧(Sort.order2 ae d a b s).2.2<=s+1:=by unfold Sort.order2;split<;>exact⟨by assumption,by assumption,by simp only;omega⟩
theorem Kt(d:Array C3)(a b c s M:Nat)(ha:a<M)(hb:b<M)(hc:c<M):(Sort.median ae d a b c s).1<M∧(Sort.median ae d a b c s).2<=s+3:=by unfold Sort.median;simp only;have h1:=xK d a b s M ha hb;have h2:=xK d _ c (Sort.order2 ae d a b s).2.2 M h1.2.1 hc;have h3:=xK d _ _ (Sort.order2 ae d (Sort.order2 ae d a b s).2.1 c (Sort.order2 ae d a b s).2.2).2.2 M h1.1 h2.1;exact⟨h3.2.1,A0b⟩
def X9(N:Nat)(x:Nat×Nat×Nat×Array C3):Option (V×List U):=if x.1<N∧x.2.1<N∧x.2.2.1<=1000∧x.2.2.2.size=N then some (.tup [.i ((Sort.order2 ae x.2.2.2 x.1 x.2.1 x.2.2.1).1:Int),.i ((Sort.order2 ae x.2.2.2 x.1 x.2.1 x.2.2.1).2.1:Int)],[[.i ((Sort.order2 ae x.2.2.2 x.1 x.2.1 x.2.2.1).2.2:Int)],aH x.2.2.2]) else none
def Gx(N:Nat)(x:Nat×Nat×Nat×Nat×Array C3):Option (V×List U):=if x.1<N∧x.2.1<N∧x.2.2.1<N∧x.2.2.2.1<=900∧x.2.2.2.2.size=N then some (.i ((Sort.median ae x.2.2.2.2 x.1 x.2.1 x.2.2.1 x.2.2.2.1).1:Int),[[.i ((Sort.median ae x.2.2.2.2 x.1 x.2.1 x.2.2.1 x.2.2.2.1).2:Int)],aH x.2.2.2.2]) else none
def Ya(N:Nat)(x:Nat×Nat×Array C3):Option (V×List U):=if 1<=x.1∧x.1+1<N∧x.2.1<=900∧x.2.2.size=N then some (.i ((Sort.medianAdjacent ae x.2.2 x.1 x.2.1).1:Int),[[.i ((Sort.medianAdjacent ae x.2.2 x.1 x.2.1).2:Int)],aH x.2.2]) else none
def Ku(N:Nat)(x:Nat×Nat×Array C3):Option (V×List U):=if x.1<x.2.1∧x.2.1<=N∧x.2.2.size=N then some (.tup [.i ((Sort.choosePivot ae x.2.2 x.1 x.2.1).1:Int),.i (Sort.hintCode (Sort.choosePivot ae x.2.2 x.1 x.2.1).2)],[aH x.2.2]) else none
section
variable{g sf:FuncId}{gl gs:Array Value}{N:Nat}
theorem Kv(a b s:Nat)(d:Array C3)(h1:a<N)(h2:b<N)(h3:s<=1000)(h4:d.size=N):FE (BC g sf gl gs) (X9 N) [eH g sf gl gs,.i a,.i b,.bx [.i s],.bx (aH d)]=some (.tup [.i ((Sort.order2 ae d a b s).1:Int),.i ((Sort.order2 ae d a b s).2.1:Int)],[[.i ((Sort.order2 ae d a b s).2.2:Int)],aH d]):=
 (ca Kl (X9 N) (a,b,s,d)).trans (adl ⟨h1,h2,h3,h4⟩)
theorem BE(a b c s:Nat)(d:Array C3)(h1:a<N)(h2:b<N)(h0:c<N)(h3:s<=900)(h4:d.size=N):FE (xF g sf gl gs) (Gx N) [eH g sf gl gs,.i a,.i b,.i c,.bx [.i s],.bx (aH d)]=some (.i ((Sort.median ae d a b c s).1:Int),[[.i ((Sort.median ae d a b c s).2:Int)],aH d]):=
 (ca Ko (Gx N) (a,b,c,s,d)).trans (adl ⟨h1,h2,h0,h3,h4⟩)
theorem Kw(a s:Nat)(d:Array C3)(h1:1<=a)(h2:a+1<N)(h3:s<=900)(h4:d.size=N):FE (BD g sf gl gs) (Ya N) [eH g sf gl gs,.i a,.bx [.i s],.bx (aH d)]=some (.i ((Sort.medianAdjacent ae d a s).1:Int),[[.i ((Sort.medianAdjacent ae d a s).2:Int)],aH d]):=
 (ca Km (Ya N) (a,s,d)).trans (adl ⟨h1,h2,h3,h4⟩)
end
theorem acY(hS:SoOK G bk N g sf gl gs):FunXV G bk 106 [] (FE (BC g sf gl gs) (X9 N)):=by
 obtain⟨X,hX,X1,X2,X3⟩:=jO hS [] trivial;have hN:=hS.N1;unfold MX at hN;refine cM (k:=4) hX func106 rfl (fun a w=>call106 a w) ntmps106 A0c A0c ?_;intro us r outs hF;obtain⟨⟨a,b,s,d⟩,hus,hG⟩:=bh hF;subst hus;unfold X9 at hG;obtain⟨⟨ha,hb,hs,hd⟩,hG⟩:=bK hG;simp only at ha hb hs hd;cases hG;refine⟨_,rfl,rfl,fun pm m0 w0 hE=>?_⟩;simp only[BC];have w1:az .i64 ((s:Int)+1)=((s+1:Nat):Int):=by rw[ak A0j];omega
 have l1:=dg (N:=N) b a d hb ha hd;refine Sem.run hE ai A0a ?_;unfold Sort.order2;cases hl:ae d[b]! d[a]! with
 |true=>exact Xc
 |false=>exact Xc
theorem QN(hS:SoOK G bk N g sf gl gs):FunXV G bk 104 [] (FE (xF g sf gl gs) (Gx N)):=by obtain⟨X,hX,X1,X2,X3⟩:=jO hS [(106,FE (BC g sf gl gs) (X9 N))] ⟨acY hS,trivial⟩;have hN:=hS.N1;unfold MX at hN;refine cM (k:=5) hX func104 rfl (fun a w=>call104 a w) ntmps104 A0c A0c ?_;intro us r outs hF;obtain⟨⟨a,b,c,s,d⟩,hus,hG⟩:=bh hF;subst hus;unfold Gx at hG;obtain⟨⟨ha,hb,hc,hs,hd⟩,hG⟩:=bK hG;simp only at ha hb hc hs hd;cases hG;refine⟨_,rfl,rfl,fun pm m0 w0 hE=>?_⟩;simp only[xF];unfold Sort.median;simp only;have b1:=xK d a b s N ha hb;have e1:=Kv (g:=g) (sf:=sf) (gl:=gl) (gs:=gs) (N:=N) a b s d ha hb A0b hd;generalize Sort.order2 ae d a b s=r1 at b1 e1⊢;have b2:=xK d r1.2.1 c r1.2.2 N b1.2.1 hc;have e2:=Kv (g:=g) (sf:=sf) (gl:=gl) (gs:=gs) (N:=N) r1.2.1 c r1.2.2 d b1.2.1 hc A0b hd;generalize Sort.order2 ae d r1.2.1 c r1.2.2=r2 at b2 e2⊢;have e3:=Kv (g:=g) (sf:=sf) (gl:=gl) (gs:=gs) (N:=N) r1.1 r2.1 r2.2.2 d b1.1 b2.1 A0b hd;generalize Sort.order2 ae d r1.1 r2.1 r2.2.2=r3 at e3⊢;refine Sem.run hE ai A0a ?_;simp +decide (maxDischargeDepth:=200) only[go_sem,X1,X2,X3,bC,e1,e2,e3]
theorem acZ(hS:SoOK G bk N g sf gl gs):FunXV G bk 103 [] (FE (BD g sf gl gs) (Ya N)):=by
 obtain⟨X,hX,X1,X2,X3⟩:=jO hS [(104,FE (xF g sf gl gs) (Gx N))] ⟨QN hS,trivial⟩;have hN:=hS.N1;unfold MX at hN;refine cM (k:=3) hX func103 rfl (fun a w=>call103 a w) ntmps103 A0c A0c ?_;intro us r outs hF;obtain⟨⟨a,s,d⟩,hus,hG⟩:=bh hF;subst hus;unfold Ya at hG;obtain⟨⟨h1,h2,hs,hd⟩,hG⟩:=bK hG;simp only at h1 h2 hs hd;cases hG;refine⟨_,rfl,rfl,fun pm m0 w0 hE=>?_⟩;simp only[BD];unfold Sort.medianAdjacent;have w1:az .i64 ((a:Int)+1)=((a+1:Nat):Int):=by rw[ak A0j];omega
 have w2:az .i64 ((a:Int)-1)=((a-1:Nat):Int):=by rw[ak A0j];omega
 have e1:=BE (g:=g) (sf:=sf) (gl:=gl) (gs:=gs) (N:=N) (a-1) a (a+1) s d A0b A0b A0b hs hd;refine Sem.run hE ai A0a ?_;simp +decide (maxDischargeDepth:=200) only[go_sem,X1,X2,X3,bC,w1,w2,e1]
theorem Yb(hS:SoOK G bk N g sf gl gs):FunXV G bk 92 [] (FE (fb g sf gl gs) (Ku N)):=by
 obtain⟨X,hX,X1,X2,X3⟩:=jO hS [(103,FE (BD g sf gl gs) (Ya N)),(104,FE (xF g sf gl gs) (Gx N))] ⟨acZ hS,QN hS,trivial⟩;have hN:=hS.N1;unfold MX at hN;refine cM (k:=3) hX func92 rfl (fun a w=>call92 a w) ntmps92 A0c A0c ?_;intro us r outs hF;obtain⟨⟨a,b,d⟩,hus,hG⟩:=bh hF;subst hus;unfold Ku at hG;obtain⟨⟨hab,hbN,hd⟩,hG⟩:=bK hG;simp only at hab hbN hd;cases hG;refine⟨_,rfl,rfl,fun pm m0 w0 hE=>?_⟩;simp only[fb];obtain⟨l,hl⟩:∃l,b-a=l:=⟨_,rfl⟩;obtain⟨i,hi⟩:∃i,a+l/4*1=i:=⟨_,rfl⟩;obtain⟨j,hj⟩:∃j,a+l/4*2=j:=⟨_,rfl⟩;obtain⟨k,hk⟩:∃k,a+l/4*3=k:=⟨_,rfl⟩;have w0:az .i64 ((b:Int)-(a:Int))=(l:Int):=by rw[ak A0j];omega
 have q1:az .i64 ((l:Int).tdiv 4)=((l/4:Nat):Int):=by rw[af7 A0b,ak A0j];omega
 have w1:az .i64 (((l/4:Nat):Int)*1)=((l/4*1:Nat):Int):=by rw[ak A0j];omega
 have w2:az .i64 (((l/4:Nat):Int)*2)=((l/4*2:Nat):Int):=by rw[ak A0j];omega
 have w3:az .i64 (((l/4:Nat):Int)*3)=((l/4*3:Nat):Int):=by rw[ak A0j];omega
 have w4:az .i64 ((a:Int)+((l/4*1:Nat):Int))=(i:Int):=by rw[ak A0j];omega
 have w5:az .i64 ((a:Int)+((l/4*2:Nat):Int))=(j:Int):=by rw[ak A0j];omega
 have w6:az .i64 ((a:Int)+((l/4*3:Nat):Int))=(k:Int):=by rw[ak A0j];omega
 obtain⟨r,hr⟩:∃r:Nat×Nat,(if l≥8 then if l≥50 then Sort.median ae d (Sort.medianAdjacent ae d i 0).1 (Sort.medianAdjacent ae d j (Sort.medianAdjacent ae d i 0).2).1 (Sort.medianAdjacent ae d k (Sort.medianAdjacent ae d j (Sort.medianAdjacent ae d i 0).2).2).1 (Sort.medianAdjacent ae d k (Sort.medianAdjacent ae d j (Sort.medianAdjacent ae d i 0).2).2).2 else Sort.median ae d i j k 0 else (j,0))=r:=⟨_,rfl⟩;have hch:Sort.choosePivot ae d a b=(r.1,if r.2=0 then .increasing else if r.2=12 then .decreasing else .unknown):=by unfold Sort.choosePivot;simp only[hl,hi,hj,hk,hr]
 rw[hch];refine Sem.seq [(3,.ptr 3 0),(1,.i a),(2,.i b)] [(3,[.x (.func (.func g) #[] gl),.x (.func (.func sf) #[] gs)]),(1003,aH d)] (Sem.run hE ai A0a A0o) ?_;refine Sem.seq [(3,.ptr 3 0),(1,.i a),(8,.i l)] [(3,[.x (.func (.func g) #[] gl),.x (.func (.func sf) #[] gs)]),(1003,aH d)] (Sem.run hE ai A0a (by simp +decide only[go_sem,X1,X2,X3,bC,w0])) ?_;refine Sem.seq [(3,.ptr 3 0),(1,.i a),(8,.i l),(9,.ptr 9 0)] [(3,[.x (.func (.func g) #[] gl),.x (.func (.func sf) #[] gs)]),(9,[.i 0]),(1003,aH d)] (Sem.run hE ai A0a A0o) ?_;refine Sem.seq [(3,.ptr 3 0),(1,.i a),(8,.i l),(9,.ptr 9 0),(10,.i i)] [(3,[.x (.func (.func g) #[] gl),.x (.func (.func sf) #[] gs)]),(9,[.i 0]),(1003,aH d)] (Sem.run hE ai A0a (by simp +decide only[go_sem,X1,X2,X3,bC,q1,w1,w4])) ?_;refine Sem.seq [(3,.ptr 3 0),(1,.i a),(8,.i l),(9,.ptr 9 0),(10,.i i),(11,.i j)] [(3,[.x (.func (.func g) #[] gl),.x (.func (.func sf) #[] gs)]),(9,[.i 0]),(1003,aH d)] (Sem.run hE ai A0a (by simp +decide only[go_sem,X1,X2,X3,bC,q1,w2,w5])) ?_;refine Sem.seq [(3,.ptr 3 0),(8,.i l),(9,.ptr 9 0),(10,.i i),(11,.i j),(12,.i k)] [(3,[.x (.func (.func g) #[] gl),.x (.func (.func sf) #[] gs)]),(9,[.i 0]),(1003,aH d)] (Sem.run hE ai A0a (by simp +decide only[go_sem,X1,X2,X3,bC,q1,w3,w6])) ?_;refine Sem.seq [(9,.ptr 9 0),(11,.i r.1)] [(3,[.x (.func (.func g) #[] gl),.x (.func (.func sf) #[] gs)]),(9,[.i r.2]),(1003,aH d)] (Sem.run hE ai A0a ?_) ?_
 . by_cases h8:l≥8
   . rw[adl h8] at hr;have c1:decide (8<=(l:Int))=true:=ac0 A0b;by_cases h50:l≥50
     . rw[adl h50] at hr;have c2:decide (50<=(l:Int))=true:=ac0 A0b;have e1:=Kw (g:=g) (sf:=sf) (gl:=gl) (gs:=gs) (N:=N) i 0 d A0b A0b A0b hd;have b1:=Kt d (i-1) i (i+1) 0 N A0b A0b A0b;change (Sort.medianAdjacent ae d i 0).1<N∧(Sort.medianAdjacent ae d i 0).2<=0+3 at b1;generalize Sort.medianAdjacent ae d i 0=r1 at hr e1 b1;have e2:=Kw (g:=g) (sf:=sf) (gl:=gl) (gs:=gs) (N:=N) j r1.2 d A0b A0b A0b hd;have b2:=Kt d (j-1) j (j+1) r1.2 N A0b A0b A0b;change (Sort.medianAdjacent ae d j r1.2).1<N∧(Sort.medianAdjacent ae d j r1.2).2<=r1.2+3 at b2;generalize Sort.medianAdjacent ae d j r1.2=r2 at hr e2 b2;have e3:=Kw (g:=g) (sf:=sf) (gl:=gl) (gs:=gs) (N:=N) k r2.2 d A0b A0b A0b hd;have b3:=Kt d (k-1) k (k+1) r2.2 N A0b A0b A0b;change (Sort.medianAdjacent ae d k r2.2).1<N∧(Sort.medianAdjacent ae d k r2.2).2<=r2.2+3 at b3;generalize Sort.medianAdjacent ae d k r2.2=r3 at hr e3 b3;have e4:=BE (g:=g) (sf:=sf) (gl:=gl) (gs:=gs) (N:=N) r1.1 r2.1 r3.1 r3.2 d b1.1 b2.1 b3.1 A0b hd;rw[hr] at e4;rw[show((0:Nat):Int)=0 from rfl] at e1;simp +decide only[go_sem,X1,X2,X3,bC,c1,c2,e1,e2,e3,e4]
     . rw[adq h50] at hr;have c2:decide (50<=(l:Int))=false:=Io A0b;have e4:=BE (g:=g) (sf:=sf) (gl:=gl) (gs:=gs) (N:=N) i j k 0 d A0b A0b A0b A0b hd;rw[hr] at e4;rw[show((0:Nat):Int)=0 from rfl] at e4;simp +decide only[go_sem,X1,X2,X3,bC,c1,c2,e4]
   . rw[adq h8] at hr;have c1:decide (8<=(l:Int))=false:=Io A0b;rw[<-hr];simp +decide only[go_sem,X1,X2,X3,bC,c1];rfl
 . refine Sem.run hE ai A0a ?_;by_cases h0:r.2=0
   . rw[adl h0];have c1:decide ((r.2:Int)=0)=true:=ac0 A0b;simp +decide only[go_sem,X1,X2,X3,bC,c1,Sort.hintCode]
   . rw[adq h0];have c1:decide ((r.2:Int)=0)=false:=Io A0b;by_cases h12:r.2=12
     . rw[adl h12];have c2:decide ((r.2:Int)=12)=true:=ac0 A0b;simp +decide only[go_sem,X1,X2,X3,bC,c1,c2,Sort.hintCode]
     . rw[adq h12];have c2:decide ((r.2:Int)=12)=false:=Io A0b;simp +decide only[go_sem,X1,X2,X3,bC,c1,c2,Sort.hintCode]
