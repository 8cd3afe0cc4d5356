/- Runs, part by part: what is known may be less from part to part. No program is named here. -/
import Derived.Test.YtalkmhjanlljhaaGreatMI
import Derived.Test.YtalkmhjanlljhaaGreatMPO
import Derived.Test.YtalkmhjanlljhaaGreatMG
import Derived.Sort.AssemblyPlain
namespace Go.Proofs.YtalkmhjanlljhaaGreat
set_option linter.unusedSimpArgs false
set_option maxHeartbeats 8000000
set_option maxRecDepth 100000
open Go Go.RowKit
attribute [go_sem] Tryz.results103 Tryz.results104 Tryz.results106 Tryz.results107 Tryz.results108 Tryz.results109 Tryz.results110 Tryz.results125 Tryz.results128 Tryz.results129 Tryz.results136
def Sem (E:Env) (n:Nat) (pm:Pm) (m0:Lim) (w0:World) (c:Code) (st:St) (K:Out->St->Prop):Prop:=
 ∀a w m β,Rel E n pm m0 w0 m β st a w->c.wpIn (be none) 0 E.P (eP E n pm m0 w0 K) a w
def BM (ts:List (Nat×V)) (bs:List (Nat×List V)) (K:Out->St->Prop):Out->St->Prop
 | .normal,st=>gY st ts∧gE st bs
 | .ret,st=>K .ret st
 | .exit id,st=>K (.exit id) st
def seqQ (Q:Prop) (ts:List (Nat×V)) (bs:List (Nat×List V)) (K:Out->St->Prop):Out->St->Prop
 | .normal,st=>Q∧gY st ts∧gE st bs
 | .ret,st=>K .ret st
 | .exit id,st=>K (.exit id) st
def If (K:Out->St->Prop):Out->St->Prop
 | .normal,_=>False
 | .ret,st=>K .ret st
 | .exit id,st=>K (.exit id) st
def lI {X:Type} (T:X->List (Nat×V)) (B:X->List (Nat×List V)) (μ:X->Nat) (n:Nat) (K:Out->St->Prop):Out->St->Prop
 | .normal,st=>pq T B μ n st
 | .ret,st=>K .ret st
 | .exit id,st=>K (.exit id) st
section
variable {E:Env} {n:Nat} {pm:Pm} {m0:Lim} {w0:World} {st:St} {K:Out->St->Prop}
section
variable (ts:List (Nat×V)) (bs:List (Nat×List V)) (K:Out->St->Prop) (st:St) (id:Nat)
theorem tZ:BM ts bs K .normal st=(gY st ts∧gE st bs):=rfl
theorem EQ:BM ts bs K .ret st=K .ret st:=rfl
theorem t6 (Q:Prop):seqQ Q ts bs K .normal st=(Q∧gY st ts∧gE st bs):=rfl
theorem ET (Q:Prop):seqQ Q ts bs K .ret st=K .ret st:=rfl
theorem BN (Q:Prop):seqQ Q ts bs K (.exit id) st=K (.exit id) st:=rfl
theorem xh (Q:Prop) {o o':Out} (h:o=o'):seqQ Q ts bs K o st=seqQ Q ts bs K o' st:=by rw[h]
variable {o o':Out}
theorem xi (h:o=o'):BM ts bs K o st=BM ts bs K o' st:=by rw[h]
theorem t8:If K .normal st=False:=rfl
theorem EU:If K .ret st=K .ret st:=rfl
theorem BO:If K (.exit id) st=K (.exit id) st:=rfl
theorem BP:BM ts bs K (.exit id) st=K (.exit id) st:=rfl
variable {X:Type} (T:X->List (Nat×V)) (B:X->List (Nat×List V)) (μ:X->Nat) (n:Nat)
theorem oT:lI T B μ n K .normal st=pq T B μ n st:=rfl
theorem xj:lI T B μ n K .ret st=K .ret st:=rfl
theorem qT (h:o=o'):lI T B μ n K o st=lI T B μ n K o' st:=by rw[h]
theorem ua:lI T B μ n K (.exit id) st=K (.exit id) st:=rfl
end
attribute [go_sem] tZ EQ BP t8 EU BO oT xj ua gY gE
attribute [go_sem] t6 ET BN
attribute [congr] xh xi qT
theorem Sem.run (hE:EnvX E pm) (hm:E.P.follows .mixedOrders=true) {c:Code} (hok:aY E.any n c=true) (h:Go.Proofs.YtalkmhjanlljhaaGreat.run E c st K):Sem E n pm m0 w0 c st K:=fun a w m β hr=>
 wpIn_mono (j1 (r:=none) (W:=fun _=>true) hE hm c K st a w m β hok (jm c) hr h) (fun _ _ _ h=>h.1)
variable {c:Code}
theorem Sem.le {st':St} (hl:Le st' st) (h:Sem E n pm m0 w0 c st' K):Sem E n pm m0 w0 c st K:=fun a w m β hr=>h a w m β (hr.le hl)
theorem Sem.seq {d:Code} (ts:List (Nat×V)) (bs:List (Nat×List V)) (h1:Sem E n pm m0 w0 c st (BM ts bs K)) (h2:Sem E n pm m0 w0 d (aq ts bs) K):Sem E n pm m0 w0 (c.seq d) st K:=fun a w m β hr=>by
 refine wpIn_seq (wpIn_mono (h1 a w m β hr) ?_);intro e a' w' hp;cases e<;>simp only[eP,Exit.then] at hp⊢ <;>first|exact hp.elim|exact hp|skip
 obtain⟨st',m',β',hk,h'⟩:=hp;exact h2 a' w' m' β' (h'.le (aK hk.1 hk.2))
theorem Sem.seqQ {d:Code} (Q:Prop) (ts:List (Nat×V)) (bs:List (Nat×List V)) (h1:Sem E n pm m0 w0 c st (Go.Proofs.YtalkmhjanlljhaaGreat.seqQ Q ts bs K)) (h2:Q->Sem E n pm m0 w0 d (aq ts bs) K):Sem E n pm m0 w0 (c.seq d) st K:=fun a w m β hr=>by
 refine wpIn_seq (wpIn_mono (h1 a w m β hr) ?_);intro e a' w' hp;cases e<;>simp only[eP,Exit.then] at hp⊢ <;>first|exact hp.elim|exact hp|skip
 obtain⟨st',m',β',⟨hq,hk1,hk2⟩,h'⟩:=hp;exact h2 hq a' w' m' β' (h'.le (aK hk1 hk2))
theorem Sem.seq_out {d:Code} (h1:Sem E n pm m0 w0 c st (If K)):Sem E n pm m0 w0 (c.seq d) st K:=fun a w m β hr=>by
 refine wpIn_seq (wpIn_mono (h1 a w m β hr) ?_);intro e a' w' hp;cases e<;>simp only[eP,Exit.then] at hp⊢ <;>first|exact hp.elim|exact hp|skip
 obtain⟨st',m',β',hk,h'⟩:=hp;exact hk.elim
theorem Sem.block {id:Nat} (h:Sem E n pm m0 w0 c st (jZ id K)):Sem E n pm m0 w0 (.block id c) st K:=fun a w m β hr=>by
 refine wpIn_block (wpIn_mono (h a w m β hr) ?_);intro e a' w' hp;cases e<;>simp only[eP,Exit.inBlock] at hp⊢ <;>first|exact hp.elim|exact hp|skip
 rename_i id';obtain⟨st',m',β',hk,h'⟩:=hp;by_cases hid:id'=id
 . subst hid;rw[iN,Va rfl] at hk;simp only[Vi];exact⟨st',m',β',hk,h'⟩
 . rw[iN,Vh hid] at hk;simp only[hid,Vc];exact⟨st',m',β',hk,h'⟩
variable {X:Type}
theorem Sem.loop (T:X->List (Nat×V)) (B:X->List (Nat×List V)) (μ:X->Nat) (x0:X) (h0:gY st (T x0)) (h0':gE st (B x0))
 (h:∀x,Sem E n pm m0 w0 c (aq (T x) (B x)) (lI T B μ (μ x) K)):Sem E n pm m0 w0 (.loop c) st K:=fun a w m β hr=>by
 refine ce (X:=X) (fun x a w=>∃m β,Rel E n pm m0 w0 m β (aq (T x) (B x)) a w) μ x0 ⟨m,β,hr.le (aK h0 h0')⟩ ?_;rintro x a1 w1 ⟨m1,β1,hr1⟩;refine wpIn_mono (h x a1 w1 m1 β1 hr1) ?_;intro e a' w' hp;cases e<;>simp only[eP] at hp⊢ <;>first|exact hp.elim|exact hp|skip
 obtain⟨st',m',β',⟨x',h1,h2,h3⟩,h'⟩:=hp;exact⟨x',⟨m',β',h'.le (aK h1 h2)⟩,h3⟩
theorem Sem.cond {c:Operand} {x y:Code} {t:Bool} (hc:ev E st c= .x (.bool t)) (h1:t=true->Sem E n pm m0 w0 x st K) (h2:t=false->Sem E n pm m0 w0 y st K):Sem E n pm m0 w0 (.cond c x y) st K:=fun a w m β hr=>by have hv:a.eval c= .bool t:=(hc▸aL hr c:Rs m w β (a.eval c) (.x (.bool t))).x;exact wpIn_cond_split hv (fun e=>h1 e a w m β hr) (fun e=>h2 e a w m β hr)
theorem Sem.mono {K':Out->St->Prop} (h:Sem E n pm m0 w0 c st K) (hk:∀o st,K o st->K' o st):Sem E n pm m0 w0 c st K':=fun a w m β hr=>by refine wpIn_mono (h a w m β hr) ?_;intro e a' w' hp;cases e<;>simp only[eP] at hp⊢ <;>first|exact hp.elim|(obtain⟨st',m',β',h1,h2⟩:=hp;exact⟨st',m',β',hk _ _ h1,h2⟩)
theorem xl (hEx:∀pm:Pm,∀bk,pm.b E.xk=bk->(∀f lb F,E.X f lb=some F->FunX E bk f lb F)->EnvX E pm) (hmb:∀s,1000<=s->E.MB s=false) (_hm:E.P.follows .mixedOrders=true) {f:FuncId} {fn:Func} {c:Code} {F:List V->Option (V×List (List V))} {k bk:Nat} (hf:E.P.funcs[f]?=some fn) (hb:fn.body=some c)
 (hcall:∀args w,(callFunc f args).run E.P w= .ok (.enter f args) w) (hn:fn.ntmps=n) (hk:k<n) (hn1:n<=1000) (hxk:E.xk=1000+k) (hX:∀f lb F,E.X f lb=some F->FunX E bk f lb F)
 (hrun:∀us r outs,F us=some (r,outs)->∃cs,us.length=k+1∧us[k]?=some (.bx cs)∧∀pm m0 w0,EnvX E pm->Sem E n pm m0 w0 c ⟨aD (cQ us).t k .undef,(cQ us).b⟩ (Dc E fn.results.toList us r outs)):FunX E bk f [] F:=by
 intro m w vs us bs gs hs r outs hF hargs hnd hhnd hj hg;obtain⟨cs,hl,hcs,hrun⟩:=hrun us r outs hF;have hlen:=hargs.len;simp only[U4,Vk,U3,VB] at hlen;have hargs':ArgsP m w E.K (vs.push (.pointer (some ⟨bk,0,none⟩))).toList us bs gs hs:=by simpa using hargs
 obtain⟨γ,hrel,_,h1,h3,h8⟩:=j7 hmb hn1 hargs' hnd hhnd hj hg (by simp;omega);have hγ:γ (1000+k)=bk:=by
  obtain⟨q1,_,_⟩:=h1 k cs hcs;have hkv:k=vs.size:=by omega
  subst hkv;simp at q1;exact q1.symm
 subst hn;have hE:EnvX E ⟨bs++(gs++hs),γ,gs,[]⟩:=hEx _ bk (by rw[hxk];exact hγ) hX;have hrel':=Rel.drop (T:=vs++Array.replicate (fn.ntmps-vs.size) Go.undef) hrel (by simp;omega) k (fun i hi=>by
  have hkv:k=vs.size:=by omega
  subst hkv;simp only[Ve];rcases VX i vs.size with h'|h'
  . rw[V9 h',V9 (by simp;omega),Array.getElem?_push_lt h',Vn h']
  . rw[Xc h',Xc (by simp;omega)];simp only[Array.size_push,Wz];have:i-vs.size<fn.ntmps-vs.size↔i-(vs.size+1)<fn.ntmps-(vs.size+1):=by omega
    by_cases hc:i-vs.size<fn.ntmps-vs.size
    . rw[Va hc,Va (this.1 hc)]
    . rw[Vh hc,Vh (fun h=>hc (this.2 h))])
 refine .inl ⟨hcall _ _,?_⟩;rw[show vs++(⟨[]⟩:Array Value)=vs from Xt];refine calls_of_wp hf hb (wp_mono (wpIn_wide.1 (hrun _ _ _ hE _ _ _ _ hrel')) ?_);intro e a' w' hp
 have done:∀st' m' β',((mt E st' fn.results.toList=some r∨eY E st' fn.results.toList=some r)∧kJ us st'=some outs)->Rel E fn.ntmps ⟨bs++(gs++hs),γ,gs,[]⟩ m w m' β' st' a' w'->a'.defers=[]∧∃v,(results fn a'.tmps).run E.P w'= .ok v w'∧∃v',Ending.returned v= .returned v'∧∃m',Rd m' w' v' r∧Bel (bs++(gs++hs)) w w'∧Ext m w m' w'∧(∀blk,blk<w.heap.size->blk∉gs->m' blk=m blk)∧(∃o1 o2,outs=o1++o2∧OutsP m' w' bs o1∧OutsM m' w' hs o2)∧
  ∀sz es k,r= .sl false sz es (some k)->∃g,RowIs m' w' v' g sz es.length∧(w.heap.size<=g∨g∈gs):=by
  intro st' m' β' h1' h2';obtain⟨q1,v,q2,q3⟩:=j8 h3 h8 h1' h2';exact⟨q1,v,q2,v,rfl,m',q3⟩
 cases e with
 |normal=>obtain⟨st',m',β',h1,h2⟩:=hp;exact done st' m' β' h1 h2
 |ret=>obtain⟨st',m',β',h1,h2⟩:=hp;exact done st' m' β' h1 h2
 |exit id=>obtain⟨st',m',β',h1,h2⟩:=hp;exact h1.elim
 |goto l=>exact hp.elim
 |panic ch=>exact hp.elim
 |outgrown=>exact hp.elim
end
open Go.Sort (swp)
def az (d:Array C3):List V:=d.toList.flatMap fun p=>(aa p).cells
theorem gL {a b:Array C3} (h:az a=az b):a=b:=by
 have key:∀l l':List C3,(l.flatMap fun p=>(aa p).cells)=(l'.flatMap fun p=>(aa p).cells)->l=l':=by
  intro l
  induction l with
  | nil=>
    intro l' h;cases l' with
    |nil=>rfl
    |cons p l'=>simp[aa,V.cells] at h
  | cons p l ih=>
    intro l' h;cases l' with
    |nil=>simp[aa,V.cells] at h
    | cons p' l'=>
      simp only[VS] at h;obtain⟨h1,h2⟩:=List.append_inj h (by simp[aa,V.cells]);have e:aa p=aa p':=by obtain⟨x,y,z⟩:=p;obtain⟨x',y',z'⟩:=p';simp only[aa,V.cells] at h1⊢;rw[h1]
      rw[jx _ _ e,ih _ h2]
 exact V3.1 (key _ _ h)
abbrev dJ (g sf:FuncId) (gl gs:Array Value):V:= .agg [.x (.func (.func g) #[] gl),.x (.func (.func sf) #[] gs)]
section
variable (g sf:FuncId) (gl gs:Array Value)
def en2 (x:Nat×Nat×Array C3):List V:=[.x (.int .i64 (x.1:Int)),.x (.int .i64 (x.2.1:Int)),.bx (az x.2.2)]
def eo (x:Nat×Nat×Array C3):List V:=[dJ g sf gl gs,.x (.int .i64 (x.1:Int)),.x (.int .i64 (x.2.1:Int)),.bx (az x.2.2)]
def fW (x:Nat×Nat×Nat×Array C3):List V:=[dJ g sf gl gs,.x (.int .i64 (x.1:Int)),.x (.int .i64 (x.2.1:Int)),.x (.int .i64 (x.2.2.1:Int)),.bx (az x.2.2.2)]
def xm (x:Nat×Nat×Nat×Array C3):List V:=[dJ g sf gl gs,.x (.int .i64 (x.1:Int)),.x (.int .i64 (x.2.1:Int)),.bx [.x (.int .i64 (x.2.2.1:Int))],.bx (az x.2.2.2)]
def xn (x:Nat×Nat×Array C3):List V:=[dJ g sf gl gs,.x (.int .i64 (x.1:Int)),.bx [.x (.int .i64 (x.2.1:Int))],.bx (az x.2.2)]
def ub (x:Nat×Nat×Nat×Nat×Array C3):List V:=[dJ g sf gl gs,.x (.int .i64 (x.1:Int)),.x (.int .i64 (x.2.1:Int)),.x (.int .i64 (x.2.2.1:Int)),.bx [.x (.int .i64 (x.2.2.2.1:Int))],.bx (az x.2.2.2.2)]
end
theorem za (x y:Nat×Nat×Array C3) (h:en2 x=en2 y):x=y:=by obtain⟨a,b,d⟩:=x;obtain⟨a',b',d'⟩:=y;simp only[en2,VE,V.x.injEq,Value.int.injEq,V.bx.injEq,Xo,Wx,Xx] at h;obtain⟨rfl,rfl,h⟩:=h;rw[gL h]
section
variable {g sf:FuncId} {gl gs:Array Value}
theorem gM (x y:Nat×Nat×Array C3) (h:eo g sf gl gs x=eo g sf gl gs y):x=y:=by obtain⟨a,b,d⟩:=x;obtain⟨a',b',d'⟩:=y;simp only[eo,VE,V.x.injEq,Value.int.injEq,V.bx.injEq,Xo,Wx,Xx] at h;obtain⟨rfl,rfl,h⟩:=h;rw[gL h]
theorem kY (x y:Nat×Nat×Nat×Array C3) (h:fW g sf gl gs x=fW g sf gl gs y):x=y:=by obtain⟨a,b,c,d⟩:=x;obtain⟨a',b',c',d'⟩:=y;simp only[fW,VE,V.x.injEq,Value.int.injEq,V.bx.injEq,Xo,Wx,Xx] at h;obtain⟨rfl,rfl,rfl,h⟩:=h;rw[gL h]
theorem EV (x y:Nat×Nat×Nat×Array C3) (h:xm g sf gl gs x=xm g sf gl gs y):x=y:=by obtain⟨a,b,c,d⟩:=x;obtain⟨a',b',c',d'⟩:=y;simp only[xm,VE,V.x.injEq,Value.int.injEq,V.bx.injEq,Xo,Wx,Xx] at h;obtain⟨rfl,rfl,rfl,h⟩:=h;rw[gL h]
theorem EW (x y:Nat×Nat×Array C3) (h:xn g sf gl gs x=xn g sf gl gs y):x=y:=by obtain⟨a,c,d⟩:=x;obtain⟨a',c',d'⟩:=y;simp only[xn,VE,V.x.injEq,Value.int.injEq,V.bx.injEq,Xo,Wx,Xx] at h;obtain⟨rfl,rfl,h⟩:=h;rw[gL h]
theorem EX (x y:Nat×Nat×Nat×Nat×Array C3) (h:ub g sf gl gs x=ub g sf gl gs y):x=y:=by obtain⟨a,b,e,c,d⟩:=x;obtain⟨a',b',e',c',d'⟩:=y;simp only[ub,VE,V.x.injEq,Value.int.injEq,V.bx.injEq,Xo,Wx,Xx] at h;obtain⟨rfl,rfl,rfl,rfl,h⟩:=h;rw[gL h]
end
theorem bF (d:Array C3) (i j:Nat):(swp d i j).size=d.size:=by simp[swp]
abbrev MX:Nat:=1000000
def GLess (N:Nat) (x:Nat×Nat×Array C3):Option (V×List (List V)):=if x.1<N∧x.2.1<N∧x.2.2.size=N then some (.x (.bool (ac x.2.2[x.1]! x.2.2[x.2.1]!)),[az x.2.2]) else none
def GSwp (N:Nat) (x:Nat×Nat×Array C3):Option (V×List (List V)):=if x.1<N∧x.2.1<N∧x.2.2.size=N then some (.tup [],[az (swp x.2.2 x.1 x.2.1)]) else none
def FunXV (G:Nat->V) (bk:Nat) (f:FuncId) (lb:List Value) (F:List V->Option (V×List (List V))):Prop:=FunX (dB G (fun _ _=>none) 0) bk f lb F
structure SoOK (G:Nat->V) (bk N:Nat) (g sf:FuncId) (gl gs:Array Value):Prop where
 gl0:gl.toList≠[]
 gs0:gs.toList≠[]
 ne:g≠sf
 N1:N<=MX
 less:FunXV G bk g gl.toList (FE en2 (GLess N))
 swap:FunXV G bk sf gs.toList (FE en2 (GSwp N))
def KZ (G:Nat->V) (bk:Nat):List (Nat×(List V->Option (V×List (List V))))->Prop
 |[]=>True
 |p::l=>FunXV G bk p.1 [] p.2∧KZ G bk l
section
variable {G:Nat->V} {bk N:Nat} {g sf:FuncId} {gl gs:Array Value}
theorem iB (hS:SoOK G bk N g sf gl gs) (l:List (Nat×(List V->Option (V×List (List V))))) (hl:KZ G bk l):∃X:FuncId->List Value->Option (List V->Option (V×List (List V))),(∀f lb F,X f lb=some F->FunXV G bk f lb F)∧X g gl.toList=some (FE en2 (GLess N))∧X sf gs.toList=some (FE en2 (GSwp N))∧∀f,X f []=bo l f:=by
 classical
 refine⟨fun f lb=>if lb=[] then bo l f else if f=g∧lb=gl.toList then some (FE en2 (GLess N)) else if f=sf∧lb=gs.toList then some (FE en2 (GSwp N)) else none,fun f lb F h=>?_,?_,?_,fun f=>Va rfl⟩
 . by_cases h0:lb=[]
   . simp only[h0,Vi] at h⊢;have key:∀l,KZ G bk l->bo l f=some F->FunXV G bk f [] F:=by
      intro l
      induction l with
      |nil=>intro _ h;cases h
      | cons p l ih=>
        intro q hF;simp only[bo] at hF;split at hF
        . rename_i e;cases hF;exact e▸q.1
        . exact ih q.2 hF
     exact key l hl h
   . simp only[h0,Vc] at h;split at h
     . rename_i e;cases h;rw[e.1,e.2];exact hS.less
     . split at h
       . rename_i e;cases h;rw[e.1,e.2];exact hS.swap
       . cases h
 . simp only[hS.gl0,Vc,and_self,Vi]
 . simp only[hS.gs0,Vc,and_self,Vi];rw[Vh (fun e=>hS.ne e.1.symm)]
theorem cH (i j:Nat) (d:Array C3) (hi:i<N) (hj:j<N) (hd:d.size=N):FE en2 (GLess N) [.x (.int .i64 (i:Int)),.x (.int .i64 (j:Int)),.bx (az d)]=some (.x (.bool (ac d[i]! d[j]!)),[az d]):=
 (bC za (GLess N) (i,j,d)).trans (Va ⟨hi,hj,hd⟩)
theorem dE (i j:Nat) (d:Array C3) (hi:i<N) (hj:j<N) (hd:d.size=N):FE en2 (GSwp N) [.x (.int .i64 (i:Int)),.x (.int .i64 (j:Int)),.bx (az d)]=some (.tup [],[az (swp d i j)]):=
 (bC za (GSwp N) (i,j,d)).trans (Va ⟨hi,hj,hd⟩)
end
variable {G:Nat->V} {f:FuncId} {fn:Func} {c:Code} {F:List V->Option (V×List (List V))} {k n bk:Nat}
theorem im {X:FuncId->List Value->Option (List V->Option (V×List (List V)))} (hX:∀f lb F,X f lb=some F->FunXV G bk f lb F) (hf:Tryz.prog.funcs[f]?=some fn) (hb:fn.body=some c)
 (hcall:∀args w,(callFunc f args).run Tryz.prog w= .ok (.enter f args) w) (hn:fn.ntmps=n) (hok:aY (fun _=>false) n c=true) (hk:k<n) (hn1:n<=1000)
 (hrun:∀us r outs,F us=some (r,outs)->∃cs,us.length=k+1∧us[k]?=some (.bx cs)∧run (dB G X (1000+k)) c ⟨aD (cQ us).t k .undef,(cQ us).b⟩ (yL (dB G X (1000+k)) fn.results.toList us r outs)):FunXV G bk f [] F:=by
 refine sI (E:=dB G X (1000+k)) (n:=n) (fun pm bk' h1 h2=>yO G X (1000+k) (by omega) pm bk' h1 h2) (fun _ _=>rfl) (by kernel_rfl) hf hb hcall hn hok hk hn1 rfl hX (fun us r outs hF=>?_);obtain⟨cs,h1,h2,h3⟩:=hrun us r outs hF;refine⟨cs,h1,h2,_,Le.refl _,kI (fun o st hk=>?_) h3⟩;cases o with
 |exit id=>exact hk
 |normal=>exact⟨.inr hk.1,hk.2⟩
 |ret=>exact⟨.inr hk.1,hk.2⟩
theorem cm {X:FuncId->List Value->Option (List V->Option (V×List (List V)))} (hX:∀f lb F,X f lb=some F->FunXV G bk f lb F) (hf:Tryz.prog.funcs[f]?=some fn) (hb:fn.body=some c)
 (hcall:∀args w,(callFunc f args).run Tryz.prog w= .ok (.enter f args) w) (hn:fn.ntmps=n) (hk:k<n) (hn1:n<=1000)
 (hrun:∀us r outs,F us=some (r,outs)->∃cs,us.length=k+1∧us[k]?=some (.bx cs)∧∀pm m0 w0,EnvX (dB G X (1000+k)) pm->Sem (dB G X (1000+k)) n pm m0 w0 c ⟨aD (cQ us).t k .undef,(cQ us).b⟩ (yL (dB G X (1000+k)) fn.results.toList us r outs)):FunXV G bk f [] F:=by
 refine xl (E:=dB G X (1000+k)) (n:=n) (fun pm bk' h1 h2=>yO G X (1000+k) (by omega) pm bk' h1 h2) (fun _ _=>rfl) (by kernel_rfl) hf hb hcall hn hk hn1 rfl hX (fun us r outs hF=>?_);obtain⟨cs,h1,h2,h3⟩:=hrun us r outs hF;refine⟨cs,h1,h2,fun pm m0 w0 hE=>Sem.mono (h3 pm m0 w0 hE) (fun o st hk=>?_)⟩;cases o with
 |exit id=>exact hk
 |normal=>exact⟨.inr hk.1,hk.2⟩
 |ret=>exact⟨.inr hk.1,hk.2⟩
theorem ag:Tryz.prog.follows .mixedOrders=true:=by kernel_rfl
def EY (N:Nat) (x:Nat×Nat×Array C3):Option (V×List (List V)):=if x.1<=x.2.1∧x.2.1<=N∧x.2.2.size=N then some (.tup [],[az (Go.Sort.insertionSort ac x.2.2 x.1 x.2.1)]) else none
variable {a j:Nat} {d:Array C3}
theorem oU (h: ¬a<j):Go.Sort.insInner ac a j d=d:=by
 cases j with
 |zero=>rfl
 |succ j=>rw[Go.Sort.insInner];simp;intro h1;omega
variable {N:Nat} {g sf:FuncId} {gl gs:Array Value}
theorem Qf (hS:SoOK G bk N g sf gl gs):FunXV G bk 103 [] (FE (eo g sf gl gs) (EY N)):=by
 obtain⟨X,hX,X1,X2,X3⟩:=iB hS [] trivial;have hN:=hS.N1;unfold MX at hN;refine im (k:=3) hX Tryz.func103 rfl (fun a w=>Tryz.call103 a w) Tryz.ntmps103 (by kernel_rfl) (by decide) (by decide) ?_;clear hX;intro us r outs hF;obtain⟨⟨a,b,d⟩,hus,hG⟩:=aZ hF;clear hF;subst hus;unfold EY at hG;obtain⟨⟨hab,hbN,hd⟩,hG⟩:=bv hG;simp only at hab hbN hd;cases hG;refine⟨_,rfl,rfl,?_⟩;simp only[eo];have w1:ax .i64 ((a:Int)+1)=((a+1:Nat):Int):=by rw[ak (by unfold co;omega)];omega
 simp +decide (maxDischargeDepth:=200) only[go_sem,X1,X2,X3,bo,w1];refine aI (X:={x:Nat×Array C3//a+1<=x.1∧x.1<=N+1∧x.2.size=N∧Go.Sort.insOuter ac a b x.1 x.2=Go.Sort.insertionSort ac d a b}) (fun x=>[(1,.x (.int .i64 (a:Int))),(2,.x (.int .i64 (b:Int))),(3,.ptr 3 0),(6,.x (.int .i64 (x.1.1:Int)))]) (fun x=>[(3,[.x (.func (.func g) #[] gl),.x (.func (.func sf) #[] gs)]),(1003,az x.1.2)]) (fun x=>b-x.1.1) ⟨(a+1,d),by omega,by omega,hd,rfl⟩ (by simp +decide only[go_sem]<;>(repeat' first|rfl|constructor)) (by simp +decide only[go_sem]<;>(repeat' first|rfl|constructor)) (fun⟨⟨i,dk⟩,hi1,hi2,hdk,heq⟩=>?_);simp only at hi1 hi2 hdk heq;by_cases hi:i<b
 . have c1:decide ((i:Int)<(b:Int))=true:=iO (by omega);rw[Go.Sort.insOuter,Va hi] at heq;have w2:ax .i64 ((i:Int)+1)=((i+1:Nat):Int):=by rw[ak (by unfold co;omega)];omega
   simp +decide (maxDischargeDepth:=200) only[go_sem,X1,X2,X3,bo,c1];refine aI (X:={y:Nat×Array C3//a<=y.1∧y.1<=i∧y.2.size=N∧Go.Sort.insInner ac a y.1 y.2=Go.Sort.insInner ac a i dk}) (fun y=>[(1,.x (.int .i64 (a:Int))),(2,.x (.int .i64 (b:Int))),(3,.ptr 3 0),(6,.x (.int .i64 (i:Int))),(7,.x (.int .i64 (y.1.1:Int)))]) (fun y=>[(3,[.x (.func (.func g) #[] gl),.x (.func (.func sf) #[] gs)]),(1003,az y.1.2)]) (fun y=>y.1.1) ⟨(i,dk),by omega,by omega,hdk,rfl⟩ (by simp +decide only[go_sem]<;>(repeat' first|rfl|constructor)) (by simp +decide only[go_sem]<;>(repeat' first|rfl|constructor)) (fun⟨⟨j,dj⟩,hj1,hj2,hdj,hej⟩=>?_);simp only at hj1 hj2 hdj hej;by_cases hj:a<j
   . obtain⟨k,rfl⟩:∃k,j=k+1:=⟨j-1,by omega⟩;have q1:decide ((a:Int)<((k+1:Nat):Int))=true:=iO (by omega);have q2:ax .i64 (((k+1:Nat):Int)-1)=((k:Nat):Int):=by rw[ak (by unfold co;omega)];omega
     have l1:=cH (N:=N) (k+1) k dj (by omega) (by omega) hdj;have s1:=dE (N:=N) (k+1) k dj (by omega) (by omega) hdj;rw[Go.Sort.insInner] at hej;cases hl:ac dj[k+1]! dj[k]! with
     |false=>rw[hl] at l1 hej;simp only[Bool.and_false,VF,Vc] at hej;simp +decide (maxDischargeDepth:=200) only[go_sem,X1,X2,X3,bo,q1,q2,w2,l1];refine⟨⟨(i+1,dj),by omega,by omega,hdj,by rw[hej];exact heq⟩,?_,?_,by simp only;omega⟩<;>simp +decide only[go_sem]<;>(repeat' first|rfl|constructor)
     |true=>rw[hl] at l1 hej;simp only[Xf,Vz,Yb,hj,Vi] at hej;simp +decide (maxDischargeDepth:=200) only[go_sem,X1,X2,X3,bo,q1,q2,w2,l1,s1];refine⟨⟨(k,swp dj (k+1) k),by omega,by omega,by rw[bF];exact hdj,hej⟩,?_,?_,by simp only;omega⟩<;>simp +decide only[go_sem]<;>(repeat' first|rfl|constructor)
   . have q1:decide ((a:Int)<((j:Nat):Int))=false:=tl (by omega);rw[oU hj] at hej;simp +decide (maxDischargeDepth:=200) only[go_sem,X1,X2,X3,bo,q1,w2];refine⟨⟨(i+1,dj),by omega,by omega,hdj,by rw[hej];exact heq⟩,?_,?_,by simp only;omega⟩<;>simp +decide only[go_sem]<;>(repeat' first|rfl|constructor)
 . have c1:decide ((i:Int)<(b:Int))=false:=tl (by omega);rw[Go.Sort.insOuter,Vh hi] at heq;subst heq;simp +decide (maxDischargeDepth:=200) only[go_sem,X1,X2,X3,bo,c1]
def pM (N:Nat) (x:Nat×Nat×Nat×Array C3):Option (V×List (List V)):=if x.1<=N∧x.2.2.1+x.2.1<=N∧x.2.2.2.size=N then some (.tup [],[az (Go.Sort.siftDown ac x.2.1 x.2.2.1 x.1 x.2.2.2)]) else none
def uc (N:Nat) (x:Nat×Nat×Array C3):Option (V×List (List V)):=if x.1<=x.2.1∧x.2.1<=N∧x.2.2.size=N then some (.tup [],[az (Go.Sort.heapSort ac x.2.2 x.1 x.2.1)]) else none
section
variable {hi F r:Nat} {d:Array C3}
theorem qU (h: ¬2*r+1<hi):Go.Sort.siftDown ac hi F r d=d:=by rw[Go.Sort.siftDown,dif_pos (by omega)]
theorem Qg (h:2*r+2<hi) (h1:ac d[F+(2*r+1)]! d[F+(2*r+1)+1]! =true):Go.Sort.siftDown ac hi F r d=if ac d[F+r]! d[F+(2*r+2)]! =true then Go.Sort.siftDown ac hi F (2*r+2) (swp d (F+r) (F+(2*r+2))) else d:=by
 rw[Go.Sort.siftDown,dif_neg (by omega)];have e:(decide (2*r+1+1<hi)&&ac d[F+(2*r+1)]! d[F+(2*r+1)+1]!)=true:=by rw[h1,Xf];exact iO (by omega)
 rw[Va e];cases ac d[F+r]! d[F+(2*r+2)]! <;>simp[h]
theorem K0 (h0:2*r+1<hi) (h1: ¬(2*r+2<hi∧ac d[F+(2*r+1)]! d[F+(2*r+1)+1]! =true)):Go.Sort.siftDown ac hi F r d=if ac d[F+r]! d[F+(2*r+1)]! =true then Go.Sort.siftDown ac hi F (2*r+1) (swp d (F+r) (F+(2*r+1))) else d:=by
 rw[Go.Sort.siftDown,dif_neg (by omega)];have e: ¬(decide (2*r+1+1<hi)&&ac d[F+(2*r+1)]! d[F+(2*r+1)+1]!)=true:=by intro e;rw[U6,Vz] at e;exact h1 ⟨by omega,e.2⟩
 rw[Vh e];cases ac d[F+r]! d[F+(2*r+1)]! <;>simp
end
theorem zb (hi F:Nat):∀(n r:Nat) (d:Array C3),hi-r<=n->(Go.Sort.siftDown ac hi F r d).size=d.size:=by
 intro n
 induction n with
 |zero=>intro r d h;rw[qU (by omega)]
 | succ n ih=>
   intro r d h;by_cases h0:2*r+1<hi
   . by_cases h1:2*r+2<hi∧ac d[F+(2*r+1)]! d[F+(2*r+1)+1]! =true
     . rw[Qg h1.1 h1.2];split
       . rw[ih _ _ (by omega),bF]
       . rfl
     . rw[K0 h0 h1];split
       . rw[ih _ _ (by omega),bF]
       . rfl
   . rw[qU h0]
theorem K1 (hS:SoOK G bk N g sf gl gs):FunXV G bk 125 [] (FE (fW g sf gl gs) (pM N)):=by
 obtain⟨X,hX,X1,X2,X3⟩:=iB hS [] trivial;have hN:=hS.N1;unfold MX at hN;refine im (k:=4) hX Tryz.func125 rfl (fun a w=>Tryz.call125 a w) Tryz.ntmps125 (by kernel_rfl) (by decide) (by decide) ?_;clear hX;intro us r outs hF;obtain⟨⟨lo,hi,F,d⟩,hus,hG⟩:=aZ hF;clear hF;subst hus;unfold pM at hG;obtain⟨⟨hlo,hFh,hd⟩,hG⟩:=bv hG;simp only at hlo hFh hd;cases hG;refine⟨_,rfl,rfl,?_⟩;simp only[fW];simp +decide (maxDischargeDepth:=200) only[go_sem,X1,X2,X3,bo];refine aI (X:={x:Nat×Array C3//x.1<=N∧x.2.size=N∧Go.Sort.siftDown ac hi F x.1 x.2=Go.Sort.siftDown ac hi F lo d}) (fun x=>[(1,.x (.int .i64 (lo:Int))),(2,.x (.int .i64 (hi:Int))),(3,.x (.int .i64 (F:Int))),(4,.ptr 4 0),(8,.x (.int .i64 (x.1.1:Int)))]) (fun x=>[(4,[.x (.func (.func g) #[] gl),.x (.func (.func sf) #[] gs)]),(1004,az x.1.2)]) (fun x=>hi-x.1.1) ⟨(lo,d),by omega,hd,rfl⟩ (by simp +decide only[go_sem]<;>(repeat' first|rfl|constructor)) (by simp +decide only[go_sem]<;>(repeat' first|rfl|constructor)) (fun⟨⟨r,dk⟩,hr,hdk,heq⟩=>?_);simp only at hr hdk heq;have p1:ax .i64 (2*((r:Nat):Int))=((2*r:Nat):Int):=by rw[ak (by unfold co;omega)];omega
 have p2:ax .i64 (((2*r:Nat):Int)+1)=((2*r+1:Nat):Int):=by rw[ak (by unfold co;omega)];omega
 by_cases h0:2*r+1<hi
 . have c1:decide (((hi:Nat):Int)<=((2*r+1:Nat):Int))=false:=tl (by omega);have p3:ax .i64 (((2*r+1:Nat):Int)+1)=((2*r+2:Nat):Int):=by rw[ak (by unfold co;omega)];omega
   by_cases h1:2*r+2<hi
   . have c2:decide (((2*r+2:Nat):Int)<((hi:Nat):Int))=true:=iO (by omega);have p4:ax .i64 ((F:Int)+((2*r+1:Nat):Int))=((F+(2*r+1):Nat):Int):=by rw[ak (by unfold co;omega)];omega
     have p5:ax .i64 (((F+(2*r+1):Nat):Int)+1)=((F+(2*r+1)+1:Nat):Int):=by rw[ak (by unfold co;omega)];omega
     have l1:=cH (N:=N) (F+(2*r+1)) (F+(2*r+1)+1) dk (by omega) (by omega) hdk;cases hl:ac dk[F+(2*r+1)]! dk[F+(2*r+1)+1]! with
     | true=>
       rw[Qg h1 hl] at heq;rw[hl] at l1;have p6:ax .i64 ((F:Int)+((r:Nat):Int))=((F+r:Nat):Int):=by rw[ak (by unfold co;omega)];omega
       have p7:ax .i64 ((F:Int)+((2*r+2:Nat):Int))=((F+(2*r+2):Nat):Int):=by rw[ak (by unfold co;omega)];omega
       have l2:=cH (N:=N) (F+r) (F+(2*r+2)) dk (by omega) (by omega) hdk;have s2:=dE (N:=N) (F+r) (F+(2*r+2)) dk (by omega) (by omega) hdk;cases hl2:ac dk[F+r]! dk[F+(2*r+2)]! with
       |false=>rw[hl2] at l2 heq;simp only[VF,Vc] at heq;subst heq;simp +decide (maxDischargeDepth:=200) only[go_sem,X1,X2,X3,bo,p1,p2,c1,p3,p4,p5,c2,l1,p6,p7,l2]
       |true=>rw[hl2] at l2 heq;simp only[Vi] at heq;simp +decide (maxDischargeDepth:=200) only[go_sem,X1,X2,X3,bo,p1,p2,c1,p3,p4,p5,c2,l1,p6,p7,l2,s2];refine⟨⟨(2*r+2,swp dk (F+r) (F+(2*r+2))),by omega,by rw[bF];exact hdk,heq⟩,?_,?_,by simp only;omega⟩<;>simp +decide only[go_sem]<;>(repeat' first|rfl|constructor)
     | false=>
       rw[K0 h0 (by rw[hl];simp)] at heq;rw[hl] at l1;have p6:ax .i64 ((F:Int)+((r:Nat):Int))=((F+r:Nat):Int):=by rw[ak (by unfold co;omega)];omega
       have p7:ax .i64 ((F:Int)+((2*r+1:Nat):Int))=((F+(2*r+1):Nat):Int):=by rw[ak (by unfold co;omega)];omega
       have l2:=cH (N:=N) (F+r) (F+(2*r+1)) dk (by omega) (by omega) hdk;have s2:=dE (N:=N) (F+r) (F+(2*r+1)) dk (by omega) (by omega) hdk;cases hl2:ac dk[F+r]! dk[F+(2*r+1)]! with
       |false=>rw[hl2] at l2 heq;simp only[VF,Vc] at heq;subst heq;simp +decide (maxDischargeDepth:=200) only[go_sem,X1,X2,X3,bo,p1,p2,c1,p3,p4,p5,c2,l1,p6,p7,l2]
       |true=>rw[hl2] at l2 heq;simp only[Vi] at heq;simp +decide (maxDischargeDepth:=200) only[go_sem,X1,X2,X3,bo,p1,p2,c1,p3,p4,p5,c2,l1,p6,p7,l2,s2];refine⟨⟨(2*r+1,swp dk (F+r) (F+(2*r+1))),by omega,by rw[bF];exact hdk,heq⟩,?_,?_,by simp only;omega⟩<;>simp +decide only[go_sem]<;>(repeat' first|rfl|constructor)
   . have c2:decide (((2*r+2:Nat):Int)<((hi:Nat):Int))=false:=tl (by omega);rw[K0 h0 (by omega)] at heq;have p6:ax .i64 ((F:Int)+((r:Nat):Int))=((F+r:Nat):Int):=by rw[ak (by unfold co;omega)];omega
     have p7:ax .i64 ((F:Int)+((2*r+1:Nat):Int))=((F+(2*r+1):Nat):Int):=by rw[ak (by unfold co;omega)];omega
     have l2:=cH (N:=N) (F+r) (F+(2*r+1)) dk (by omega) (by omega) hdk;have s2:=dE (N:=N) (F+r) (F+(2*r+1)) dk (by omega) (by omega) hdk;cases hl2:ac dk[F+r]! dk[F+(2*r+1)]! with
     |false=>rw[hl2] at l2 heq;simp only[VF,Vc] at heq;subst heq;simp +decide (maxDischargeDepth:=200) only[go_sem,X1,X2,X3,bo,p1,p2,c1,p3,c2,p6,p7,l2]
     |true=>rw[hl2] at l2 heq;simp only[Vi] at heq;simp +decide (maxDischargeDepth:=200) only[go_sem,X1,X2,X3,bo,p1,p2,c1,p3,c2,p6,p7,l2,s2];refine⟨⟨(2*r+1,swp dk (F+r) (F+(2*r+1))),by omega,by rw[bF];exact hdk,heq⟩,?_,?_,by simp only;omega⟩<;>simp +decide only[go_sem]<;>(repeat' first|rfl|constructor)
 . have c1:decide (((hi:Nat):Int)<=((2*r+1:Nat):Int))=true:=iO (by omega);rw[qU h0] at heq;subst heq;simp +decide (maxDischargeDepth:=200) only[go_sem,X1,X2,X3,bo,p1,p2,c1]
theorem zd (lo hi F:Nat) (d:Array C3) (h1:lo<=N) (h2:F+hi<=N) (h3:d.size=N):FE (fW g sf gl gs) (pM N) [dJ g sf gl gs,.x (.int .i64 (lo:Int)),.x (.int .i64 (hi:Int)),.x (.int .i64 (F:Int)),.bx (az d)]=some (.tup [],[az (Go.Sort.siftDown ac hi F lo d)]):=
 (bC kY (pM N) (lo,hi,F,d)).trans (Va ⟨h1,h2,h3⟩)
theorem EZ (hi F:Nat) (d:Array C3) (h2:F+hi<=N) (h3:d.size=N):FE (fW g sf gl gs) (pM N) [dJ g sf gl gs,.x (.int .i64 0),.x (.int .i64 (hi:Int)),.x (.int .i64 (F:Int)),.bx (az d)]=some (.tup [],[az (Go.Sort.siftDown ac hi F 0 d)]):=zd 0 hi F d (VJ _) h2 h3
theorem K2 (n:Nat) (h:n<=1000000):ax .i64 (ax .i64 ((n:Int)-1)|>.tdiv 2)=((((n-1)/2+1:Nat)):Int)-1:=by
 have e0:ax .i64 ((n:Int)-1)=(n:Int)-1:=ak (by unfold co;omega);rw[e0];have e:((n:Int)-1).tdiv 2=((((n-1)/2+1:Nat)):Int)-1:=by
  cases n with
  |zero=>decide
  |succ n=>rw[show((n+1:Nat):Int)-1=((n:Nat):Int) from by omega,XB (by omega)];omega
 rw[e];exact ak (by unfold co;omega)
theorem K3 (hS:SoOK G bk N g sf gl gs):FunXV G bk 104 [] (FE (eo g sf gl gs) (uc N)):=by
 obtain⟨X,hX,X1,X2,X3⟩:=iB hS [(125,FE (fW g sf gl gs) (pM N))] ⟨K1 hS,trivial⟩;have hN:=hS.N1;unfold MX at hN;refine im (k:=3) hX Tryz.func104 rfl (fun a w=>Tryz.call104 a w) Tryz.ntmps104 (by kernel_rfl) (by decide) (by decide) ?_;clear hX;intro us r outs hF;obtain⟨⟨a,b,d⟩,hus,hG⟩:=aZ hF;clear hF;subst hus;unfold uc at hG;obtain⟨⟨hab,hbN,hd⟩,hG⟩:=bv hG;simp only at hab hbN hd;cases hG;refine⟨_,rfl,rfl,?_⟩;simp only[eo];have w1:ax .i64 ((b:Int)-(a:Int))=((b-a:Nat):Int):=by rw[ak (by unfold co;omega)];omega
 have w2:=K2 (b-a) (by omega);simp +decide (maxDischargeDepth:=200) only[go_sem,X1,X2,X3,bo,w1,w2];refine aI (X:={x:Nat×Array C3//x.1<=N+1∧x.2.size=N∧Go.Sort.heapPop ac a (b-a) (Go.Sort.heapBuild ac (b-a) a x.1 x.2)=Go.Sort.heapSort ac d a b}) (fun x=>[(1,.x (.int .i64 (a:Int))),(2,.x (.int .i64 (b:Int))),(3,.ptr 3 0),(6,.x (.int .i64 (a:Int))),(7,.x (.int .i64 0)),(8,.x (.int .i64 ((b-a:Nat):Int))),(9,.x (.int .i64 ((x.1.1:Int)-1)))]) (fun x=>[(3,[.x (.func (.func g) #[] gl),.x (.func (.func sf) #[] gs)]),(1003,az x.1.2)]) (fun x=>x.1.1) ⟨((b-a-1)/2+1,d),by simp only;omega,hd,rfl⟩ (by simp +decide only[go_sem]<;>(repeat' first|rfl|constructor)) (by simp +decide only[go_sem]<;>(repeat' first|rfl|constructor)) (fun⟨⟨k,dk⟩,hk,hdk,heq⟩=>?_);simp only at hk hdk heq;cases k with
 | succ k=>
   have c1:decide ((0:Int)<=((k+1:Nat):Int)-1)=true:=iO (by omega);have e1:((k+1:Nat):Int)-1=((k:Nat):Int):=by omega
   have e2:ax .i64 ((k:Int)-1)=(k:Int)-1:=ak (by unfold co;omega);have s1:=zd (g:=g) (sf:=sf) (gl:=gl) (gs:=gs) (N:=N) k (b-a) a dk (by omega) (by omega) hdk;rw[Go.Sort.heapBuild] at heq;rw[e1] at c1⊢;simp +decide (maxDischargeDepth:=200) only[go_sem,X1,X2,X3,bo,c1,e2,s1];refine⟨⟨(k,Go.Sort.siftDown ac (b-a) a k dk),by simp only;omega,by rw[zb _ _ _ _ _ (Vb _)];exact hdk,heq⟩,?_,?_,by simp only;omega⟩<;>simp +decide only[go_sem]<;>(repeat' first|rfl|constructor)
 | zero=>
   have c1:decide ((0:Int)<=((0:Nat):Int)-1)=false:=tl (by omega);rw[Go.Sort.heapBuild] at heq;have e2:ax .i64 (((b-a:Nat):Int)-1)=((b-a:Nat):Int)-1:=ak (by unfold co;omega);simp +decide (maxDischargeDepth:=200) only[go_sem,X1,X2,X3,bo,c1,e2];refine aI (X:={x:Nat×Array C3//x.1<=b-a∧x.2.size=N∧Go.Sort.heapPop ac a x.1 x.2=Go.Sort.heapSort ac d a b}) (fun x=>[(1,.x (.int .i64 (a:Int))),(2,.x (.int .i64 (b:Int))),(3,.ptr 3 0),(6,.x (.int .i64 (a:Int))),(7,.x (.int .i64 0)),(8,.x (.int .i64 ((b-a:Nat):Int))),(10,.x (.int .i64 ((x.1.1:Int)-1)))]) (fun x=>[(3,[.x (.func (.func g) #[] gl),.x (.func (.func sf) #[] gs)]),(1003,az x.1.2)]) (fun x=>x.1.1) ⟨(b-a,dk),by simp only;omega,hdk,heq⟩ (by simp +decide only[go_sem]<;>(repeat' first|rfl|constructor)) (by simp +decide only[go_sem]<;>(repeat' first|rfl|constructor)) (fun⟨⟨k,dk⟩,hk,hdk,heq⟩=>?_);simp only at hk hdk heq;clear c1;cases k with
   | succ k=>
     have c1:decide ((0:Int)<=((k+1:Nat):Int)-1)=true:=iO (by omega);have e1:((k+1:Nat):Int)-1=((k:Nat):Int):=by omega
     have e3:ax .i64 ((k:Int)-1)=(k:Int)-1:=ak (by unfold co;omega);have e4:ax .i64 ((a:Int)+(k:Int))=((a+k:Nat):Int):=by rw[ak (by unfold co;omega)];omega
     have t1:=dE (N:=N) a (a+k) dk (by omega) (by omega) hdk;have s1:=EZ (g:=g) (sf:=sf) (gl:=gl) (gs:=gs) (N:=N) k a (swp dk a (a+k)) (by omega) (by rw[bF];exact hdk);rw[Go.Sort.heapPop] at heq;rw[e1] at c1⊢;simp +decide (maxDischargeDepth:=200) only[go_sem,X1,X2,X3,bo,c1,e3,e4,t1,s1];refine⟨⟨(k,Go.Sort.siftDown ac k a 0 (swp dk a (a+k))),by simp only;omega,by rw[zb _ _ _ _ _ (Vb _),bF];exact hdk,heq⟩,?_,?_,by simp only;omega⟩<;>simp +decide only[go_sem]<;>(repeat' first|rfl|constructor)
   |zero=>have c1:decide ((0:Int)<=((0:Nat):Int)-1)=false:=tl (by omega);rw[Go.Sort.heapPop] at heq;subst heq;simp +decide (maxDischargeDepth:=200) only[go_sem,X1,X2,X3,bo,c1]
section
variable {p:C3->Bool} {d:Array C3}
variable {i:Nat}
theorem mI (h:i<=j) (hp:p d[i]! =true):Go.Sort.scanUp p d j i=Go.Sort.scanUp p d j (i+1):=by rw[Go.Sort.scanUp,Va (by rw[hp,Xf];exact iO h)]
theorem fq (h: ¬(i<=j∧p d[i]! =true)):Go.Sort.scanUp p d j i=i:=by rw[Go.Sort.scanUp,Vh (by rw[U6,Vz];exact h)]
theorem ze:∀(n i:Nat),j+1-i<=n->i<=Go.Sort.scanUp p d j i∧(Go.Sort.scanUp p d j i<=j+1∨Go.Sort.scanUp p d j i=i):=by
 intro n
 induction n with
 |zero=>intro i h;rw[fq (by omega)];omega
 | succ n ih=>
   intro i h;by_cases h0:i<=j∧p d[i]! =true
   . rw[mI h0.1 h0.2];have:=ih (i+1) (by omega);omega
   . rw[fq h0];omega
theorem mJ (h:i<=j+1) (hp:p d[j+1]! =true):Go.Sort.scanDown p d i (j+1)=Go.Sort.scanDown p d i j:=by rw[Go.Sort.scanDown,Va (by rw[hp,Xf];exact iO h)]
theorem ft (h: ¬(i<=j∧p d[j]! =true)):Go.Sort.scanDown p d i j=j:=by
 cases j with
 |zero=>rfl
 |succ j=>rw[Go.Sort.scanDown,Vh (by rw[U6,Vz];exact h)]
theorem zf (hi:1<=i):∀j:Nat,Go.Sort.scanDown p d i j<=j∧(i<=Go.Sort.scanDown p d i j+1∨Go.Sort.scanDown p d i j=j):=by
 intro j
 induction j with
 |zero=>rw[ft (by omega)];omega
 | succ j ih=>
   by_cases h0:i<=j+1∧p d[j+1]! =true
   . rw[mJ h0.1 h0.2];omega
   . rw[ft h0];omega
end
variable {i I:Nat}
theorem qV {J:Nat} (hI:Go.Sort.scanUp (fun x=>ac x d[a]!) d j i=I) (hJ:Go.Sort.scanDown (fun x=> !ac x d[a]!) d I j=J) (h:J<I):Go.Sort.partLoop ac a i j d=(J,d):=by rw[Go.Sort.partLoop];simp only[hI,hJ,Yb,h,Vi]
theorem zg {J:Nat} (hI:Go.Sort.scanUp (fun x=>ac x d[a]!) d j i=I) (hJ:Go.Sort.scanDown (fun x=> !ac x d[a]!) d I j=J) (h: ¬J<I) (h2:J-1+1-(I+1)<j+1-i):Go.Sort.partLoop ac a i j d=Go.Sort.partLoop ac a (I+1) (J-1) (swp d I J):=by rw[Go.Sort.partLoop];simp only[hI,hJ,Yb,h,Vc,h2,dif_pos]
theorem Qh:∀(n i j:Nat) (d:Array C3),j+1-i<=n->1<=i->i<=j+2->(Go.Sort.partLoop ac a i j d).1<=j∧(Go.Sort.partLoop ac a i j d).2.size=d.size:=by
 intro n
 induction n with
 |zero=>intro i j d h h1 h3;have hI:=fq (p:=fun x=>ac x d[a]!) (d:=d) (i:=i) (j:=j) (by omega);have hJ:=ft (p:=fun x=> !ac x d[a]!) (d:=d) (i:=i) (j:=j) (by omega);rw[qV hI hJ (by omega)];exact⟨by simp only;omega,rfl⟩
 | succ n ih=>
   intro i j d h h1 h3;obtain⟨I,hI⟩:∃I,Go.Sort.scanUp (fun x=>ac x d[a]!) d j i=I:=⟨_,rfl⟩;obtain⟨J,hJ⟩:∃J,Go.Sort.scanDown (fun x=> !ac x d[a]!) d I j=J:=⟨_,rfl⟩;have b1:=ze (p:=fun x=>ac x d[a]!) (d:=d) (j:=j) _ i (Vb _);rw[hI] at b1;have b2:=zf (p:=fun x=> !ac x d[a]!) (d:=d) (i:=I) (by omega) j;rw[hJ] at b2;by_cases hc:J<I
   . rw[qV hI hJ hc];exact⟨by simp only;omega,rfl⟩
   . rw[zg hI hJ hc (by omega)];have:=ih (I+1) (J-1) (swp d I J) (by omega) (by omega) (by omega);rw[bF] at this;exact⟨by omega,this.2⟩
theorem Ig {J:Nat} (hI:Go.Sort.scanUp (fun x=> !ac d[a]! x) d j i=I) (hJ:Go.Sort.scanDown (fun x=>ac d[a]! x) d I j=J) (h:J<I):Go.Sort.partEqLoop ac a i j d=(I,d):=by rw[Go.Sort.partEqLoop];simp only[hI,hJ,Yb,h,Vi]
theorem Ih {J:Nat} (hI:Go.Sort.scanUp (fun x=> !ac d[a]! x) d j i=I) (hJ:Go.Sort.scanDown (fun x=>ac d[a]! x) d I j=J) (h: ¬J<I) (h2:J-1+1-(I+1)<j+1-i):Go.Sort.partEqLoop ac a i j d=Go.Sort.partEqLoop ac a (I+1) (J-1) (swp d I J):=by rw[Go.Sort.partEqLoop];simp only[hI,hJ,Yb,h,Vc,h2,dif_pos]
def ud (N:Nat) (x:Nat×Nat×Nat×Array C3):Option (V×List (List V)):=if x.1<=x.2.2.1∧x.2.2.1<x.2.1∧x.2.1<=N∧x.2.2.2.size=N then some (.tup [.x (.int .i64 ((Go.Sort.partition ac x.2.2.2 x.1 x.2.1 x.2.2.1).1:Int)),.x (.bool (Go.Sort.partition ac x.2.2.2 x.1 x.2.1 x.2.2.1).2.1)],[az (Go.Sort.partition ac x.2.2.2 x.1 x.2.1 x.2.2.1).2.2]) else none
def oh (N:Nat) (x:Nat×Nat×Nat×Array C3):Option (V×List (List V)):=if x.1<=x.2.2.1∧x.2.2.1<x.2.1∧x.2.1<=N∧x.2.2.2.size=N then some (.x (.int .i64 ((Go.Sort.partitionEqual ac x.2.2.2 x.1 x.2.1 x.2.2.1).1:Int)),[az (Go.Sort.partitionEqual ac x.2.2.2 x.1 x.2.1 x.2.2.1).2]) else none
variable {b pv:Nat} {d1:Array C3}
theorem BQ {J:Nat} (h1:swp d a pv=d1) (hI:Go.Sort.scanUp (fun x=>ac x d1[a]!) d1 (b-1) (a+1)=I) (hJ:Go.Sort.scanDown (fun x=> !ac x d1[a]!) d1 I (b-1)=J) (h:J<I):Go.Sort.partition ac d a b pv=(J,true,swp d1 J a):=by unfold Go.Sort.partition;simp only[h1,hI,hJ,Yb,h,Vi]
theorem Ii {J:Nat} (h1:swp d a pv=d1) (hI:Go.Sort.scanUp (fun x=>ac x d1[a]!) d1 (b-1) (a+1)=I) (hJ:Go.Sort.scanDown (fun x=> !ac x d1[a]!) d1 I (b-1)=J) (h: ¬J<I):Go.Sort.partition ac d a b pv=((Go.Sort.partLoop ac a (I+1) (J-1) (swp d1 I J)).1,false,swp (Go.Sort.partLoop ac a (I+1) (J-1) (swp d1 I J)).2 (Go.Sort.partLoop ac a (I+1) (J-1) (swp d1 I J)).1 a):=by unfold Go.Sort.partition;simp only[h1,hI,hJ,Yb,h,Vc]
theorem K4 (hS:SoOK G bk N g sf gl gs):FunXV G bk 110 [] (FE (fW g sf gl gs) (ud N)):=by
 obtain⟨X,hX,X1,X2,X3⟩:=iB hS [] trivial;have hN:=hS.N1;unfold MX at hN;refine cm (k:=4) hX Tryz.func110 rfl (fun a w=>Tryz.call110 a w) Tryz.ntmps110 (by decide) (by decide) ?_;clear hX;intro us r outs hF;obtain⟨⟨a,b,pv,d⟩,hus,hG⟩:=aZ hF;clear hF;subst hus;unfold ud at hG;obtain⟨⟨hap,hpb,hbN,hd⟩,hG⟩:=bv hG;simp only at hap hpb hbN hd;cases hG;refine⟨_,rfl,rfl,fun pm m0 w0 hE=>?_⟩;simp only[fW];have s0:=dE (N:=N) a pv d (by omega) (by omega) hd;obtain⟨d1,hd1⟩:∃d1,swp d a pv=d1:=⟨_,rfl⟩;have hz1:d1.size=N:=by rw[<-hd1,bF];exact hd
 rw[hd1] at s0;have w1:ax .i64 ((a:Int)+1)=((a+1:Nat):Int):=by rw[ak (by unfold co;omega)];omega
 have w2:ax .i64 ((b:Int)-1)=((b-1:Nat):Int):=by rw[ak (by unfold co;omega)];omega
 refine Sem.seq [(1,.x (.int .i64 (a:Int))),(2,.x (.int .i64 (b:Int))),(3,.x (.int .i64 (pv:Int))),(4,.ptr 4 0)] [(4,[.x (.func (.func g) #[] gl),.x (.func (.func sf) #[] gs)]),(1004,az d)] (Sem.run hE ag (by kernel_rfl) (by simp +decide (maxDischargeDepth:=200) only[go_sem,X1,X2,X3,bo])) ?_;refine Sem.seq [(1,.x (.int .i64 (a:Int))),(2,.x (.int .i64 (b:Int))),(3,.x (.int .i64 (pv:Int))),(4,.ptr 4 0)] [(4,[.x (.func (.func g) #[] gl),.x (.func (.func sf) #[] gs)]),(1004,az d1)] (Sem.run hE ag (by kernel_rfl) (by simp +decide (maxDischargeDepth:=200) only[go_sem,X1,X2,X3,bo,s0])) ?_;refine Sem.seq [(1,.x (.int .i64 (a:Int))),(4,.ptr 4 0),(10,.x (.int .i64 ((a+1:Nat):Int))),(11,.x (.int .i64 ((b-1:Nat):Int)))] [(4,[.x (.func (.func g) #[] gl),.x (.func (.func sf) #[] gs)]),(1004,az d1)] (Sem.run hE ag (by kernel_rfl) (by simp +decide (maxDischargeDepth:=200) only[go_sem,X1,X2,X3,bo,w1,w2])) ?_;obtain⟨IF,hIF⟩:∃I,Go.Sort.scanUp (fun x=>ac x d1[a]!) d1 (b-1) (a+1)=I:=⟨_,rfl⟩;obtain⟨JF,hJF⟩:∃J,Go.Sort.scanDown (fun x=> !ac x d1[a]!) d1 IF (b-1)=J:=⟨_,rfl⟩;have buF:=ze (p:=fun x=>ac x d1[a]!) (d:=d1) (j:=b-1) _ (a+1) (Vb _);rw[hIF] at buF;have bdF:=zf (p:=fun x=> !ac x d1[a]!) (d:=d1) (i:=IF) (by omega) (b-1);rw[hJF] at bdF;refine Sem.seq [(1,.x (.int .i64 (a:Int))),(4,.ptr 4 0),(10,.x (.int .i64 ((IF:Nat):Int))),(11,.x (.int .i64 ((b-1:Nat):Int)))] [(4,[.x (.func (.func g) #[] gl),.x (.func (.func sf) #[] gs)]),(1004,az d1)] (Sem.block (Sem.loop (X:={i:Nat//a+1<=i∧(i<=b-1+1∨i=a+1)∧Go.Sort.scanUp (fun x=>ac x d1[a]!) d1 (b-1) i=IF}) (fun x=>[(1,.x (.int .i64 (a:Int))),(4,.ptr 4 0),(10,.x (.int .i64 ((x.1:Nat):Int))),(11,.x (.int .i64 ((b-1:Nat):Int)))]) (fun _=>[(4,[.x (.func (.func g) #[] gl),.x (.func (.func sf) #[] gs)]),(1004,az d1)]) (fun x=>b-1+1-x.1) ⟨a+1,by omega,by omega,hIF⟩ (by simp +decide only[go_sem]<;>(repeat' first|rfl|constructor)) (by simp +decide only[go_sem]<;>(repeat' first|rfl|constructor)) (fun⟨i,hi1,hi2,hi3⟩=>Sem.run hE ag (by kernel_rfl) ?_))) ?_
 . simp only;by_cases hc:i<=b-1
   . have c1:decide (((i:Nat):Int)<=((b-1:Nat):Int))=true:=iO (by omega);have c2:ax .i64 (((i:Nat):Int)+1)=((i+1:Nat):Int):=by rw[ak (by unfold co;omega)];omega
     have l1:=cH (N:=N) i a d1 (by omega) (by omega) hz1;cases hl:ac d1[i]! d1[a]! with
     |true=>rw[mI hc (by simp[hl])] at hi3;rw[hl] at l1;simp +decide (maxDischargeDepth:=200) only[go_sem,X1,X2,X3,bo,c1,c2,l1];refine⟨⟨i+1,by omega,by omega,hi3⟩,?_,?_,by simp only;omega⟩<;>simp +decide only[go_sem]<;>(repeat' first|rfl|constructor)
     |false=>rw[fq (by simp[hl])] at hi3;rw[hl] at l1;rw[<-hi3];simp +decide (maxDischargeDepth:=200) only[go_sem,X1,X2,X3,bo,c1,c2,l1]
   . have c1:decide (((i:Nat):Int)<=((b-1:Nat):Int))=false:=tl (by omega);rw[fq (fun h=>hc h.1)] at hi3;rw[<-hi3];simp +decide (maxDischargeDepth:=200) only[go_sem,X1,X2,X3,bo,c1]
 refine Sem.seq [(1,.x (.int .i64 (a:Int))),(4,.ptr 4 0),(10,.x (.int .i64 ((IF:Nat):Int))),(11,.x (.int .i64 ((JF:Nat):Int)))] [(4,[.x (.func (.func g) #[] gl),.x (.func (.func sf) #[] gs)]),(1004,az d1)] (Sem.block (Sem.loop (X:={j:Nat//j<=b-1∧(IF<=j+1∨j=b-1)∧Go.Sort.scanDown (fun x=> !ac x d1[a]!) d1 IF j=JF}) (fun x=>[(1,.x (.int .i64 (a:Int))),(4,.ptr 4 0),(10,.x (.int .i64 ((IF:Nat):Int))),(11,.x (.int .i64 ((x.1:Nat):Int)))]) (fun _=>[(4,[.x (.func (.func g) #[] gl),.x (.func (.func sf) #[] gs)]),(1004,az d1)]) (fun x=>x.1) ⟨b-1,by omega,by omega,hJF⟩ (by simp +decide only[go_sem]<;>(repeat' first|rfl|constructor)) (by simp +decide only[go_sem]<;>(repeat' first|rfl|constructor)) (fun⟨j,hj1,hj2,hj3⟩=>Sem.run hE ag (by kernel_rfl) ?_))) ?_
 . simp only;by_cases hc:IF<=j
   . obtain⟨k,rfl⟩:∃k,j=k+1:=⟨j-1,by omega⟩;have c1:decide (((IF:Nat):Int)<=((k+1:Nat):Int))=true:=iO (by omega);have c2:ax .i64 (((k+1:Nat):Int)-1)=((k:Nat):Int):=by rw[ak (by unfold co;omega)];omega
     have l1:=cH (N:=N) (k+1) a d1 (by omega) (by omega) hz1;cases hl:ac d1[k+1]! d1[a]! with
     |false=>rw[mJ hc (by simp[hl])] at hj3;rw[hl] at l1;simp +decide (maxDischargeDepth:=200) only[go_sem,X1,X2,X3,bo,c1,c2,l1];refine⟨⟨k,by omega,by omega,hj3⟩,?_,?_,by simp only;omega⟩<;>simp +decide only[go_sem]<;>(repeat' first|rfl|constructor)
     |true=>rw[ft (by simp[hl])] at hj3;rw[hl] at l1;rw[<-hj3];simp +decide (maxDischargeDepth:=200) only[go_sem,X1,X2,X3,bo,c1,c2,l1]
   . have c1:decide (((IF:Nat):Int)<=((j:Nat):Int))=false:=tl (by omega);rw[ft (fun h=>hc h.1)] at hj3;rw[<-hj3];simp +decide (maxDischargeDepth:=200) only[go_sem,X1,X2,X3,bo,c1]
 by_cases hc:JF<IF
 . rw[BQ hd1 hIF hJF hc];have c1:decide (((JF:Nat):Int)<((IF:Nat):Int))=true:=iO (by omega);have s1:=dE (N:=N) JF a d1 (by omega) (by omega) hz1;refine Sem.seq_out (Sem.run hE ag (by kernel_rfl) ?_);simp +decide (maxDischargeDepth:=200) only[go_sem,X1,X2,X3,bo,c1,s1]
 . rw [Ii hd1 hIF hJF hc];have c1:decide (((JF:Nat):Int)<((IF:Nat):Int))=false:=tl (by omega);have c2:ax .i64 (((IF:Nat):Int)+1)=((IF+1:Nat):Int):=by rw[ak (by unfold co;omega)];omega
   have c3:ax .i64 (((JF:Nat):Int)-1)=((JF-1:Nat):Int):=by rw[ak (by unfold co;omega)];omega
   have s1:=dE (N:=N) IF JF d1 (by omega) (by omega) hz1;obtain⟨d2,hd2⟩:∃d2,swp d1 IF JF=d2:=⟨_,rfl⟩;have hz2:d2.size=N:=by rw[<-hd2,bF];exact hz1
   rw[hd2] at s1⊢;obtain⟨PL,hPL⟩:∃PL,Go.Sort.partLoop ac a (IF+1) (JF-1) d2=PL:=⟨_,rfl⟩;have bPL:=Qh (a:=a) _ (IF+1) (JF-1) d2 (Vb _) (by omega) (by omega);rw[hPL] at bPL⊢;refine Sem.seq [(1,.x (.int .i64 (a:Int))),(4,.ptr 4 0),(10,.x (.int .i64 ((IF:Nat):Int))),(11,.x (.int .i64 ((JF:Nat):Int)))] [(4,[.x (.func (.func g) #[] gl),.x (.func (.func sf) #[] gs)]),(1004,az d1)] (Sem.run hE ag (by kernel_rfl) (by simp +decide (maxDischargeDepth:=200) only[go_sem,X1,X2,X3,bo,c1])) ?_;refine Sem.seq [(1,.x (.int .i64 (a:Int))),(4,.ptr 4 0),(10,.x (.int .i64 ((IF:Nat):Int))),(11,.x (.int .i64 ((JF:Nat):Int)))] [(4,[.x (.func (.func g) #[] gl),.x (.func (.func sf) #[] gs)]),(1004,az d2)] (Sem.run hE ag (by kernel_rfl) (by simp +decide (maxDischargeDepth:=200) only[go_sem,X1,X2,X3,bo,s1])) ?_;refine Sem.seq [(1,.x (.int .i64 (a:Int))),(4,.ptr 4 0),(10,.x (.int .i64 ((IF+1:Nat):Int))),(11,.x (.int .i64 ((JF:Nat):Int)))] [(4,[.x (.func (.func g) #[] gl),.x (.func (.func sf) #[] gs)]),(1004,az d2)] (Sem.run hE ag (by kernel_rfl) (by simp +decide (maxDischargeDepth:=200) only[go_sem,X1,X2,X3,bo,c2])) ?_;refine Sem.seq [(1,.x (.int .i64 (a:Int))),(4,.ptr 4 0),(10,.x (.int .i64 ((IF+1:Nat):Int))),(11,.x (.int .i64 ((JF-1:Nat):Int)))] [(4,[.x (.func (.func g) #[] gl),.x (.func (.func sf) #[] gs)]),(1004,az d2)] (Sem.run hE ag (by kernel_rfl) (by simp +decide (maxDischargeDepth:=200) only[go_sem,X1,X2,X3,bo,c3])) ?_;refine Sem.seq [(1,.x (.int .i64 (a:Int))),(4,.ptr 4 0),(11,.x (.int .i64 ((PL.1:Nat):Int)))] [(4,[.x (.func (.func g) #[] gl),.x (.func (.func sf) #[] gs)]),(1004,az PL.2)] (Sem.block (Sem.loop (X:={x:Nat×Nat×Array C3//a+1<=x.1∧x.1<=x.2.1+2∧x.2.1<b∧x.2.2.size=N∧Go.Sort.partLoop ac a x.1 x.2.1 x.2.2=PL}) (fun x=>[(1,.x (.int .i64 (a:Int))),(4,.ptr 4 0),(10,.x (.int .i64 ((x.1.1:Nat):Int))),(11,.x (.int .i64 ((x.1.2.1:Nat):Int)))]) (fun x=>[(4,[.x (.func (.func g) #[] gl),.x (.func (.func sf) #[] gs)]),(1004,az x.1.2.2)]) (fun x=>x.1.2.1+1-x.1.1) ⟨(IF+1,JF-1,d2),by simp only;omega,by simp only;omega,by simp only;omega,hz2,hPL⟩ (by simp +decide only[go_sem]<;>(repeat' first|rfl|constructor)) (by simp +decide only[go_sem]<;>(repeat' first|rfl|constructor)) (fun⟨⟨i0,j0,dk⟩,hx1,hx2,hx3,hdk,heq⟩=>?_))) ?_
   . simp only at hx1 hx2 hx3 hdk heq⊢;refine Sem.block ?_;obtain⟨IL,hIL⟩:∃I,Go.Sort.scanUp (fun x=>ac x dk[a]!) dk (j0) (i0)=I:=⟨_,rfl⟩;obtain⟨JL,hJL⟩:∃J,Go.Sort.scanDown (fun x=> !ac x dk[a]!) dk IL (j0)=J:=⟨_,rfl⟩;have buL:=ze (p:=fun x=>ac x dk[a]!) (d:=dk) (j:=j0) _ (i0) (Vb _);rw[hIL] at buL;have bdL:=zf (p:=fun x=> !ac x dk[a]!) (d:=dk) (i:=IL) (by omega) (j0);rw[hJL] at bdL;refine Sem.seq [(1,.x (.int .i64 (a:Int))),(4,.ptr 4 0),(10,.x (.int .i64 ((IL:Nat):Int))),(11,.x (.int .i64 ((j0:Nat):Int)))] [(4,[.x (.func (.func g) #[] gl),.x (.func (.func sf) #[] gs)]),(1004,az dk)] (Sem.block (Sem.loop (X:={i:Nat//i0<=i∧(i<=j0+1∨i=i0)∧Go.Sort.scanUp (fun x=>ac x dk[a]!) dk (j0) i=IL}) (fun x=>[(1,.x (.int .i64 (a:Int))),(4,.ptr 4 0),(10,.x (.int .i64 ((x.1:Nat):Int))),(11,.x (.int .i64 ((j0:Nat):Int)))]) (fun _=>[(4,[.x (.func (.func g) #[] gl),.x (.func (.func sf) #[] gs)]),(1004,az dk)]) (fun x=>j0+1-x.1) ⟨i0,by omega,by omega,hIL⟩ (by simp +decide only[go_sem]<;>(repeat' first|rfl|constructor)) (by simp +decide only[go_sem]<;>(repeat' first|rfl|constructor)) (fun⟨i,hi1,hi2,hi3⟩=>Sem.run hE ag (by kernel_rfl) ?_))) ?_
     . simp only;by_cases hc:i<=j0
       . have c1:decide (((i:Nat):Int)<=((j0:Nat):Int))=true:=iO (by omega);have c2:ax .i64 (((i:Nat):Int)+1)=((i+1:Nat):Int):=by rw[ak (by unfold co;omega)];omega
         have l1:=cH (N:=N) i a dk (by omega) (by omega) hdk;cases hl:ac dk[i]! dk[a]! with
         |true=>rw[mI hc (by simp[hl])] at hi3;rw[hl] at l1;simp +decide (maxDischargeDepth:=200) only[go_sem,X1,X2,X3,bo,c1,c2,l1];refine⟨⟨i+1,by omega,by omega,hi3⟩,?_,?_,by simp only;omega⟩<;>simp +decide only[go_sem]<;>(repeat' first|rfl|constructor)
         |false=>rw[fq (by simp[hl])] at hi3;rw[hl] at l1;rw[<-hi3];simp +decide (maxDischargeDepth:=200) only[go_sem,X1,X2,X3,bo,c1,c2,l1]
       . have c1:decide (((i:Nat):Int)<=((j0:Nat):Int))=false:=tl (by omega);rw[fq (fun h=>hc h.1)] at hi3;rw[<-hi3];simp +decide (maxDischargeDepth:=200) only[go_sem,X1,X2,X3,bo,c1]
     refine Sem.seq [(1,.x (.int .i64 (a:Int))),(4,.ptr 4 0),(10,.x (.int .i64 ((IL:Nat):Int))),(11,.x (.int .i64 ((JL:Nat):Int)))] [(4,[.x (.func (.func g) #[] gl),.x (.func (.func sf) #[] gs)]),(1004,az dk)] (Sem.block (Sem.loop (X:={j:Nat//j<=j0∧(IL<=j+1∨j=j0)∧Go.Sort.scanDown (fun x=> !ac x dk[a]!) dk IL j=JL}) (fun x=>[(1,.x (.int .i64 (a:Int))),(4,.ptr 4 0),(10,.x (.int .i64 ((IL:Nat):Int))),(11,.x (.int .i64 ((x.1:Nat):Int)))]) (fun _=>[(4,[.x (.func (.func g) #[] gl),.x (.func (.func sf) #[] gs)]),(1004,az dk)]) (fun x=>x.1) ⟨j0,by omega,by omega,hJL⟩ (by simp +decide only[go_sem]<;>(repeat' first|rfl|constructor)) (by simp +decide only[go_sem]<;>(repeat' first|rfl|constructor)) (fun⟨j,hj1,hj2,hj3⟩=>Sem.run hE ag (by kernel_rfl) ?_))) ?_
     . simp only;by_cases hc:IL<=j
       . obtain⟨k,rfl⟩:∃k,j=k+1:=⟨j-1,by omega⟩;have c1:decide (((IL:Nat):Int)<=((k+1:Nat):Int))=true:=iO (by omega);have c2:ax .i64 (((k+1:Nat):Int)-1)=((k:Nat):Int):=by rw[ak (by unfold co;omega)];omega
         have l1:=cH (N:=N) (k+1) a dk (by omega) (by omega) hdk;cases hl:ac dk[k+1]! dk[a]! with
         |false=>rw[mJ hc (by simp[hl])] at hj3;rw[hl] at l1;simp +decide (maxDischargeDepth:=200) only[go_sem,X1,X2,X3,bo,c1,c2,l1];refine⟨⟨k,by omega,by omega,hj3⟩,?_,?_,by simp only;omega⟩<;>simp +decide only[go_sem]<;>(repeat' first|rfl|constructor)
         |true=>rw[ft (by simp[hl])] at hj3;rw[hl] at l1;rw[<-hj3];simp +decide (maxDischargeDepth:=200) only[go_sem,X1,X2,X3,bo,c1,c2,l1]
       . have c1:decide (((IL:Nat):Int)<=((j:Nat):Int))=false:=tl (by omega);rw[ft (fun h=>hc h.1)] at hj3;rw[<-hj3];simp +decide (maxDischargeDepth:=200) only[go_sem,X1,X2,X3,bo,c1]
     by_cases hc:JL<IL
     . rw[qV hIL hJL hc] at heq;have c1:decide (((JL:Nat):Int)<((IL:Nat):Int))=true:=iO (by omega);rw[<-heq];refine Sem.seq_out (Sem.run hE ag (by kernel_rfl) ?_);simp +decide (maxDischargeDepth:=200) only[go_sem,X1,X2,X3,bo,c1]
     . rw[zg hIL hJL hc (by omega)] at heq;have c1:decide (((JL:Nat):Int)<((IL:Nat):Int))=false:=tl (by omega);have c2:ax .i64 (((IL:Nat):Int)+1)=((IL+1:Nat):Int):=by rw[ak (by unfold co;omega)];omega
       have c3:ax .i64 (((JL:Nat):Int)-1)=((JL-1:Nat):Int):=by rw[ak (by unfold co;omega)];omega
       have s1:=dE (N:=N) IL JL dk (by omega) (by omega) hdk;refine Sem.run hE ag (by kernel_rfl) ?_;simp +decide (maxDischargeDepth:=200) only[go_sem,X1,X2,X3,bo,c1,c2,c3,s1];refine⟨⟨(IL+1,JL-1,swp dk IL JL),by simp only;omega,by simp only;omega,by simp only;omega,by rw[bF];exact hdk,heq⟩,?_,?_,by simp only;omega⟩<;>simp +decide only[go_sem]<;>(repeat' first|rfl|constructor)
   have s3:=dE (N:=N) PL.1 a PL.2 (by omega) (by omega) (by omega);refine Sem.run hE ag (by kernel_rfl) ?_;simp +decide (maxDischargeDepth:=200) only[go_sem,X1,X2,X3,bo,s3]
theorem Ij (hS:SoOK G bk N g sf gl gs):FunXV G bk 109 [] (FE (fW g sf gl gs) (oh N)):=by
 obtain⟨X,hX,X1,X2,X3⟩:=iB hS [] trivial;have hN:=hS.N1;unfold MX at hN;refine cm (k:=4) hX Tryz.func109 rfl (fun a w=>Tryz.call109 a w) Tryz.ntmps109 (by decide) (by decide) ?_;clear hX;intro us r outs hF;obtain⟨⟨a,b,pv,d⟩,hus,hG⟩:=aZ hF;clear hF;subst hus;unfold oh at hG;obtain⟨⟨hap,hpb,hbN,hd⟩,hG⟩:=bv hG;simp only at hap hpb hbN hd;cases hG;refine⟨_,rfl,rfl,fun pm m0 w0 hE=>?_⟩;simp only[fW];have s0:=dE (N:=N) a pv d (by omega) (by omega) hd;obtain⟨d1,hd1⟩:∃d1,swp d a pv=d1:=⟨_,rfl⟩;have hz1:d1.size=N:=by rw[<-hd1,bF];exact hd
 rw[hd1] at s0;have w1:ax .i64 ((a:Int)+1)=((a+1:Nat):Int):=by rw[ak (by unfold co;omega)];omega
 have w2:ax .i64 ((b:Int)-1)=((b-1:Nat):Int):=by rw[ak (by unfold co;omega)];omega
 unfold Go.Sort.partitionEqual;rw[hd1];obtain⟨PL,hPL⟩:∃PL,Go.Sort.partEqLoop ac a (a+1) (b-1) d1=PL:=⟨_,rfl⟩;rw[hPL];refine Sem.seq [(1,.x (.int .i64 (a:Int))),(2,.x (.int .i64 (b:Int))),(3,.x (.int .i64 (pv:Int))),(4,.ptr 4 0)] [(4,[.x (.func (.func g) #[] gl),.x (.func (.func sf) #[] gs)]),(1004,az d)] (Sem.run hE ag (by kernel_rfl) (by simp +decide (maxDischargeDepth:=200) only[go_sem,X1,X2,X3,bo])) ?_;refine Sem.seq [(1,.x (.int .i64 (a:Int))),(2,.x (.int .i64 (b:Int))),(3,.x (.int .i64 (pv:Int))),(4,.ptr 4 0)] [(4,[.x (.func (.func g) #[] gl),.x (.func (.func sf) #[] gs)]),(1004,az d1)] (Sem.run hE ag (by kernel_rfl) (by simp +decide (maxDischargeDepth:=200) only[go_sem,X1,X2,X3,bo,s0])) ?_;refine Sem.seq [(1,.x (.int .i64 (a:Int))),(4,.ptr 4 0),(9,.x (.int .i64 ((a+1:Nat):Int))),(10,.x (.int .i64 ((b-1:Nat):Int)))] [(4,[.x (.func (.func g) #[] gl),.x (.func (.func sf) #[] gs)]),(1004,az d1)] (Sem.run hE ag (by kernel_rfl) (by simp +decide (maxDischargeDepth:=200) only[go_sem,X1,X2,X3,bo,w1,w2])) ?_;refine Sem.seq [(9,.x (.int .i64 ((PL.1:Nat):Int)))] [(4,[.x (.func (.func g) #[] gl),.x (.func (.func sf) #[] gs)]),(1004,az PL.2)] (Sem.block (Sem.loop (X:={x:Nat×Nat×Array C3//a+1<=x.1∧x.1<=x.2.1+2∧x.2.1<b∧x.2.2.size=N∧Go.Sort.partEqLoop ac a x.1 x.2.1 x.2.2=PL}) (fun x=>[(1,.x (.int .i64 (a:Int))),(4,.ptr 4 0),(9,.x (.int .i64 ((x.1.1:Nat):Int))),(10,.x (.int .i64 ((x.1.2.1:Nat):Int)))]) (fun x=>[(4,[.x (.func (.func g) #[] gl),.x (.func (.func sf) #[] gs)]),(1004,az x.1.2.2)]) (fun x=>x.1.2.1+1-x.1.1) ⟨(a+1,b-1,d1),by simp only;omega,by simp only;omega,by simp only;omega,hz1,hPL⟩ (by simp +decide only[go_sem]<;>(repeat' first|rfl|constructor)) (by simp +decide only[go_sem]<;>(repeat' first|rfl|constructor)) (fun⟨⟨i0,j0,dk⟩,hx1,hx2,hx3,hdk,heq⟩=>?_))) ?_
 . simp only at hx1 hx2 hx3 hdk heq⊢;refine Sem.block ?_;obtain⟨IL,hIL⟩:∃I,Go.Sort.scanUp (fun x=> !ac dk[a]! x) dk (j0) (i0)=I:=⟨_,rfl⟩;obtain⟨JL,hJL⟩:∃J,Go.Sort.scanDown (fun x=>ac dk[a]! x) dk IL (j0)=J:=⟨_,rfl⟩;have buL:=ze (p:=fun x=> !ac dk[a]! x) (d:=dk) (j:=j0) _ (i0) (Vb _);rw[hIL] at buL;have bdL:=zf (p:=fun x=>ac dk[a]! x) (d:=dk) (i:=IL) (by omega) (j0);rw[hJL] at bdL;refine Sem.seq [(1,.x (.int .i64 (a:Int))),(4,.ptr 4 0),(9,.x (.int .i64 ((IL:Nat):Int))),(10,.x (.int .i64 ((j0:Nat):Int)))] [(4,[.x (.func (.func g) #[] gl),.x (.func (.func sf) #[] gs)]),(1004,az dk)] (Sem.block (Sem.loop (X:={i:Nat//i0<=i∧(i<=j0+1∨i=i0)∧Go.Sort.scanUp (fun x=> !ac dk[a]! x) dk (j0) i=IL}) (fun x=>[(1,.x (.int .i64 (a:Int))),(4,.ptr 4 0),(9,.x (.int .i64 ((x.1:Nat):Int))),(10,.x (.int .i64 ((j0:Nat):Int)))]) (fun _=>[(4,[.x (.func (.func g) #[] gl),.x (.func (.func sf) #[] gs)]),(1004,az dk)]) (fun x=>j0+1-x.1) ⟨i0,by omega,by omega,hIL⟩ (by simp +decide only[go_sem]<;>(repeat' first|rfl|constructor)) (by simp +decide only[go_sem]<;>(repeat' first|rfl|constructor)) (fun⟨i,hi1,hi2,hi3⟩=>Sem.run hE ag (by kernel_rfl) ?_))) ?_
   . simp only;by_cases hc:i<=j0
     . have c1:decide (((i:Nat):Int)<=((j0:Nat):Int))=true:=iO (by omega);have c2:ax .i64 (((i:Nat):Int)+1)=((i+1:Nat):Int):=by rw[ak (by unfold co;omega)];omega
       have l1:=cH (N:=N) a i dk (by omega) (by omega) hdk;cases hl:ac dk[a]! dk[i]! with
       |false=>rw[mI hc (by simp[hl])] at hi3;rw[hl] at l1;simp +decide (maxDischargeDepth:=200) only[go_sem,X1,X2,X3,bo,c1,c2,l1];refine⟨⟨i+1,by omega,by omega,hi3⟩,?_,?_,by simp only;omega⟩<;>simp +decide only[go_sem]<;>(repeat' first|rfl|constructor)
       |true=>rw[fq (by simp[hl])] at hi3;rw[hl] at l1;rw[<-hi3];simp +decide (maxDischargeDepth:=200) only[go_sem,X1,X2,X3,bo,c1,c2,l1]
     . have c1:decide (((i:Nat):Int)<=((j0:Nat):Int))=false:=tl (by omega);rw[fq (fun h=>hc h.1)] at hi3;rw[<-hi3];simp +decide (maxDischargeDepth:=200) only[go_sem,X1,X2,X3,bo,c1]
   refine Sem.seq [(1,.x (.int .i64 (a:Int))),(4,.ptr 4 0),(9,.x (.int .i64 ((IL:Nat):Int))),(10,.x (.int .i64 ((JL:Nat):Int)))] [(4,[.x (.func (.func g) #[] gl),.x (.func (.func sf) #[] gs)]),(1004,az dk)] (Sem.block (Sem.loop (X:={j:Nat//j<=j0∧(IL<=j+1∨j=j0)∧Go.Sort.scanDown (fun x=>ac dk[a]! x) dk IL j=JL}) (fun x=>[(1,.x (.int .i64 (a:Int))),(4,.ptr 4 0),(9,.x (.int .i64 ((IL:Nat):Int))),(10,.x (.int .i64 ((x.1:Nat):Int)))]) (fun _=>[(4,[.x (.func (.func g) #[] gl),.x (.func (.func sf) #[] gs)]),(1004,az dk)]) (fun x=>x.1) ⟨j0,by omega,by omega,hJL⟩ (by simp +decide only[go_sem]<;>(repeat' first|rfl|constructor)) (by simp +decide only[go_sem]<;>(repeat' first|rfl|constructor)) (fun⟨j,hj1,hj2,hj3⟩=>Sem.run hE ag (by kernel_rfl) ?_))) ?_
   . simp only;by_cases hc:IL<=j
     . obtain⟨k,rfl⟩:∃k,j=k+1:=⟨j-1,by omega⟩;have c1:decide (((IL:Nat):Int)<=((k+1:Nat):Int))=true:=iO (by omega);have c2:ax .i64 (((k+1:Nat):Int)-1)=((k:Nat):Int):=by rw[ak (by unfold co;omega)];omega
       have l1:=cH (N:=N) a (k+1) dk (by omega) (by omega) hdk;cases hl:ac dk[a]! dk[k+1]! with
       |true=>rw[mJ hc (by simp[hl])] at hj3;rw[hl] at l1;simp +decide (maxDischargeDepth:=200) only[go_sem,X1,X2,X3,bo,c1,c2,l1];refine⟨⟨k,by omega,by omega,hj3⟩,?_,?_,by simp only;omega⟩<;>simp +decide only[go_sem]<;>(repeat' first|rfl|constructor)
       |false=>rw[ft (by simp[hl])] at hj3;rw[hl] at l1;rw[<-hj3];simp +decide (maxDischargeDepth:=200) only[go_sem,X1,X2,X3,bo,c1,c2,l1]
     . have c1:decide (((IL:Nat):Int)<=((j:Nat):Int))=false:=tl (by omega);rw[ft (fun h=>hc h.1)] at hj3;rw[<-hj3];simp +decide (maxDischargeDepth:=200) only[go_sem,X1,X2,X3,bo,c1]
   by_cases hc:JL<IL
   . rw[Ig hIL hJL hc] at heq;have c1:decide (((JL:Nat):Int)<((IL:Nat):Int))=true:=iO (by omega);rw[<-heq];refine Sem.seq_out (Sem.run hE ag (by kernel_rfl) ?_);simp +decide (maxDischargeDepth:=200) only[go_sem,X1,X2,X3,bo,c1]
   . rw[Ih hIL hJL hc (by omega)] at heq;have c1:decide (((JL:Nat):Int)<((IL:Nat):Int))=false:=tl (by omega);have c2:ax .i64 (((IL:Nat):Int)+1)=((IL+1:Nat):Int):=by rw[ak (by unfold co;omega)];omega
     have c3:ax .i64 (((JL:Nat):Int)-1)=((JL-1:Nat):Int):=by rw[ak (by unfold co;omega)];omega
     have s1:=dE (N:=N) IL JL dk (by omega) (by omega) hdk;refine Sem.run hE ag (by kernel_rfl) ?_;simp +decide (maxDischargeDepth:=200) only[go_sem,X1,X2,X3,bo,c1,c2,c3,s1];refine⟨⟨(IL+1,JL-1,swp dk IL JL),by simp only;omega,by simp only;omega,by simp only;omega,by rw[bF];exact hdk,heq⟩,?_,?_,by simp only;omega⟩<;>simp +decide only[go_sem]<;>(repeat' first|rfl|constructor)
 refine Sem.run hE ag (by kernel_rfl) ?_;simp +decide (maxDischargeDepth:=200) only[go_sem,X1,X2,X3,bo]
theorem zh (h:i<b) (hl:ac d[i]! d[i-1]! =false):Go.Sort.scanSorted ac d b i=Go.Sort.scanSorted ac d b (i+1):=by rw[Go.Sort.scanSorted,Va (by rw[hl];simpa using h)]
theorem mK (h: ¬(i<b∧ac d[i]! d[i-1]! =false)):Go.Sort.scanSorted ac d b i=i:=by rw[Go.Sort.scanSorted,Vh (by simpa using h)]
theorem Qi:∀(n i:Nat),b-i<=n->i<=b->i<=Go.Sort.scanSorted ac d b i∧Go.Sort.scanSorted ac d b i<=b:=by
 intro n
 induction n with
 |zero=>intro i h hi;rw[mK (by omega)];omega
 | succ n ih=>
   intro i h hi;by_cases h0:i<b∧ac d[i]! d[i-1]! =false
   . rw[zh h0.1 h0.2];have:=ih (i+1) (by omega) (by omega);omega
   . rw[mK h0];omega
theorem ue:∀(j:Nat) (d:Array C3),(Go.Sort.shiftDown ac j d).size=d.size
 |0,d=>rfl
 | j+1,d=>by
   rw[Go.Sort.shiftDown];split
   . rfl
   . rw[ue j,bF]
theorem E0 (b:Nat):∀(n j:Nat) (d:Array C3),b-j<=n->(Go.Sort.shiftUp ac b j d).size=d.size:=by
 intro n
 induction n with
 |zero=>intro j d h;rw[Go.Sort.shiftUp,Vh (by omega)]
 | succ n ih=>
   intro j d h;rw[Go.Sort.shiftUp];split
   . split
     . rfl
     . rw[ih _ _ (by omega),bF]
   . rfl
section
variable {a b s i I:Nat} {d:Array C3}
theorem T0 (hI:Go.Sort.scanSorted ac d b i=I) (h:I=b):Go.Sort.partialIns ac a b (s+1) i d=(d,true):=by rw[Go.Sort.partialIns];simp only[hI,h,Vi]
theorem T1 (hI:Go.Sort.scanSorted ac d b i=I) (h: ¬I=b) (h2:b-a<50):Go.Sort.partialIns ac a b (s+1) i d=(d,false):=by rw[Go.Sort.partialIns];simp only[hI,h,Vc,h2,Vi]
theorem T2 (hI:Go.Sort.scanSorted ac d b i=I) (h: ¬I=b) (h2: ¬b-a<50):Go.Sort.partialIns ac a b (s+1) i d=Go.Sort.partialIns ac a b s I (if b-I≥2 then Go.Sort.shiftUp ac b (I+1) (if I-a≥2 then Go.Sort.shiftDown ac (I-1) (swp d I (I-1)) else swp d I (I-1)) else (if I-a≥2 then Go.Sort.shiftDown ac (I-1) (swp d I (I-1)) else swp d I (I-1))):=by rw[Go.Sort.partialIns];simp only[hI,h,Vc,h2]
end
def uf (N:Nat) (x:Nat×Nat×Array C3):Option (V×List (List V)):=if x.1<x.2.1∧x.2.1<=N∧x.2.2.size=N then some (.x (.bool (Go.Sort.partialInsertionSort ac x.2.2 x.1 x.2.1).2),[az (Go.Sort.partialInsertionSort ac x.2.2 x.1 x.2.1).1]) else none
def E1 (N:Nat) (x:Nat×Nat×Array C3):Option (V×List (List V)):=if x.1<x.2.1∧x.2.1<=N∧x.2.2.size=N then some (.tup [],[az (Go.Sort.reverseRange x.2.2 x.1 x.2.1)]) else none
theorem K5 (hS:SoOK G bk N g sf gl gs):FunXV G bk 108 [] (FE (eo g sf gl gs) (uf N)):=by
 obtain⟨X,hX,X1,X2,X3⟩:=iB hS [] trivial;have hN:=hS.N1;unfold MX at hN;refine cm (k:=3) hX Tryz.func108 rfl (fun a w=>Tryz.call108 a w) Tryz.ntmps108 (by decide) (by decide) ?_;clear hX;intro us r outs hF;obtain⟨⟨a,b,d⟩,hus,hG⟩:=aZ hF;clear hF;subst hus;unfold uf at hG;obtain⟨⟨hab,hbN,hd⟩,hG⟩:=bv hG;simp only at hab hbN hd;cases hG;refine⟨_,rfl,rfl,fun pm m0 w0 hE=>?_⟩;simp only[eo];have w1:ax .i64 ((a:Int)+1)=((a+1:Nat):Int):=by rw[ak (by unfold co;omega)];omega
 unfold Go.Sort.partialInsertionSort;obtain⟨PI,hPI⟩:∃PI,Go.Sort.partialIns ac a b 5 (a+1) d=PI:=⟨_,rfl⟩;rw[hPI];refine Sem.seq [(1,.x (.int .i64 (a:Int))),(2,.x (.int .i64 (b:Int))),(3,.ptr 3 0)] [(3,[.x (.func (.func g) #[] gl),.x (.func (.func sf) #[] gs)]),(1003,az d)] (Sem.run hE ag (by kernel_rfl) (by simp +decide (maxDischargeDepth:=200) only[go_sem,X1,X2,X3,bo])) ?_;refine Sem.seq [(1,.x (.int .i64 (a:Int))),(2,.x (.int .i64 (b:Int))),(3,.ptr 3 0),(7,.x (.int .i64 ((a+1:Nat):Int)))] [(3,[.x (.func (.func g) #[] gl),.x (.func (.func sf) #[] gs)]),(1003,az d)] (Sem.run hE ag (by kernel_rfl) (by simp +decide (maxDischargeDepth:=200) only[go_sem,X1,X2,X3,bo,w1])) ?_;refine Sem.seqQ (PI.2=false) [] [(3,[.x (.func (.func g) #[] gl),.x (.func (.func sf) #[] gs)]),(1003,az PI.1)] ?_ (fun hf=>?_)
 rotate_left
 . refine Sem.run hE ag (by kernel_rfl) ?_;simp +decide (maxDischargeDepth:=200) only[go_sem,X1,X2,X3,bo,hf]
 refine Sem.seq [(1,.x (.int .i64 (a:Int))),(2,.x (.int .i64 (b:Int))),(3,.ptr 3 0),(7,.x (.int .i64 ((a+1:Nat):Int))),(8,.x (.int .i64 (0)))] [(3,[.x (.func (.func g) #[] gl),.x (.func (.func sf) #[] gs)]),(1003,az d)] (Sem.run hE ag (by kernel_rfl) (by simp +decide (maxDischargeDepth:=200) only[go_sem,X1,X2,X3,bo])) ?_;refine Sem.block (Sem.loop (X:={x:Nat×Nat×Array C3//x.1<=5∧a+1<=x.2.1∧x.2.1<=b∧x.2.2.size=N∧Go.Sort.partialIns ac a b x.1 x.2.1 x.2.2=PI}) (fun x=>[(1,.x (.int .i64 (a:Int))),(2,.x (.int .i64 (b:Int))),(3,.ptr 3 0),(7,.x (.int .i64 ((x.1.2.1:Nat):Int))),(8,.x (.int .i64 (5-(x.1.1:Int))))]) (fun x=>[(3,[.x (.func (.func g) #[] gl),.x (.func (.func sf) #[] gs)]),(1003,az x.1.2.2)]) (fun x=>x.1.1) ⟨(5,a+1,d),by simp only;omega,by simp only;omega,by simp only;omega,hd,hPI⟩ (by simp +decide only[go_sem]<;>(repeat' first|rfl|constructor)) (by simp +decide only[go_sem]<;>(repeat' first|rfl|constructor)) (fun⟨⟨s,i0,d0⟩,hs,hi1,hi2,hd0,heq⟩=>?_));simp only at hs hi1 hi2 hd0 heq⊢;cases s with
 |zero=>have c0:decide (5-((0:Nat):Int)<5)=false:=tl (by omega);rw[Go.Sort.partialIns] at heq;rw[<-heq];refine Sem.seq_out (Sem.run hE ag (by kernel_rfl) ?_);simp +decide (maxDischargeDepth:=200) only[go_sem,X1,X2,X3,bo,c0]
 | succ s=>
   have c0:decide (5-((s+1:Nat):Int)<5)=true:=iO (by omega);have e0:ax .i64 (5-((s+1:Nat):Int)+1)=5-((s:Nat):Int):=by rw[ak (by unfold co;omega)];omega
   refine Sem.seq [(1,.x (.int .i64 (a:Int))),(2,.x (.int .i64 (b:Int))),(3,.ptr 3 0),(7,.x (.int .i64 ((i0:Nat):Int))),(8,.x (.int .i64 (5-((s+1:Nat):Int))))] [(3,[.x (.func (.func g) #[] gl),.x (.func (.func sf) #[] gs)]),(1003,az d0)] (Sem.run hE ag (by kernel_rfl) (by simp +decide (maxDischargeDepth:=200) only[go_sem,X1,X2,X3,bo,c0])) ?_;obtain⟨I,hI⟩:∃I,Go.Sort.scanSorted ac d0 b i0=I:=⟨_,rfl⟩;have bI:=Qi (d:=d0) (b:=b) _ i0 (Vb _) hi2;rw[hI] at bI;obtain⟨D0,hD0⟩:∃D0,swp d0 I (I-1)=D0:=⟨_,rfl⟩;obtain⟨D1,hD1⟩:∃D1,(if I-a≥2 then Go.Sort.shiftDown ac (I-1) D0 else D0)=D1:=⟨_,rfl⟩;obtain⟨D2,hD2⟩:∃D2,(if b-I≥2 then Go.Sort.shiftUp ac b (I+1) D1 else D1)=D2:=⟨_,rfl⟩;have z0:D0.size=N:=by rw[<-hD0,bF];exact hd0
   have z1:D1.size=N:=by
    rw[<-hD1];split
    . rw[ue];exact z0
    . exact z0
   have z2:D2.size=N:=by
    rw[<-hD2];split
    . rw[E0 _ _ _ _ (Vb _)];exact z1
    . exact z1
   obtain⟨Q,hQ1,hQ2⟩:∃Q:Prop,(Q-> ¬I=b∧ ¬b-a<50)∧(¬I=b-> ¬b-a<50->Q):=⟨_,id,fun h1 h2=>⟨h1,h2⟩⟩;refine Sem.seqQ Q [(1,.x (.int .i64 (a:Int))),(2,.x (.int .i64 (b:Int))),(3,.ptr 3 0),(7,.x (.int .i64 ((I:Nat):Int))),(8,.x (.int .i64 (5-((s+1:Nat):Int))))] [(3,[.x (.func (.func g) #[] gl),.x (.func (.func sf) #[] gs)]),(1003,az D2)] (Sem.block ?_) (fun hQ=>?_)
   rotate_left
   . have hQ:=hQ1 hQ;rw[T2 hI hQ.1 hQ.2,hD0,hD1,hD2] at heq;refine Sem.run hE ag (by kernel_rfl) ?_;simp +decide (maxDischargeDepth:=200) only[go_sem,X1,X2,X3,bo,e0];refine⟨⟨(s,I,D2),by simp only;omega,by simp only;omega,by simp only;omega,z2,heq⟩,?_,?_,by simp only;omega⟩<;>simp +decide only[go_sem]<;>(repeat' first|rfl|constructor)
   refine Sem.seq [(1,.x (.int .i64 (a:Int))),(2,.x (.int .i64 (b:Int))),(3,.ptr 3 0),(7,.x (.int .i64 ((I:Nat):Int))),(8,.x (.int .i64 (5-((s+1:Nat):Int))))] [(3,[.x (.func (.func g) #[] gl),.x (.func (.func sf) #[] gs)]),(1003,az d0)] (Sem.block (Sem.loop (X:={i:Nat//i0<=i∧i<=b∧Go.Sort.scanSorted ac d0 b i=I}) (fun x=>[(1,.x (.int .i64 (a:Int))),(2,.x (.int .i64 (b:Int))),(3,.ptr 3 0),(7,.x (.int .i64 ((x.1:Nat):Int))),(8,.x (.int .i64 (5-((s+1:Nat):Int))))]) (fun _=>[(3,[.x (.func (.func g) #[] gl),.x (.func (.func sf) #[] gs)]),(1003,az d0)]) (fun x=>b-x.1) ⟨i0,by omega,by omega,hI⟩ (by simp +decide only[go_sem]<;>(repeat' first|rfl|constructor)) (by simp +decide only[go_sem]<;>(repeat' first|rfl|constructor)) (fun⟨i,hi1,hi2,hi3⟩=>Sem.run hE ag (by kernel_rfl) ?_))) ?_
   . simp only;by_cases hc:i<b
     . have c1:decide (((i:Nat):Int)<((b:Nat):Int))=true:=iO (by omega);have c2:ax .i64 (((i:Nat):Int)+1)=((i+1:Nat):Int):=by rw[ak (by unfold co;omega)];omega
       have c3:ax .i64 (((i:Nat):Int)-1)=((i-1:Nat):Int):=by rw[ak (by unfold co;omega)];omega
       have l1:=cH (N:=N) i (i-1) d0 (by omega) (by omega) hd0;cases hl:ac d0[i]! d0[i-1]! with
       |false=>rw[zh hc hl] at hi3;rw[hl] at l1;simp +decide (maxDischargeDepth:=200) only[go_sem,X1,X2,X3,bo,c1,c2,c3,l1];refine⟨⟨i+1,by omega,by omega,hi3⟩,?_,?_,by simp only;omega⟩<;>simp +decide only[go_sem]<;>(repeat' first|rfl|constructor)
       |true=>rw[mK (by rw[hl];simp)] at hi3;rw[hl] at l1;rw[<-hi3];simp +decide (maxDischargeDepth:=200) only[go_sem,X1,X2,X3,bo,c1,c2,c3,l1]
     . have c1:decide (((i:Nat):Int)<((b:Nat):Int))=false:=tl (by omega);rw[mK (fun h=>hc h.1)] at hi3;rw[<-hi3];simp +decide (maxDischargeDepth:=200) only[go_sem,X1,X2,X3,bo,c1]
   by_cases hIb:I=b
   . rw[T0 hI hIb] at heq;have c1:decide (((I:Nat):Int)=((b:Nat):Int))=true:=iO (by omega);rw[<-heq];refine Sem.seq_out (Sem.run hE ag (by kernel_rfl) ?_);simp +decide (maxDischargeDepth:=200) only[go_sem,X1,X2,X3,bo,c1]
   have c1:decide (((I:Nat):Int)=((b:Nat):Int))=false:=tl (by omega);have w2:ax .i64 ((b:Int)-(a:Int))=((b-a:Nat):Int):=by rw[ak (by unfold co;omega)];omega
   refine Sem.seq [(1,.x (.int .i64 (a:Int))),(2,.x (.int .i64 (b:Int))),(3,.ptr 3 0),(7,.x (.int .i64 ((I:Nat):Int))),(8,.x (.int .i64 (5-((s+1:Nat):Int))))] [(3,[.x (.func (.func g) #[] gl),.x (.func (.func sf) #[] gs)]),(1003,az d0)] (Sem.run hE ag (by kernel_rfl) (by simp +decide (maxDischargeDepth:=200) only[go_sem,X1,X2,X3,bo,c1])) ?_;by_cases h50:b-a<50
   . rw[T1 hI hIb h50] at heq;have c2:decide (((b-a:Nat):Int)<50)=true:=iO (by omega);rw[<-heq];refine Sem.seq_out (Sem.run hE ag (by kernel_rfl) ?_);simp +decide (maxDischargeDepth:=200) only[go_sem,X1,X2,X3,bo,w2,c2]
   have c2:decide (((b-a:Nat):Int)<50)=false:=tl (by omega);have q:=hQ2 hIb h50;have w3:ax .i64 ((I:Int)-1)=((I-1:Nat):Int):=by rw[ak (by unfold co;omega)];omega
   have w4:ax .i64 ((I:Int)-(a:Int))=((I-a:Nat):Int):=by rw[ak (by unfold co;omega)];omega
   have w5:ax .i64 ((b:Int)-(I:Int))=((b-I:Nat):Int):=by rw[ak (by unfold co;omega)];omega
   have w6:ax .i64 ((I:Int)+1)=((I+1:Nat):Int):=by rw[ak (by unfold co;omega)];omega
   have s1:=dE (N:=N) I (I-1) d0 (by omega) (by omega) hd0;rw[hD0] at s1;refine Sem.seq [(1,.x (.int .i64 (a:Int))),(2,.x (.int .i64 (b:Int))),(3,.ptr 3 0),(7,.x (.int .i64 ((I:Nat):Int))),(8,.x (.int .i64 (5-((s+1:Nat):Int))))] [(3,[.x (.func (.func g) #[] gl),.x (.func (.func sf) #[] gs)]),(1003,az d0)] (Sem.run hE ag (by kernel_rfl) (by simp +decide (maxDischargeDepth:=200) only[go_sem,X1,X2,X3,bo,w2,c2])) ?_;refine Sem.seq [(1,.x (.int .i64 (a:Int))),(2,.x (.int .i64 (b:Int))),(3,.ptr 3 0),(7,.x (.int .i64 ((I:Nat):Int))),(8,.x (.int .i64 (5-((s+1:Nat):Int))))] [(3,[.x (.func (.func g) #[] gl),.x (.func (.func sf) #[] gs)]),(1003,az D0)] (Sem.run hE ag (by kernel_rfl) (by simp +decide (maxDischargeDepth:=200) only[go_sem,X1,X2,X3,bo,w3,s1])) ?_;refine Sem.seq [(1,.x (.int .i64 (a:Int))),(2,.x (.int .i64 (b:Int))),(3,.ptr 3 0),(7,.x (.int .i64 ((I:Nat):Int))),(8,.x (.int .i64 (5-((s+1:Nat):Int))))] [(3,[.x (.func (.func g) #[] gl),.x (.func (.func sf) #[] gs)]),(1003,az D1)] ?_ ?_
   . by_cases h2:I-a≥2
     . rw[Va h2] at hD1;have c3:decide (2<=((I-a:Nat):Int))=true:=iO (by omega);refine Sem.seq [(1,.x (.int .i64 (a:Int))),(2,.x (.int .i64 (b:Int))),(3,.ptr 3 0),(7,.x (.int .i64 ((I:Nat):Int))),(8,.x (.int .i64 (5-((s+1:Nat):Int)))),(47,.x (.bool true))] [(3,[.x (.func (.func g) #[] gl),.x (.func (.func sf) #[] gs)]),(1003,az D0)] (Sem.run hE ag (by kernel_rfl) (by simp +decide (maxDischargeDepth:=200) only[go_sem,X1,X2,X3,bo,w4,c3])) ?_;refine Sem.cond (t:=true) (by simp +decide (maxDischargeDepth:=200) only[go_sem,X1,X2,X3,bo]) (fun _=>?_) (fun h=>by cases h);refine Sem.seq [(1,.x (.int .i64 (a:Int))),(2,.x (.int .i64 (b:Int))),(3,.ptr 3 0),(7,.x (.int .i64 ((I:Nat):Int))),(8,.x (.int .i64 (5-((s+1:Nat):Int)))),(9,.x (.int .i64 ((I-1:Nat):Int)))] [(3,[.x (.func (.func g) #[] gl),.x (.func (.func sf) #[] gs)]),(1003,az D0)] (Sem.run hE ag (by kernel_rfl) (by simp +decide (maxDischargeDepth:=200) only[go_sem,X1,X2,X3,bo,w3])) ?_;refine Sem.block (Sem.loop (X:={x:Nat×Array C3//x.1<=I-1∧x.2.size=N∧Go.Sort.shiftDown ac x.1 x.2=D1}) (fun x=>[(1,.x (.int .i64 (a:Int))),(2,.x (.int .i64 (b:Int))),(3,.ptr 3 0),(7,.x (.int .i64 ((I:Nat):Int))),(8,.x (.int .i64 (5-((s+1:Nat):Int)))),(9,.x (.int .i64 ((x.1.1:Nat):Int)))]) (fun x=>[(3,[.x (.func (.func g) #[] gl),.x (.func (.func sf) #[] gs)]),(1003,az x.1.2)]) (fun x=>x.1.1) ⟨(I-1,D0),by simp only;omega,z0,hD1⟩ (by simp +decide only[go_sem]<;>(repeat' first|rfl|constructor)) (by simp +decide only[go_sem]<;>(repeat' first|rfl|constructor)) (fun⟨⟨j,dj⟩,hj1,hj2,hj3⟩=>Sem.run hE ag (by kernel_rfl) ?_));simp only at hj1 hj2 hj3⊢;cases j with
       |zero=>have c4:decide (1<=((0:Nat):Int))=false:=tl (by omega);rw[Go.Sort.shiftDown] at hj3;rw[<-hj3];simp +decide (maxDischargeDepth:=200) only[go_sem,X1,X2,X3,bo,c4]
       | succ j=>
         have c4:decide (1<=((j+1:Nat):Int))=true:=iO (by omega);have c5:ax .i64 (((j+1:Nat):Int)-1)=((j:Nat):Int):=by rw[ak (by unfold co;omega)];omega
         have l1:=cH (N:=N) (j+1) j dj (by omega) (by omega) hj2;have s2:=dE (N:=N) (j+1) j dj (by omega) (by omega) hj2;rw[Go.Sort.shiftDown] at hj3;cases hl:ac dj[j+1]! dj[j]! with
         |false=>rw[hl] at l1 hj3;simp only[XE,Vi] at hj3;rw[<-hj3];simp +decide (maxDischargeDepth:=200) only[go_sem,X1,X2,X3,bo,c4,c5,l1]
         |true=>rw[hl] at l1 hj3;simp only[WY,VF,Vc] at hj3;simp +decide (maxDischargeDepth:=200) only[go_sem,X1,X2,X3,bo,c4,c5,l1,s2];refine⟨⟨(j,swp dj (j+1) j),by simp only;omega,by rw[bF];exact hj2,hj3⟩,?_,?_,by simp only;omega⟩<;>simp +decide only[go_sem]<;>(repeat' first|rfl|constructor)
     . rw[Vh h2] at hD1;have c3:decide (2<=((I-a:Nat):Int))=false:=tl (by omega);rw[<-hD1];refine Sem.run hE ag (by kernel_rfl) ?_;simp +decide (maxDischargeDepth:=200) only[go_sem,X1,X2,X3,bo,w4,c3]
   by_cases h2:b-I≥2
   . rw[Va h2] at hD2;have c3:decide (2<=((b-I:Nat):Int))=true:=iO (by omega);refine Sem.seq [(1,.x (.int .i64 (a:Int))),(2,.x (.int .i64 (b:Int))),(3,.ptr 3 0),(7,.x (.int .i64 ((I:Nat):Int))),(8,.x (.int .i64 (5-((s+1:Nat):Int)))),(70,.x (.bool true))] [(3,[.x (.func (.func g) #[] gl),.x (.func (.func sf) #[] gs)]),(1003,az D1)] (Sem.run hE ag (by kernel_rfl) (by simp +decide (maxDischargeDepth:=200) only[go_sem,X1,X2,X3,bo,w5,c3])) ?_;refine Sem.cond (t:=true) (by simp +decide (maxDischargeDepth:=200) only[go_sem,X1,X2,X3,bo]) (fun _=>?_) (fun h=>by cases h);refine Sem.seq [(1,.x (.int .i64 (a:Int))),(2,.x (.int .i64 (b:Int))),(3,.ptr 3 0),(7,.x (.int .i64 ((I:Nat):Int))),(8,.x (.int .i64 (5-((s+1:Nat):Int)))),(10,.x (.int .i64 ((I+1:Nat):Int)))] [(3,[.x (.func (.func g) #[] gl),.x (.func (.func sf) #[] gs)]),(1003,az D1)] (Sem.run hE ag (by kernel_rfl) (by simp +decide (maxDischargeDepth:=200) only[go_sem,X1,X2,X3,bo,w6])) ?_;refine Sem.block (Sem.loop (X:={x:Nat×Array C3//I+1<=x.1∧x.1<=b∧x.2.size=N∧Go.Sort.shiftUp ac b x.1 x.2=D2}) (fun x=>[(1,.x (.int .i64 (a:Int))),(2,.x (.int .i64 (b:Int))),(3,.ptr 3 0),(7,.x (.int .i64 ((I:Nat):Int))),(8,.x (.int .i64 (5-((s+1:Nat):Int)))),(10,.x (.int .i64 ((x.1.1:Nat):Int)))]) (fun x=>[(3,[.x (.func (.func g) #[] gl),.x (.func (.func sf) #[] gs)]),(1003,az x.1.2)]) (fun x=>b-x.1.1) ⟨(I+1,D1),by simp only;omega,by simp only;omega,z1,hD2⟩ (by simp +decide only[go_sem]<;>(repeat' first|rfl|constructor)) (by simp +decide only[go_sem]<;>(repeat' first|rfl|constructor)) (fun⟨⟨j,dj⟩,hj0,hj1,hj2,hj3⟩=>Sem.run hE ag (by kernel_rfl) ?_));simp only at hj0 hj1 hj2 hj3⊢;rw[Go.Sort.shiftUp] at hj3;by_cases hjb:j<b
     . have c4:decide (((j:Nat):Int)<((b:Nat):Int))=true:=iO (by omega);have c5:ax .i64 (((j:Nat):Int)-1)=((j-1:Nat):Int):=by rw[ak (by unfold co;omega)];omega
       have c6:ax .i64 (((j:Nat):Int)+1)=((j+1:Nat):Int):=by rw[ak (by unfold co;omega)];omega
       have l1:=cH (N:=N) j (j-1) dj (by omega) (by omega) hj2;have s2:=dE (N:=N) j (j-1) dj (by omega) (by omega) hj2;rw[Va hjb] at hj3;cases hl:ac dj[j]! dj[j-1]! with
       |false=>rw[hl] at l1 hj3;simp only[XE,Vi] at hj3;rw[<-hj3];simp +decide (maxDischargeDepth:=200) only[go_sem,X1,X2,X3,bo,c4,c5,l1,q]
       |true=>rw[hl] at l1 hj3;simp only[WY,VF,Vc] at hj3;simp +decide (maxDischargeDepth:=200) only[go_sem,X1,X2,X3,bo,c4,c5,c6,l1,s2];refine⟨⟨(j+1,swp dj j (j-1)),by simp only;omega,by simp only;omega,by rw[bF];exact hj2,hj3⟩,?_,?_,by simp only;omega⟩<;>simp +decide only[go_sem]<;>(repeat' first|rfl|constructor)
     . have c4:decide (((j:Nat):Int)<((b:Nat):Int))=false:=tl (by omega);rw[Vh hjb] at hj3;rw[<-hj3];simp +decide (maxDischargeDepth:=200) only[go_sem,X1,X2,X3,bo,c4,q]
   . rw[Vh h2] at hD2;have c3:decide (2<=((b-I:Nat):Int))=false:=tl (by omega);rw[<-hD2];refine Sem.run hE ag (by kernel_rfl) ?_;simp +decide (maxDischargeDepth:=200) only[go_sem,X1,X2,X3,bo,w5,c3,q]
theorem Qj (hS:SoOK G bk N g sf gl gs):FunXV G bk 107 [] (FE (eo g sf gl gs) (E1 N)):=by
 obtain⟨X,hX,X1,X2,X3⟩:=iB hS [] trivial;have hN:=hS.N1;unfold MX at hN;refine cm (k:=3) hX Tryz.func107 rfl (fun a w=>Tryz.call107 a w) Tryz.ntmps107 (by decide) (by decide) ?_;clear hX;intro us r outs hF;obtain⟨⟨a,b,d⟩,hus,hG⟩:=aZ hF;clear hF;subst hus;unfold E1 at hG;obtain⟨⟨hab,hbN,hd⟩,hG⟩:=bv hG;simp only at hab hbN hd;cases hG;refine⟨_,rfl,rfl,fun pm m0 w0 hE=>?_⟩;simp only[eo];have w1:ax .i64 ((b:Int)-1)=((b-1:Nat):Int):=by rw[ak (by unfold co;omega)];omega
 refine Sem.run hE ag (by kernel_rfl) ?_;simp +decide (maxDischargeDepth:=200) only[go_sem,X1,X2,X3,bo,w1];refine aI (X:={x:Nat×Nat×Array C3//x.1<=N∧x.2.1<N∧x.2.2.size=N∧Go.Sort.reverseLoop x.1 x.2.1 x.2.2=Go.Sort.reverseRange d a b}) (fun x=>[(3,.ptr 3 0),(6,.x (.int .i64 ((x.1.1:Nat):Int))),(7,.x (.int .i64 ((x.1.2.1:Nat):Int)))]) (fun x=>[(3,[.x (.func (.func g) #[] gl),.x (.func (.func sf) #[] gs)]),(1003,az x.1.2.2)]) (fun x=>x.1.2.1-x.1.1) ⟨(a,b-1,d),by simp only;omega,by simp only;omega,hd,rfl⟩ (by simp +decide only[go_sem]<;>(repeat' first|rfl|constructor)) (by simp +decide only[go_sem]<;>(repeat' first|rfl|constructor)) (fun⟨⟨i,j,dk⟩,hi,hj,hdk,heq⟩=>?_);simp only at hi hj hdk heq;by_cases hc:i<j
 . have c1:decide (((i:Nat):Int)<((j:Nat):Int))=true:=iO (by omega);have c2:ax .i64 (((i:Nat):Int)+1)=((i+1:Nat):Int):=by rw[ak (by unfold co;omega)];omega
   have c3:ax .i64 (((j:Nat):Int)-1)=((j-1:Nat):Int):=by rw[ak (by unfold co;omega)];omega
   have s1:=dE (N:=N) i j dk (by omega) (by omega) hdk;rw[Go.Sort.reverseLoop,Va hc] at heq;simp +decide (maxDischargeDepth:=200) only[go_sem,X1,X2,X3,bo,c1,c2,c3,s1];refine⟨⟨(i+1,j-1,swp dk i j),by simp only;omega,by simp only;omega,by rw[bF];exact hdk,heq⟩,?_,?_,by simp only;omega⟩<;>simp +decide only[go_sem]<;>(repeat' first|rfl|constructor)
 . have c1:decide (((i:Nat):Int)<((j:Nat):Int))=false:=tl (by omega);rw[Go.Sort.reverseLoop,Vh hc] at heq;subst heq;simp +decide (maxDischargeDepth:=200) only[go_sem,X1,X2,X3,bo,c1]
theorem ug (d:Array C3) (a b s M:Nat) (ha:a<M) (hb:b<M):(Go.Sort.order2 ac d a b s).1<M∧(Go.Sort.order2 ac d a b s).2.1<M∧(Go.Sort.order2 ac d a b s).2.2<=s+1:=by unfold Go.Sort.order2;split<;>exact⟨by assumption,by assumption,by simp only;omega⟩
theorem E2 (d:Array C3) (a b c s M:Nat) (ha:a<M) (hb:b<M) (hc:c<M):(Go.Sort.median ac d a b c s).1<M∧(Go.Sort.median ac d a b c s).2<=s+3:=by unfold Go.Sort.median;simp only;have h1:=ug d a b s M ha hb;have h2:=ug d _ c (Go.Sort.order2 ac d a b s).2.2 M h1.2.1 hc;have h3:=ug d _ _ (Go.Sort.order2 ac d (Go.Sort.order2 ac d a b s).2.1 c (Go.Sort.order2 ac d a b s).2.2).2.2 M h1.1 h2.1;exact⟨h3.2.1,by omega⟩
def Qk (N:Nat) (x:Nat×Nat×Nat×Array C3):Option (V×List (List V)):=if x.1<N∧x.2.1<N∧x.2.2.1<=1000∧x.2.2.2.size=N then some (.tup [.x (.int .i64 ((Go.Sort.order2 ac x.2.2.2 x.1 x.2.1 x.2.2.1).1:Int)),.x (.int .i64 ((Go.Sort.order2 ac x.2.2.2 x.1 x.2.1 x.2.2.1).2.1:Int))],[[.x (.int .i64 ((Go.Sort.order2 ac x.2.2.2 x.1 x.2.1 x.2.2.1).2.2:Int))],az x.2.2.2]) else none
def BR (N:Nat) (x:Nat×Nat×Nat×Nat×Array C3):Option (V×List (List V)):=if x.1<N∧x.2.1<N∧x.2.2.1<N∧x.2.2.2.1<=900∧x.2.2.2.2.size=N then some (.x (.int .i64 ((Go.Sort.median ac x.2.2.2.2 x.1 x.2.1 x.2.2.1 x.2.2.2.1).1:Int)),[[.x (.int .i64 ((Go.Sort.median ac x.2.2.2.2 x.1 x.2.1 x.2.2.1 x.2.2.2.1).2:Int))],az x.2.2.2.2]) else none
def Ql (N:Nat) (x:Nat×Nat×Array C3):Option (V×List (List V)):=if 1<=x.1∧x.1+1<N∧x.2.1<=900∧x.2.2.size=N then some (.x (.int .i64 ((Go.Sort.medianAdjacent ac x.2.2 x.1 x.2.1).1:Int)),[[.x (.int .i64 ((Go.Sort.medianAdjacent ac x.2.2 x.1 x.2.1).2:Int))],az x.2.2]) else none
def E3 (N:Nat) (x:Nat×Nat×Array C3):Option (V×List (List V)):=if x.1<x.2.1∧x.2.1<=N∧x.2.2.size=N then some (.tup [.x (.int .i64 ((Go.Sort.choosePivot ac x.2.2 x.1 x.2.1).1:Int)),.x (.int .i64 (Go.Sort.hintCode (Go.Sort.choosePivot ac x.2.2 x.1 x.2.1).2))],[az x.2.2]) else none
section
variable {g sf:FuncId} {gl gs:Array Value} {N:Nat}
theorem E4 (a b s:Nat) (d:Array C3) (h1:a<N) (h2:b<N) (h3:s<=1000) (h4:d.size=N):FE (xm g sf gl gs) (Qk N) [dJ g sf gl gs,.x (.int .i64 (a:Int)),.x (.int .i64 (b:Int)),.bx [.x (.int .i64 (s:Int))],.bx (az d)]=some (.tup [.x (.int .i64 ((Go.Sort.order2 ac d a b s).1:Int)),.x (.int .i64 ((Go.Sort.order2 ac d a b s).2.1:Int))],[[.x (.int .i64 ((Go.Sort.order2 ac d a b s).2.2:Int))],az d]):=
 (bC EV (Qk N) (a,b,s,d)).trans (Va ⟨h1,h2,h3,h4⟩)
theorem xp (a b c s:Nat) (d:Array C3) (h1:a<N) (h2:b<N) (h0:c<N) (h3:s<=900) (h4:d.size=N):FE (ub g sf gl gs) (BR N) [dJ g sf gl gs,.x (.int .i64 (a:Int)),.x (.int .i64 (b:Int)),.x (.int .i64 (c:Int)),.bx [.x (.int .i64 (s:Int))],.bx (az d)]=some (.x (.int .i64 ((Go.Sort.median ac d a b c s).1:Int)),[[.x (.int .i64 ((Go.Sort.median ac d a b c s).2:Int))],az d]):=
 (bC EX (BR N) (a,b,c,s,d)).trans (Va ⟨h1,h2,h0,h3,h4⟩)
theorem E5 (a s:Nat) (d:Array C3) (h1:1<=a) (h2:a+1<N) (h3:s<=900) (h4:d.size=N):FE (xn g sf gl gs) (Ql N) [dJ g sf gl gs,.x (.int .i64 (a:Int)),.bx [.x (.int .i64 (s:Int))],.bx (az d)]=some (.x (.int .i64 ((Go.Sort.medianAdjacent ac d a s).1:Int)),[[.x (.int .i64 ((Go.Sort.medianAdjacent ac d a s).2:Int))],az d]):=
 (bC EW (Ql N) (a,s,d)).trans (Va ⟨h1,h2,h3,h4⟩)
end
theorem T4 (hS:SoOK G bk N g sf gl gs):FunXV G bk 136 [] (FE (xm g sf gl gs) (Qk N)):=by
 obtain⟨X,hX,X1,X2,X3⟩:=iB hS [] trivial;have hN:=hS.N1;unfold MX at hN;refine cm (k:=4) hX Tryz.func136 rfl (fun a w=>Tryz.call136 a w) Tryz.ntmps136 (by decide) (by decide) ?_;clear hX;intro us r outs hF;obtain⟨⟨a,b,s,d⟩,hus,hG⟩:=aZ hF;clear hF;subst hus;unfold Qk at hG;obtain⟨⟨ha,hb,hs,hd⟩,hG⟩:=bv hG;simp only at ha hb hs hd;cases hG;refine⟨_,rfl,rfl,fun pm m0 w0 hE=>?_⟩;simp only[xm];have w1:ax .i64 ((s:Int)+1)=((s+1:Nat):Int):=by rw[ak (by unfold co;omega)];omega
 have l1:=cH (N:=N) b a d hb ha hd;refine Sem.run hE ag (by kernel_rfl) ?_;unfold Go.Sort.order2;cases hl:ac d[b]! d[a]! with
 |true=>rw[hl] at l1;simp +decide (maxDischargeDepth:=200) only[go_sem,X1,X2,X3,bo,w1,l1]
 |false=>rw[hl] at l1;simp +decide (maxDischargeDepth:=200) only[go_sem,X1,X2,X3,bo,w1,l1]
theorem Jj (hS:SoOK G bk N g sf gl gs):FunXV G bk 129 [] (FE (ub g sf gl gs) (BR N)):=by obtain⟨X,hX,X1,X2,X3⟩:=iB hS [(136,FE (xm g sf gl gs) (Qk N))] ⟨T4 hS,trivial⟩;have hN:=hS.N1;unfold MX at hN;refine cm (k:=5) hX Tryz.func129 rfl (fun a w=>Tryz.call129 a w) Tryz.ntmps129 (by decide) (by decide) ?_;clear hX;intro us r outs hF;obtain⟨⟨a,b,c,s,d⟩,hus,hG⟩:=aZ hF;clear hF;subst hus;unfold BR at hG;obtain⟨⟨ha,hb,hc,hs,hd⟩,hG⟩:=bv hG;simp only at ha hb hc hs hd;cases hG;refine⟨_,rfl,rfl,fun pm m0 w0 hE=>?_⟩;simp only[ub];unfold Go.Sort.median;simp only;have b1:=ug d a b s N ha hb;have e1:=E4 (g:=g) (sf:=sf) (gl:=gl) (gs:=gs) (N:=N) a b s d ha hb (by omega) hd;generalize Go.Sort.order2 ac d a b s=r1 at b1 e1⊢;have b2:=ug d r1.2.1 c r1.2.2 N b1.2.1 hc;have e2:=E4 (g:=g) (sf:=sf) (gl:=gl) (gs:=gs) (N:=N) r1.2.1 c r1.2.2 d b1.2.1 hc (by omega) hd;generalize Go.Sort.order2 ac d r1.2.1 c r1.2.2=r2 at b2 e2⊢;have e3:=E4 (g:=g) (sf:=sf) (gl:=gl) (gs:=gs) (N:=N) r1.1 r2.1 r2.2.2 d b1.1 b2.1 (by omega) hd;generalize Go.Sort.order2 ac d r1.1 r2.1 r2.2.2=r3 at e3⊢;refine Sem.run hE ag (by kernel_rfl) ?_;simp +decide (maxDischargeDepth:=200) only[go_sem,X1,X2,X3,bo,e1,e2,e3]
theorem T5 (hS:SoOK G bk N g sf gl gs):FunXV G bk 128 [] (FE (xn g sf gl gs) (Ql N)):=by
 obtain⟨X,hX,X1,X2,X3⟩:=iB hS [(129,FE (ub g sf gl gs) (BR N))] ⟨Jj hS,trivial⟩;have hN:=hS.N1;unfold MX at hN;refine cm (k:=3) hX Tryz.func128 rfl (fun a w=>Tryz.call128 a w) Tryz.ntmps128 (by decide) (by decide) ?_;clear hX;intro us r outs hF;obtain⟨⟨a,s,d⟩,hus,hG⟩:=aZ hF;clear hF;subst hus;unfold Ql at hG;obtain⟨⟨h1,h2,hs,hd⟩,hG⟩:=bv hG;simp only at h1 h2 hs hd;cases hG;refine⟨_,rfl,rfl,fun pm m0 w0 hE=>?_⟩;simp only[xn];unfold Go.Sort.medianAdjacent;have w1:ax .i64 ((a:Int)+1)=((a+1:Nat):Int):=by rw[ak (by unfold co;omega)];omega
 have w2:ax .i64 ((a:Int)-1)=((a-1:Nat):Int):=by rw[ak (by unfold co;omega)];omega
 have e1:=xp (g:=g) (sf:=sf) (gl:=gl) (gs:=gs) (N:=N) (a-1) a (a+1) s d (by omega) (by omega) (by omega) hs hd;refine Sem.run hE ag (by kernel_rfl) ?_;simp +decide (maxDischargeDepth:=200) only[go_sem,X1,X2,X3,bo,w1,w2,e1]
theorem Qm (hS:SoOK G bk N g sf gl gs):FunXV G bk 106 [] (FE (eo g sf gl gs) (E3 N)):=by
 obtain⟨X,hX,X1,X2,X3⟩:=iB hS [(128,FE (xn g sf gl gs) (Ql N)),(129,FE (ub g sf gl gs) (BR N))] ⟨T5 hS,Jj hS,trivial⟩;have hN:=hS.N1;unfold MX at hN;refine cm (k:=3) hX Tryz.func106 rfl (fun a w=>Tryz.call106 a w) Tryz.ntmps106 (by decide) (by decide) ?_;clear hX;intro us r outs hF;obtain⟨⟨a,b,d⟩,hus,hG⟩:=aZ hF;clear hF;subst hus;unfold E3 at hG;obtain⟨⟨hab,hbN,hd⟩,hG⟩:=bv hG;simp only at hab hbN hd;cases hG;refine⟨_,rfl,rfl,fun pm m0 w0 hE=>?_⟩;simp only[eo];obtain⟨l,hl⟩:∃l,b-a=l:=⟨_,rfl⟩;obtain⟨i,hi⟩:∃i,a+l/4*1=i:=⟨_,rfl⟩;obtain⟨j,hj⟩:∃j,a+l/4*2=j:=⟨_,rfl⟩;obtain⟨k,hk⟩:∃k,a+l/4*3=k:=⟨_,rfl⟩;have w0:ax .i64 ((b:Int)-(a:Int))=((l:Nat):Int):=by rw[ak (by unfold co;omega)];omega
 have q1:ax .i64 ((l:Int).tdiv 4)=((l/4:Nat):Int):=by rw[XB (by omega),ak (by unfold co;omega)];omega
 have w1:ax .i64 (((l/4:Nat):Int)*1)=((l/4*1:Nat):Int):=by rw[ak (by unfold co;omega)];omega
 have w2:ax .i64 (((l/4:Nat):Int)*2)=((l/4*2:Nat):Int):=by rw[ak (by unfold co;omega)];omega
 have w3:ax .i64 (((l/4:Nat):Int)*3)=((l/4*3:Nat):Int):=by rw[ak (by unfold co;omega)];omega
 have w4:ax .i64 ((a:Int)+((l/4*1:Nat):Int))=((i:Nat):Int):=by rw[ak (by unfold co;omega)];omega
 have w5:ax .i64 ((a:Int)+((l/4*2:Nat):Int))=((j:Nat):Int):=by rw[ak (by unfold co;omega)];omega
 have w6:ax .i64 ((a:Int)+((l/4*3:Nat):Int))=((k:Nat):Int):=by rw[ak (by unfold co;omega)];omega
 obtain⟨r,hr⟩:∃r:Nat×Nat,(if l≥8 then if l≥50 then Go.Sort.median ac d (Go.Sort.medianAdjacent ac d i 0).1 (Go.Sort.medianAdjacent ac d j (Go.Sort.medianAdjacent ac d i 0).2).1 (Go.Sort.medianAdjacent ac d k (Go.Sort.medianAdjacent ac d j (Go.Sort.medianAdjacent ac d i 0).2).2).1 (Go.Sort.medianAdjacent ac d k (Go.Sort.medianAdjacent ac d j (Go.Sort.medianAdjacent ac d i 0).2).2).2 else Go.Sort.median ac d i j k 0 else (j,0))=r:=⟨_,rfl⟩;have hch:Go.Sort.choosePivot ac d a b=(r.1,if r.2=0 then .increasing else if r.2=12 then .decreasing else .unknown):=by unfold Go.Sort.choosePivot;simp only[hl,hi,hj,hk,hr]
 rw[hch];refine Sem.seq [(3,.ptr 3 0),(1,.x (.int .i64 (a:Int))),(2,.x (.int .i64 (b:Int)))] [(3,[.x (.func (.func g) #[] gl),.x (.func (.func sf) #[] gs)]),(1003,az d)] (Sem.run hE ag (by kernel_rfl) (by simp +decide (maxDischargeDepth:=200) only[go_sem,X1,X2,X3,bo])) ?_;refine Sem.seq [(3,.ptr 3 0),(1,.x (.int .i64 (a:Int))),(8,.x (.int .i64 ((l:Nat):Int)))] [(3,[.x (.func (.func g) #[] gl),.x (.func (.func sf) #[] gs)]),(1003,az d)] (Sem.run hE ag (by kernel_rfl) (by simp +decide (maxDischargeDepth:=200) only[go_sem,X1,X2,X3,bo,w0])) ?_;refine Sem.seq [(3,.ptr 3 0),(1,.x (.int .i64 (a:Int))),(8,.x (.int .i64 ((l:Nat):Int))),(9,.ptr 9 0)] [(3,[.x (.func (.func g) #[] gl),.x (.func (.func sf) #[] gs)]),(9,[.x (.int .i64 0)]),(1003,az d)] (Sem.run hE ag (by kernel_rfl) (by simp +decide (maxDischargeDepth:=200) only[go_sem,X1,X2,X3,bo])) ?_;refine Sem.seq [(3,.ptr 3 0),(1,.x (.int .i64 (a:Int))),(8,.x (.int .i64 ((l:Nat):Int))),(9,.ptr 9 0),(10,.x (.int .i64 ((i:Nat):Int)))] [(3,[.x (.func (.func g) #[] gl),.x (.func (.func sf) #[] gs)]),(9,[.x (.int .i64 0)]),(1003,az d)] (Sem.run hE ag (by kernel_rfl) (by simp +decide (maxDischargeDepth:=200) only[go_sem,X1,X2,X3,bo,q1,w1,w4])) ?_;refine Sem.seq [(3,.ptr 3 0),(1,.x (.int .i64 (a:Int))),(8,.x (.int .i64 ((l:Nat):Int))),(9,.ptr 9 0),(10,.x (.int .i64 ((i:Nat):Int))),(11,.x (.int .i64 ((j:Nat):Int)))] [(3,[.x (.func (.func g) #[] gl),.x (.func (.func sf) #[] gs)]),(9,[.x (.int .i64 0)]),(1003,az d)] (Sem.run hE ag (by kernel_rfl) (by simp +decide (maxDischargeDepth:=200) only[go_sem,X1,X2,X3,bo,q1,w2,w5])) ?_;refine Sem.seq [(3,.ptr 3 0),(8,.x (.int .i64 ((l:Nat):Int))),(9,.ptr 9 0),(10,.x (.int .i64 ((i:Nat):Int))),(11,.x (.int .i64 ((j:Nat):Int))),(12,.x (.int .i64 ((k:Nat):Int)))] [(3,[.x (.func (.func g) #[] gl),.x (.func (.func sf) #[] gs)]),(9,[.x (.int .i64 0)]),(1003,az d)] (Sem.run hE ag (by kernel_rfl) (by simp +decide (maxDischargeDepth:=200) only[go_sem,X1,X2,X3,bo,q1,w3,w6])) ?_;refine Sem.seq [(9,.ptr 9 0),(11,.x (.int .i64 ((r.1:Nat):Int)))] [(3,[.x (.func (.func g) #[] gl),.x (.func (.func sf) #[] gs)]),(9,[.x (.int .i64 ((r.2:Nat):Int))]),(1003,az d)] (Sem.run hE ag (by kernel_rfl) ?_) ?_
 . by_cases h8:l≥8
   . rw[Va h8] at hr;have c1:decide (8<=((l:Nat):Int))=true:=iO (by omega);by_cases h50:l≥50
     . rw[Va h50] at hr;have c2:decide (50<=((l:Nat):Int))=true:=iO (by omega);have e1:=E5 (g:=g) (sf:=sf) (gl:=gl) (gs:=gs) (N:=N) i 0 d (by omega) (by omega) (by omega) hd;have b1:=E2 d (i-1) i (i+1) 0 N (by omega) (by omega) (by omega);change (Go.Sort.medianAdjacent ac d i 0).1<N∧(Go.Sort.medianAdjacent ac d i 0).2<=0+3 at b1;generalize Go.Sort.medianAdjacent ac d i 0=r1 at hr e1 b1;have e2:=E5 (g:=g) (sf:=sf) (gl:=gl) (gs:=gs) (N:=N) j r1.2 d (by omega) (by omega) (by omega) hd;have b2:=E2 d (j-1) j (j+1) r1.2 N (by omega) (by omega) (by omega);change (Go.Sort.medianAdjacent ac d j r1.2).1<N∧(Go.Sort.medianAdjacent ac d j r1.2).2<=r1.2+3 at b2;generalize Go.Sort.medianAdjacent ac d j r1.2=r2 at hr e2 b2;have e3:=E5 (g:=g) (sf:=sf) (gl:=gl) (gs:=gs) (N:=N) k r2.2 d (by omega) (by omega) (by omega) hd;have b3:=E2 d (k-1) k (k+1) r2.2 N (by omega) (by omega) (by omega);change (Go.Sort.medianAdjacent ac d k r2.2).1<N∧(Go.Sort.medianAdjacent ac d k r2.2).2<=r2.2+3 at b3;generalize Go.Sort.medianAdjacent ac d k r2.2=r3 at hr e3 b3;have e4:=xp (g:=g) (sf:=sf) (gl:=gl) (gs:=gs) (N:=N) r1.1 r2.1 r3.1 r3.2 d b1.1 b2.1 b3.1 (by omega) hd;rw[hr] at e4;rw[show((0:Nat):Int)=0 from rfl] at e1;simp +decide (maxDischargeDepth:=200) only[go_sem,X1,X2,X3,bo,c1,c2,e1,e2,e3,e4]
     . rw[Vh h50] at hr;have c2:decide (50<=((l:Nat):Int))=false:=tl (by omega);have e4:=xp (g:=g) (sf:=sf) (gl:=gl) (gs:=gs) (N:=N) i j k 0 d (by omega) (by omega) (by omega) (by omega) hd;rw[hr] at e4;rw[show((0:Nat):Int)=0 from rfl] at e4;simp +decide (maxDischargeDepth:=200) only[go_sem,X1,X2,X3,bo,c1,c2,e4]
   . rw[Vh h8] at hr;have c1:decide (8<=((l:Nat):Int))=false:=tl (by omega);rw[<-hr];simp +decide (maxDischargeDepth:=200) only[go_sem,X1,X2,X3,bo,c1];rfl
 . refine Sem.run hE ag (by kernel_rfl) ?_;by_cases h0:r.2=0
   . rw[Va h0];have c1:decide (((r.2:Nat):Int)=0)=true:=iO (by omega);simp +decide (maxDischargeDepth:=200) only[go_sem,X1,X2,X3,bo,c1,Go.Sort.hintCode]
   . rw[Vh h0];have c1:decide (((r.2:Nat):Int)=0)=false:=tl (by omega);by_cases h12:r.2=12
     . rw[Va h12];have c2:decide (((r.2:Nat):Int)=12)=true:=iO (by omega);simp +decide (maxDischargeDepth:=200) only[go_sem,X1,X2,X3,bo,c1,c2,Go.Sort.hintCode]
     . rw[Vh h12];have c2:decide (((r.2:Nat):Int)=12)=false:=tl (by omega);simp +decide (maxDischargeDepth:=200) only[go_sem,X1,X2,X3,bo,c1,c2,Go.Sort.hintCode]
end Go.Proofs.YtalkmhjanlljhaaGreat
