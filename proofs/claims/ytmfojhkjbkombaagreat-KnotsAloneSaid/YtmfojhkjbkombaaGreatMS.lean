/- Runs, part by part: what is known may be less from part to part. No program is named here. -/
import Derived.Test.YtmfojhkjbkombaaGreatMI
import Derived.Test.YtmfojhkjbkombaaGreatMPO
import Derived.Test.YtmfojhkjbkombaaGreatMG
import Derived.Sort.AssemblyPlain
import Derived.Sort.LotD4
namespace Go.Proofs.YtmfojhkjbkombaaGreat
set_option linter.unusedSimpArgs false
set_option maxHeartbeats 8000000
set_option maxRecDepth 100000
open Go Go.RowKit
attribute [go_sem] Tryz.results94 Tryz.results95 Tryz.results97 Tryz.results98 Tryz.results99 Tryz.results100 Tryz.results101 Tryz.results105 Tryz.results108 Tryz.results109 Tryz.results111
def Sem (E:Env) (n:Nat) (pm:Pm) (m0:Lim) (w0:World) (c:Code) (st:St) (K:Out->St->Prop):Prop:=
 ∀a w m β,Rel E n pm m0 w0 m β st a w->c.wpIn (bo none) 0 E.P (eG E n pm m0 w0 K) a w
def CT (ts:List (Nat×V)) (bs:List (Nat×List V)) (K:Out->St->Prop):Out->St->Prop
 | .normal,st=>fu st ts∧fR st bs
 | .ret,st=>K .ret st
 | .exit id,st=>K (.exit id) st
def seqQ (Q:Prop) (ts:List (Nat×V)) (bs:List (Nat×List V)) (K:Out->St->Prop):Out->St->Prop
 | .normal,st=>Q∧fu st ts∧fR st bs
 | .ret,st=>K .ret st
 | .exit id,st=>K (.exit id) st
def KG (K:Out->St->Prop):Out->St->Prop
 | .normal,_=>False
 | .ret,st=>K .ret st
 | .exit id,st=>K (.exit id) st
def kW {X:Type} (T:X->List (Nat×V)) (B:X->List (Nat×List V)) (μ:X->Nat) (n:Nat) (K:Out->St->Prop):Out->St->Prop
 | .normal,st=>pF T B μ n st
 | .ret,st=>K .ret st
 | .exit id,st=>K (.exit id) st
section
variable {E:Env} {n:Nat} {pm:Pm} {m0:Lim} {w0:World} {st:St} {K:Out->St->Prop}
section
variable (ts:List (Nat×V)) (bs:List (Nat×List V)) (K:Out->St->Prop) (st:St) (id:Nat)
theorem uf:CT ts bs K .normal st=(fu st ts∧fR st bs):=rfl
theorem Gt:CT ts bs K .ret st=K .ret st:=rfl
theorem ug (Q:Prop):seqQ Q ts bs K .normal st=(Q∧fu st ts∧fR st bs):=rfl
theorem Gu (Q:Prop):seqQ Q ts bs K .ret st=K .ret st:=rfl
theorem CU (Q:Prop):seqQ Q ts bs K (.exit id) st=K (.exit id) st:=rfl
theorem xZ (Q:Prop) {o o':Out} (h:o=o'):seqQ Q ts bs K o st=seqQ Q ts bs K o' st:=by rw[h]
variable {o o':Out}
theorem x5 (h:o=o'):CT ts bs K o st=CT ts bs K o' st:=by rw[h]
theorem uh:KG K .normal st=False:=rfl
theorem Gv:KG K .ret st=K .ret st:=rfl
theorem CV:KG K (.exit id) st=K (.exit id) st:=rfl
theorem CW:CT ts bs K (.exit id) st=K (.exit id) st:=rfl
variable {X:Type} (T:X->List (Nat×V)) (B:X->List (Nat×List V)) (μ:X->Nat) (n:Nat)
theorem o3:kW T B μ n K .normal st=pF T B μ n st:=rfl
theorem x6:kW T B μ n K .ret st=K .ret st:=rfl
theorem ro (h:o=o'):kW T B μ n K o st=kW T B μ n K o' st:=by rw[h]
theorem ui:kW T B μ n K (.exit id) st=K (.exit id) st:=rfl
end
attribute [go_sem] uf Gt CW uh Gv CV o3 x6 ui fu fR
attribute [go_sem] ug Gu CU
attribute [congr] xZ x5 ro
theorem Sem.run (hE:EnvX E pm) (hm:E.P.follows .mixedOrders=true) {c:Code} (hok:aY E.any n c=true) (h:Go.Proofs.YtmfojhkjbkombaaGreat.run E c st K):Sem E n pm m0 w0 c st K:=fun a w m β hr=>
 wpIn_mono (jH (r:=none) (W:=fun _=>true) hE hm c K st a w m β hok (fO c) hr h) (fun _ _ _ h=>h.1)
variable {c:Code}
theorem Sem.seq {d:Code} (ts:List (Nat×V)) (bs:List (Nat×List V)) (h1:Sem E n pm m0 w0 c st (CT ts bs K)) (h2:Sem E n pm m0 w0 d (au ts bs) K):Sem E n pm m0 w0 (c.seq d) st K:=fun a w m β hr=>by
 refine wpIn_seq (wpIn_mono (h1 a w m β hr) ?_);intro e a' w' hp;cases e<;>simp only[eG,Exit.then] at hp⊢ <;>first|exact hp.elim|exact hp|skip
 obtain⟨st',m',β',hk,h'⟩:=hp;exact h2 a' w' m' β' (h'.le (aJ hk.1 hk.2))
theorem Sem.seqQ {d:Code} (Q:Prop) (ts:List (Nat×V)) (bs:List (Nat×List V)) (h1:Sem E n pm m0 w0 c st (Go.Proofs.YtmfojhkjbkombaaGreat.seqQ Q ts bs K)) (h2:Q->Sem E n pm m0 w0 d (au ts bs) K):Sem E n pm m0 w0 (c.seq d) st K:=fun a w m β hr=>by
 refine wpIn_seq (wpIn_mono (h1 a w m β hr) ?_);intro e a' w' hp;cases e<;>simp only[eG,Exit.then] at hp⊢ <;>first|exact hp.elim|exact hp|skip
 obtain⟨st',m',β',⟨hq,hk1,hk2⟩,h'⟩:=hp;exact h2 hq a' w' m' β' (h'.le (aJ hk1 hk2))
theorem Sem.seq_out {d:Code} (h1:Sem E n pm m0 w0 c st (KG K)):Sem E n pm m0 w0 (c.seq d) st K:=fun a w m β hr=>by
 refine wpIn_seq (wpIn_mono (h1 a w m β hr) ?_);intro e a' w' hp;cases e<;>simp only[eG,Exit.then] at hp⊢ <;>first|exact hp.elim|exact hp|skip
 obtain⟨st',m',β',hk,h'⟩:=hp;exact hk.elim
theorem Sem.block {id:Nat} (h:Sem E n pm m0 w0 c st (jG id K)):Sem E n pm m0 w0 (.block id c) st K:=fun a w m β hr=>by
 refine wpIn_block (wpIn_mono (h a w m β hr) ?_);intro e a' w' hp;cases e<;>simp only[eG,Exit.inBlock] at hp⊢ <;>first|exact hp.elim|exact hp|skip
 rename_i id';obtain⟨st',m',β',hk,h'⟩:=hp;by_cases hid:id'=id
 . subst hid;rw[iP,YG rfl] at hk;simp only[YX];exact⟨st',m',β',hk,h'⟩
 . rw[iP,YL hid] at hk;simp only[hid,YU];exact⟨st',m',β',hk,h'⟩
variable {X:Type}
theorem Sem.loop (T:X->List (Nat×V)) (B:X->List (Nat×List V)) (μ:X->Nat) (x0:X) (h0:fu st (T x0)) (h0':fR st (B x0))
 (h:∀x,Sem E n pm m0 w0 c (au (T x) (B x)) (kW T B μ (μ x) K)):Sem E n pm m0 w0 (.loop c) st K:=fun a w m β hr=>by
 refine dE (X:=X) (fun x a w=>∃m β,Rel E n pm m0 w0 m β (au (T x) (B x)) a w) μ x0 ⟨m,β,hr.le (aJ h0 h0')⟩ ?_;rintro x a1 w1 ⟨m1,β1,hr1⟩;refine wpIn_mono (h x a1 w1 m1 β1 hr1) ?_;intro e a' w' hp;cases e<;>simp only[eG] at hp⊢ <;>first|exact hp.elim|exact hp|skip
 obtain⟨st',m',β',⟨x',h1,h2,h3⟩,h'⟩:=hp;exact⟨x',⟨m',β',h'.le (aJ h1 h2)⟩,h3⟩
theorem Sem.cond {c:Operand} {x y:Code} {t:Bool} (hc:ev E st c= .x (.bool t)) (h1:t=true->Sem E n pm m0 w0 x st K) (h2:t=false->Sem E n pm m0 w0 y st K):Sem E n pm m0 w0 (.cond c x y) st K:=fun a w m β hr=>by have hv:a.eval c= .bool t:=(hc▸aH hr c:Rs m w β (a.eval c) (.x (.bool t))).x;exact wpIn_cond_split hv (fun e=>h1 e a w m β hr) (fun e=>h2 e a w m β hr)
theorem Sem.mono {K':Out->St->Prop} (h:Sem E n pm m0 w0 c st K) (hk:∀o st,K o st->K' o st):Sem E n pm m0 w0 c st K':=fun a w m β hr=>by refine wpIn_mono (h a w m β hr) ?_;intro e a' w' hp;cases e<;>simp only[eG] at hp⊢ <;>first|exact hp.elim|(obtain⟨st',m',β',h1,h2⟩:=hp;exact⟨st',m',β',hk _ _ h1,h2⟩)
theorem x7 (hEx:∀pm:Pm,∀bk,pm.b E.xk=bk->(∀f lb F,E.X f lb=some F->FunX E bk f lb F)->EnvX E pm) (hmb:∀s,1000<=s->E.MB s=false) (_hm:E.P.follows .mixedOrders=true) {f:FuncId} {fn:Func} {c:Code} {F:List V->Option (V×List (List V))} {k bk:Nat} (hf:E.P.funcs[f]?=some fn) (hb:fn.body=some c)
 (hcall:∀args w,(callFunc f args).run E.P w= .ok (.enter f args) w) (hn:fn.ntmps=n) (hk:k<n) (hn1:n<=1000) (hxk:E.xk=1000+k) (hX:∀f lb F,E.X f lb=some F->FunX E bk f lb F)
 (hrun:∀us r outs,F us=some (r,outs)->∃cs,us.length=k+1∧us[k]?=some (.bx cs)∧∀pm m0 w0,EnvX E pm->Sem E n pm m0 w0 c ⟨upd (c9 us).t k .undef,(c9 us).b⟩ (EO E fn.results.toList us r outs)):FunX E bk f [] F:=by
 intro m w vs us bs gs hs r outs hF hargs hnd hhnd hj hg;obtain⟨cs,hl,hcs,hrun⟩:=hrun us r outs hF;have hlen:=hargs.len;simp only[YD,YW,YI,Zd] at hlen;have hargs':ArgsP m w E.K (vs.push (.pointer (some ⟨bk,0,none⟩))).toList us bs gs hs:=by simpa using hargs
 obtain⟨γ,hrel,_,h1,h3,h8⟩:=jL hmb hn1 hargs' hnd hhnd hj hg A0y;have hγ:γ (1000+k)=bk:=by
  obtain⟨q1,_,_⟩:=h1 k cs hcs;have hkv:k=vs.size:=A0b
  subst hkv;simp at q1;exact q1.symm
 subst hn;have hE:EnvX E ⟨bs++(gs++hs),γ,gs,[]⟩:=hEx _ bk (by rw[hxk];exact hγ) hX;have hrel':=Rel.drop (T:=vs++Array.replicate (fn.ntmps-vs.size) Go.undef) hrel A0y k (fun i hi=>by
  have hkv:k=vs.size:=A0b
  subst hkv;simp only[YZ];rcases Zu i vs.size with h'|h'
  . rw[ZF h',ZF A0y,Array.getElem?_push_lt h',Y3 h']
  . rw[aaL h',aaL A0y];simp only[Array.size_push,aac];have:i-vs.size<fn.ntmps-vs.size↔i-(vs.size+1)<fn.ntmps-(vs.size+1):=A0b
    by_cases hc:i-vs.size<fn.ntmps-vs.size
    . rw[YG hc,YG (this.1 hc)]
    . rw[YL hc,YL (fun h=>hc (this.2 h))])
 refine .inl ⟨hcall _ _,?_⟩;rw[show vs++(⟨[]⟩:Array Value)=vs from abt];refine calls_of_wp hf hb (wp_mono (wpIn_wide.1 (hrun _ _ _ hE _ _ _ _ hrel')) ?_);intro e a' w' hp
 have done:∀st' m' β',((nj E st' fn.results.toList=some r∨dZ E st' fn.results.toList=some r)∧kh us st'=some outs)->Rel E fn.ntmps ⟨bs++(gs++hs),γ,gs,[]⟩ m w m' β' st' a' w'->a'.defers=[]∧∃v,(results fn a'.tmps).run E.P w'= .ok v w'∧∃v',Ending.returned v= .returned v'∧∃m',Rd m' w' v' r∧Bel (bs++(gs++hs)) w w'∧Ext m w m' w'∧(∀blk,blk<w.heap.size->blk∉gs->m' blk=m blk)∧(∃o1 o2,outs=o1++o2∧OutsP m' w' bs o1∧OutsM m' w' hs o2)∧
  ∀sz es k,r= .sl false sz es (some k)->∃g,RowIs m' w' v' g sz es.length∧(w.heap.size<=g∨g∈gs):=by
  intro st' m' β' h1' h2';obtain⟨q1,v,q2,q3⟩:=jM h3 h8 h1' h2';exact⟨q1,v,q2,v,rfl,m',q3⟩
 cases e with
 |normal=>obtain⟨st',m',β',h1,h2⟩:=hp;exact done st' m' β' h1 h2
 |ret=>obtain⟨st',m',β',h1,h2⟩:=hp;exact done st' m' β' h1 h2
 |exit id=>obtain⟨st',m',β',h1,h2⟩:=hp;exact h1.elim
 |goto l=>exact hp.elim
 |panic ch=>exact hp.elim
 |outgrown=>exact hp.elim
end
open Go.Sort (swp)
def aC (d:Array C3):List V:=d.toList.flatMap fun p=>(aa p).cells
theorem gz {a b:Array C3} (h:aC a=aC b):a=b:=by
 have key:∀l l':List C3,(l.flatMap fun p=>(aa p).cells)=(l'.flatMap fun p=>(aa p).cells)->l=l':=by
  intro l
  induction l with
  | nil=>
    intro l' h;cases l' with
    |nil=>rfl
    |cons p l'=>simp[aa,V.cells] at h
  | cons p l ih=>
    intro l' h;cases l' with
    |nil=>simp[aa,V.cells] at h
    | cons p' l'=>
      simp only[ZG] at h;obtain⟨h1,h2⟩:=List.append_inj h (by simp[aa,V.cells]);have e:aa p=aa p':=by obtain⟨x,y,z⟩:=p;obtain⟨x',y',z'⟩:=p';simp only[aa,V.cells] at h1⊢;rw[h1]
      rw[CR _ _ e,ih _ h2]
 exact Zt.1 (key _ _ h)
abbrev dK (g sf:FuncId) (gl gs:Array Value):V:= .agg [.x (.func (.func g) #[] gl),.x (.func (.func sf) #[] gs)]
section
variable (g sf:FuncId) (gl gs:Array Value)
def en2 (x:Nat×Nat×Array C3):List V:=[.x (.int .i64 (x.1:Int)),.x (.int .i64 (x.2.1:Int)),.bx (aC x.2.2)]
def dW (x:Nat×Nat×Array C3):List V:=[dK g sf gl gs,.x (.int .i64 (x.1:Int)),.x (.int .i64 (x.2.1:Int)),.bx (aC x.2.2)]
def fG (x:Nat×Nat×Nat×Array C3):List V:=[dK g sf gl gs,.x (.int .i64 (x.1:Int)),.x (.int .i64 (x.2.1:Int)),.x (.int .i64 (x.2.2.1:Int)),.bx (aC x.2.2.2)]
def x9 (x:Nat×Nat×Nat×Array C3):List V:=[dK g sf gl gs,.x (.int .i64 (x.1:Int)),.x (.int .i64 (x.2.1:Int)),.bx [.x (.int .i64 (x.2.2.1:Int))],.bx (aC x.2.2.2)]
def yb (x:Nat×Nat×Array C3):List V:=[dK g sf gl gs,.x (.int .i64 (x.1:Int)),.bx [.x (.int .i64 (x.2.1:Int))],.bx (aC x.2.2)]
def uj (x:Nat×Nat×Nat×Nat×Array C3):List V:=[dK g sf gl gs,.x (.int .i64 (x.1:Int)),.x (.int .i64 (x.2.1:Int)),.x (.int .i64 (x.2.2.1:Int)),.bx [.x (.int .i64 (x.2.2.2.1:Int))],.bx (aC x.2.2.2.2)]
end
theorem Aw (x y:Nat×Nat×Array C3) (h:en2 x=en2 y):x=y:=by obtain⟨a,b,d⟩:=x;obtain⟨a',b',d'⟩:=y;simp only[en2,Zb,V.x.injEq,Value.int.injEq,V.bx.injEq,aaU,Z7,aa5] at h;obtain⟨rfl,rfl,h⟩:=h;rw[gz h]
section
variable {g sf:FuncId} {gl gs:Array Value}
theorem gA (x y:Nat×Nat×Array C3) (h:dW g sf gl gs x=dW g sf gl gs y):x=y:=by obtain⟨a,b,d⟩:=x;obtain⟨a',b',d'⟩:=y;simp only[dW,Zb,V.x.injEq,Value.int.injEq,V.bx.injEq,aaU,Z7,aa5] at h;obtain⟨rfl,rfl,h⟩:=h;rw[gz h]
theorem kw (x y:Nat×Nat×Nat×Array C3) (h:fG g sf gl gs x=fG g sf gl gs y):x=y:=by obtain⟨a,b,c,d⟩:=x;obtain⟨a',b',c',d'⟩:=y;simp only[fG,Zb,V.x.injEq,Value.int.injEq,V.bx.injEq,aaU,Z7,aa5] at h;obtain⟨rfl,rfl,rfl,h⟩:=h;rw[gz h]
theorem Gw (x y:Nat×Nat×Nat×Array C3) (h:x9 g sf gl gs x=x9 g sf gl gs y):x=y:=by obtain⟨a,b,c,d⟩:=x;obtain⟨a',b',c',d'⟩:=y;simp only[x9,Zb,V.x.injEq,Value.int.injEq,V.bx.injEq,aaU,Z7,aa5] at h;obtain⟨rfl,rfl,rfl,h⟩:=h;rw[gz h]
theorem Gx (x y:Nat×Nat×Array C3) (h:yb g sf gl gs x=yb g sf gl gs y):x=y:=by obtain⟨a,c,d⟩:=x;obtain⟨a',c',d'⟩:=y;simp only[yb,Zb,V.x.injEq,Value.int.injEq,V.bx.injEq,aaU,Z7,aa5] at h;obtain⟨rfl,rfl,h⟩:=h;rw[gz h]
theorem Gy (x y:Nat×Nat×Nat×Nat×Array C3) (h:uj g sf gl gs x=uj g sf gl gs y):x=y:=by obtain⟨a,b,e,c,d⟩:=x;obtain⟨a',b',e',c',d'⟩:=y;simp only[uj,Zb,V.x.injEq,Value.int.injEq,V.bx.injEq,aaU,Z7,aa5] at h;obtain⟨rfl,rfl,rfl,rfl,h⟩:=h;rw[gz h]
end
theorem bF (d:Array C3) (i j:Nat):(swp d i j).size=d.size:=by simp[swp]
abbrev MX:Nat:=1000000
def GLess (N:Nat) (x:Nat×Nat×Array C3):Option (V×List (List V)):=if x.1<N∧x.2.1<N∧x.2.2.size=N then some (.x (.bool (ae x.2.2[x.1]! x.2.2[x.2.1]!)),[aC x.2.2]) else none
def GSwp (N:Nat) (x:Nat×Nat×Array C3):Option (V×List (List V)):=if x.1<N∧x.2.1<N∧x.2.2.size=N then some (.tup [],[aC (swp x.2.2 x.1 x.2.1)]) else none
def FunXV (G:Nat->V) (bk:Nat) (f:FuncId) (lb:List Value) (F:List V->Option (V×List (List V))):Prop:=FunX (dx G (fun _ _=>none) 0) bk f lb F
structure SoOK (G:Nat->V) (bk N:Nat) (g sf:FuncId) (gl gs:Array Value):Prop where
 gl0:gl.toList≠[]
 gs0:gs.toList≠[]
 ne:g≠sf
 N1:N<=MX
 less:FunXV G bk g gl.toList (FE en2 (GLess N))
 swap:FunXV G bk sf gs.toList (FE en2 (GSwp N))
def Nx (G:Nat->V) (bk:Nat):List (Nat×(List V->Option (V×List (List V))))->Prop
 |[]=>True
 |p::l=>FunXV G bk p.1 [] p.2∧Nx G bk l
section
variable {G:Nat->V} {bk N:Nat} {g sf:FuncId} {gl gs:Array Value}
theorem iz (hS:SoOK G bk N g sf gl gs) (l:List (Nat×(List V->Option (V×List (List V))))) (hl:Nx G bk l):∃X:FuncId->List Value->Option (List V->Option (V×List (List V))),(∀f lb F,X f lb=some F->FunXV G bk f lb F)∧X g gl.toList=some (FE en2 (GLess N))∧X sf gs.toList=some (FE en2 (GSwp N))∧∀f,X f []=bt l f:=by
 classical
 refine⟨fun f lb=>if lb=[] then bt l f else if f=g∧lb=gl.toList then some (FE en2 (GLess N)) else if f=sf∧lb=gs.toList then some (FE en2 (GSwp N)) else none,fun f lb F h=>?_,?_,?_,fun f=>YG rfl⟩
 . by_cases h0:lb=[]
   . simp only[h0,YX] at h⊢;have key:∀l,Nx G bk l->bt l f=some F->FunXV G bk f [] F:=by
      intro l
      induction l with
      |nil=>intro _ h;cases h
      | cons p l ih=>
        intro q hF;simp only[bt] at hF;split at hF
        . rename_i e;cases hF;exact e▸q.1
        . exact ih q.2 hF
     exact key l hl h
   . simp only[h0,YU] at h;split at h
     . rename_i e;cases h;rw[e.1,e.2];exact hS.less
     . split at h
       . rename_i e;cases h;rw[e.1,e.2];exact hS.swap
       . cases h
 . simp only[hS.gl0,YU,and_self,YX]
 . simp only[hS.gs0,YU,and_self,YX];rw[YL (fun e=>hS.ne e.1.symm)]
theorem cC (i j:Nat) (d:Array C3) (hi:i<N) (hj:j<N) (hd:d.size=N):FE en2 (GLess N) [.x (.int .i64 (i:Int)),.x (.int .i64 (j:Int)),.bx (aC d)]=some (.x (.bool (ae d[i]! d[j]!)),[aC d]):=
 (cq Aw (GLess N) (i,j,d)).trans (YG ⟨hi,hj,hd⟩)
theorem dw (i j:Nat) (d:Array C3) (hi:i<N) (hj:j<N) (hd:d.size=N):FE en2 (GSwp N) [.x (.int .i64 (i:Int)),.x (.int .i64 (j:Int)),.bx (aC d)]=some (.tup [],[aC (swp d i j)]):=
 (cq Aw (GSwp N) (i,j,d)).trans (YG ⟨hi,hj,hd⟩)
end
variable {G:Nat->V} {f:FuncId} {fn:Func} {c:Code} {F:List V->Option (V×List (List V))} {k n bk:Nat}
theorem ic {X:FuncId->List Value->Option (List V->Option (V×List (List V)))} (hX:∀f lb F,X f lb=some F->FunXV G bk f lb F) (hf:Tryz.prog.funcs[f]?=some fn) (hb:fn.body=some c)
 (hcall:∀args w,(callFunc f args).run Tryz.prog w= .ok (.enter f args) w) (hn:fn.ntmps=n) (hok:aY (fun _=>false) n c=true) (hk:k<n) (hn1:n<=1000)
 (hrun:∀us r outs,F us=some (r,outs)->∃cs,us.length=k+1∧us[k]?=some (.bx cs)∧run (dx G X (1000+k)) c ⟨upd (c9 us).t k .undef,(c9 us).b⟩ (Ag (dx G X (1000+k)) fn.results.toList us r outs)):FunXV G bk f [] F:=by
 refine ti (E:=dx G X (1000+k)) (n:=n) (fun pm bk' h1 h2=>Al G X (1000+k) A0b pm bk' h1 h2) (fun _ _=>rfl) A0a hf hb hcall hn hok hk hn1 rfl hX (fun us r outs hF=>?_);obtain⟨cs,h1,h2,h3⟩:=hrun us r outs hF;refine⟨cs,h1,h2,_,Le.refl _,nh (fun o st hk=>?_) h3⟩;cases o with
 |exit id=>exact hk
 |normal=>exact⟨.inr hk.1,hk.2⟩
 |ret=>exact⟨.inr hk.1,hk.2⟩
theorem cf {X:FuncId->List Value->Option (List V->Option (V×List (List V)))} (hX:∀f lb F,X f lb=some F->FunXV G bk f lb F) (hf:Tryz.prog.funcs[f]?=some fn) (hb:fn.body=some c)
 (hcall:∀args w,(callFunc f args).run Tryz.prog w= .ok (.enter f args) w) (hn:fn.ntmps=n) (hk:k<n) (hn1:n<=1000)
 (hrun:∀us r outs,F us=some (r,outs)->∃cs,us.length=k+1∧us[k]?=some (.bx cs)∧∀pm m0 w0,EnvX (dx G X (1000+k)) pm->Sem (dx G X (1000+k)) n pm m0 w0 c ⟨upd (c9 us).t k .undef,(c9 us).b⟩ (Ag (dx G X (1000+k)) fn.results.toList us r outs)):FunXV G bk f [] F:=by
 refine x7 (E:=dx G X (1000+k)) (n:=n) (fun pm bk' h1 h2=>Al G X (1000+k) A0b pm bk' h1 h2) (fun _ _=>rfl) A0a hf hb hcall hn hk hn1 rfl hX (fun us r outs hF=>?_);obtain⟨cs,h1,h2,h3⟩:=hrun us r outs hF;refine⟨cs,h1,h2,fun pm m0 w0 hE=>Sem.mono (h3 pm m0 w0 hE) (fun o st hk=>?_)⟩;cases o with
 |exit id=>exact hk
 |normal=>exact⟨.inr hk.1,hk.2⟩
 |ret=>exact⟨.inr hk.1,hk.2⟩
theorem ah:Tryz.prog.follows .mixedOrders=true:=A0a
def Gz (N:Nat) (x:Nat×Nat×Array C3):Option (V×List (List V)):=if x.1<=x.2.1∧x.2.1<=N∧x.2.2.size=N then some (.tup [],[aC (Go.Sort.insertionSort ae x.2.2 x.1 x.2.1)]) else none
variable {a:Nat} {d:Array C3}
theorem o4 {j:Nat} (h: ¬a<j):Go.Sort.insInner ae a j d=d:=by
 cases j with
 |zero=>rfl
 |succ j=>rw[Go.Sort.insInner];simp;intro h1;omega
variable {N:Nat} {g sf:FuncId} {gl gs:Array Value}
theorem Ss (hS:SoOK G bk N g sf gl gs):FunXV G bk 94 [] (FE (dW g sf gl gs) (Gz N)):=by
 obtain⟨X,hX,X1,X2,X3⟩:=iz hS [] trivial;have hN:=hS.N1;unfold MX at hN;refine ic (k:=3) hX Tryz.func94 rfl (fun a w=>Tryz.call94 a w) Tryz.ntmps94 A0a A0c A0c ?_;clear hX;intro us r outs hF;obtain⟨⟨a,b,d⟩,hus,hG⟩:=bE hF;clear hF;subst hus;unfold Gz at hG;obtain⟨⟨hab,hbN,hd⟩,hG⟩:=bX hG;simp only at hab hbN hd;cases hG;refine⟨_,rfl,rfl,?_⟩;simp only[dW];have w1:aw .i64 ((a:Int)+1)=((a+1:Nat):Int):=by rw[ak A0h];omega
 simp +decide (maxDischargeDepth:=200) only[go_sem,X1,X2,X3,bt,w1];refine bc (X:={x:Nat×Array C3//a+1<=x.1∧x.1<=N+1∧x.2.size=N∧Go.Sort.insOuter ae a b x.1 x.2=Go.Sort.insertionSort ae d a b}) (fun x=>[(1,.x (.int .i64 (a:Int))),(2,.x (.int .i64 (b:Int))),(3,.ptr 3 0),(6,.x (.int .i64 (x.1.1:Int)))]) (fun x=>[(3,[.x (.func (.func g) #[] gl),.x (.func (.func sf) #[] gs)]),(1003,aC x.1.2)]) (fun x=>b-x.1.1) ⟨(a+1,d),A0b,A0b,hd,rfl⟩ A0e A0e (fun⟨⟨i,dk⟩,hi1,hi2,hdk,heq⟩=>?_);simp only at hi1 hi2 hdk heq;by_cases hi:i<b
 . have c1:decide ((i:Int)<(b:Int))=true:=Yz A0b;rw[Go.Sort.insOuter,YG hi] at heq;have w2:aw .i64 ((i:Int)+1)=((i+1:Nat):Int):=by rw[ak A0h];omega
   simp +decide (maxDischargeDepth:=200) only[go_sem,X1,X2,X3,bt,c1];refine bc (X:={y:Nat×Array C3//a<=y.1∧y.1<=i∧y.2.size=N∧Go.Sort.insInner ae a y.1 y.2=Go.Sort.insInner ae a i dk}) (fun y=>[(1,.x (.int .i64 (a:Int))),(2,.x (.int .i64 (b:Int))),(3,.ptr 3 0),(6,.x (.int .i64 (i:Int))),(7,.x (.int .i64 (y.1.1:Int)))]) (fun y=>[(3,[.x (.func (.func g) #[] gl),.x (.func (.func sf) #[] gs)]),(1003,aC y.1.2)]) (fun y=>y.1.1) ⟨(i,dk),A0b,A0b,hdk,rfl⟩ A0e A0e (fun⟨⟨j,dj⟩,hj1,hj2,hdj,hej⟩=>?_);simp only at hj1 hj2 hdj hej;by_cases hj:a<j
   . obtain⟨k,rfl⟩:∃k,j=k+1:=⟨j-1,A0b⟩;have q1:decide ((a:Int)<((k+1:Nat):Int))=true:=Yz A0b;have q2:aw .i64 (((k+1:Nat):Int)-1)=((k:Nat):Int):=by rw[ak A0h];omega
     have l1:=cC (N:=N) (k+1) k dj A0b A0b hdj;have s1:=dw (N:=N) (k+1) k dj A0b A0b hdj;rw[Go.Sort.insInner] at hej;cases hl:ae dj[k+1]! dj[k]! with
     |false=>rw[hl] at l1 hej;simp only[Bool.and_false,Y2,YU] at hej;simp +decide (maxDischargeDepth:=200) only[go_sem,X1,X2,X3,bt,q1,q2,w2,l1];refine⟨⟨(i+1,dj),A0b,A0b,hdj,by rw[hej];exact heq⟩,?_,?_,by simp only;omega⟩<;>simp +decide only[go_sem]<;>(repeat' first|rfl|constructor)
     |true=>rw[hl] at l1 hej;simp only[aaq,Zh,abG,hj,YX] at hej;simp +decide (maxDischargeDepth:=200) only[go_sem,X1,X2,X3,bt,q1,q2,w2,l1,s1];refine⟨⟨(k,swp dj (k+1) k),A0b,A0b,by rw[bF];exact hdj,hej⟩,?_,?_,by simp only;omega⟩<;>simp +decide only[go_sem]<;>(repeat' first|rfl|constructor)
   . have q1:decide ((a:Int)<((j:Nat):Int))=false:=YA A0b;rw[o4 hj] at hej;simp +decide (maxDischargeDepth:=200) only[go_sem,X1,X2,X3,bt,q1,w2];refine⟨⟨(i+1,dj),A0b,A0b,hdj,by rw[hej];exact heq⟩,?_,?_,by simp only;omega⟩<;>simp +decide only[go_sem]<;>(repeat' first|rfl|constructor)
 . have c1:decide ((i:Int)<(b:Int))=false:=YA A0b;rw[Go.Sort.insOuter,YL hi] at heq;subst heq;simp +decide (maxDischargeDepth:=200) only[go_sem,X1,X2,X3,bt,c1]
def pW (N:Nat) (x:Nat×Nat×Nat×Array C3):Option (V×List (List V)):=if x.1<=N∧x.2.2.1+x.2.1<=N∧x.2.2.2.size=N then some (.tup [],[aC (Go.Sort.siftDown ae x.2.1 x.2.2.1 x.1 x.2.2.2)]) else none
def uk (N:Nat) (x:Nat×Nat×Array C3):Option (V×List (List V)):=if x.1<=x.2.1∧x.2.1<=N∧x.2.2.size=N then some (.tup [],[aC (Go.Sort.heapSort ae x.2.2 x.1 x.2.1)]) else none
section
variable {hi F r:Nat} {d:Array C3}
theorem rp (h: ¬2*r+1<hi):Go.Sort.siftDown ae hi F r d=d:=by rw[Go.Sort.siftDown,dif_pos A0b]
theorem Su (h:2*r+2<hi) (h1:ae d[F+(2*r+1)]! d[F+(2*r+1)+1]! =true):Go.Sort.siftDown ae hi F r d=if ae d[F+r]! d[F+(2*r+2)]! =true then Go.Sort.siftDown ae hi F (2*r+2) (swp d (F+r) (F+(2*r+2))) else d:=by
 rw[Go.Sort.siftDown,dif_neg A0b];have e:(decide (2*r+1+1<hi)&&ae d[F+(2*r+1)]! d[F+(2*r+1)+1]!)=true:=by rw[h1,aaq];exact Yz A0b
 rw[YG e];cases ae d[F+r]! d[F+(2*r+2)]! <;>simp[h]
theorem Ny (h0:2*r+1<hi) (h1: ¬(2*r+2<hi∧ae d[F+(2*r+1)]! d[F+(2*r+1)+1]! =true)):Go.Sort.siftDown ae hi F r d=if ae d[F+r]! d[F+(2*r+1)]! =true then Go.Sort.siftDown ae hi F (2*r+1) (swp d (F+r) (F+(2*r+1))) else d:=by
 rw[Go.Sort.siftDown,dif_neg A0b];have e: ¬(decide (2*r+1+1<hi)&&ae d[F+(2*r+1)]! d[F+(2*r+1)+1]!)=true:=by intro e;rw[YH,Zh] at e;exact h1 ⟨A0b,e.2⟩
 rw[YL e];cases ae d[F+r]! d[F+(2*r+1)]! <;>simp
end
theorem Ay (hi F:Nat):∀(n r:Nat) (d:Array C3),hi-r<=n->(Go.Sort.siftDown ae hi F r d).size=d.size:=by
 intro n
 induction n with
 |zero=>intro r d h;rw[rp A0b]
 | succ n ih=>
   intro r d h;by_cases h0:2*r+1<hi
   . by_cases h1:2*r+2<hi∧ae d[F+(2*r+1)]! d[F+(2*r+1)+1]! =true
     . rw[Su h1.1 h1.2];split
       . rw[ih _ _ A0b,bF]
       . rfl
     . rw[Ny h0 h1];split
       . rw[ih _ _ A0b,bF]
       . rfl
   . rw[rp h0]
theorem Nz (hS:SoOK G bk N g sf gl gs):FunXV G bk 105 [] (FE (fG g sf gl gs) (pW N)):=by
 obtain⟨X,hX,X1,X2,X3⟩:=iz hS [] trivial;have hN:=hS.N1;unfold MX at hN;refine ic (k:=4) hX Tryz.func105 rfl (fun a w=>Tryz.call105 a w) Tryz.ntmps105 A0a A0c A0c ?_;clear hX;intro us r outs hF;obtain⟨⟨lo,hi,F,d⟩,hus,hG⟩:=bE hF;clear hF;subst hus;unfold pW at hG;obtain⟨⟨hlo,hFh,hd⟩,hG⟩:=bX hG;simp only at hlo hFh hd;cases hG;refine⟨_,rfl,rfl,?_⟩;simp only[fG];simp +decide (maxDischargeDepth:=200) only[go_sem,X1,X2,X3,bt];refine bc (X:={x:Nat×Array C3//x.1<=N∧x.2.size=N∧Go.Sort.siftDown ae hi F x.1 x.2=Go.Sort.siftDown ae hi F lo d}) (fun x=>[(1,.x (.int .i64 (lo:Int))),(2,.x (.int .i64 (hi:Int))),(3,.x (.int .i64 (F:Int))),(4,.ptr 4 0),(8,.x (.int .i64 (x.1.1:Int)))]) (fun x=>[(4,[.x (.func (.func g) #[] gl),.x (.func (.func sf) #[] gs)]),(1004,aC x.1.2)]) (fun x=>hi-x.1.1) ⟨(lo,d),A0b,hd,rfl⟩ A0e A0e (fun⟨⟨r,dk⟩,hr,hdk,heq⟩=>?_);simp only at hr hdk heq;have p1:aw .i64 (2*((r:Nat):Int))=((2*r:Nat):Int):=by rw[ak A0h];omega
 have p2:aw .i64 (((2*r:Nat):Int)+1)=((2*r+1:Nat):Int):=by rw[ak A0h];omega
 by_cases h0:2*r+1<hi
 . have c1:decide (((hi:Nat):Int)<=((2*r+1:Nat):Int))=false:=YA A0b;have p3:aw .i64 (((2*r+1:Nat):Int)+1)=((2*r+2:Nat):Int):=by rw[ak A0h];omega
   by_cases h1:2*r+2<hi
   . have c2:decide (((2*r+2:Nat):Int)<((hi:Nat):Int))=true:=Yz A0b;have p4:aw .i64 ((F:Int)+((2*r+1:Nat):Int))=((F+(2*r+1):Nat):Int):=by rw[ak A0h];omega
     have p5:aw .i64 (((F+(2*r+1):Nat):Int)+1)=((F+(2*r+1)+1:Nat):Int):=by rw[ak A0h];omega
     have l1:=cC (N:=N) (F+(2*r+1)) (F+(2*r+1)+1) dk A0b A0b hdk;cases hl:ae dk[F+(2*r+1)]! dk[F+(2*r+1)+1]! with
     | true=>
       rw[Su h1 hl] at heq;rw[hl] at l1;have p6:aw .i64 ((F:Int)+((r:Nat):Int))=((F+r:Nat):Int):=by rw[ak A0h];omega
       have p7:aw .i64 ((F:Int)+((2*r+2:Nat):Int))=((F+(2*r+2):Nat):Int):=by rw[ak A0h];omega
       have l2:=cC (N:=N) (F+r) (F+(2*r+2)) dk A0b A0b hdk;have s2:=dw (N:=N) (F+r) (F+(2*r+2)) dk A0b A0b hdk;cases hl2:ae dk[F+r]! dk[F+(2*r+2)]! with
       |false=>rw[hl2] at l2 heq;simp only[Y2,YU] at heq;subst heq;simp +decide (maxDischargeDepth:=200) only[go_sem,X1,X2,X3,bt,p1,p2,c1,p3,p4,p5,c2,l1,p6,p7,l2]
       |true=>rw[hl2] at l2 heq;simp only[YX] at heq;simp +decide (maxDischargeDepth:=200) only[go_sem,X1,X2,X3,bt,p1,p2,c1,p3,p4,p5,c2,l1,p6,p7,l2,s2];refine⟨⟨(2*r+2,swp dk (F+r) (F+(2*r+2))),A0b,by rw[bF];exact hdk,heq⟩,?_,?_,by simp only;omega⟩<;>simp +decide only[go_sem]<;>(repeat' first|rfl|constructor)
     | false=>
       rw[Ny h0 (by rw[hl];simp)] at heq;rw[hl] at l1;have p6:aw .i64 ((F:Int)+((r:Nat):Int))=((F+r:Nat):Int):=by rw[ak A0h];omega
       have p7:aw .i64 ((F:Int)+((2*r+1:Nat):Int))=((F+(2*r+1):Nat):Int):=by rw[ak A0h];omega
       have l2:=cC (N:=N) (F+r) (F+(2*r+1)) dk A0b A0b hdk;have s2:=dw (N:=N) (F+r) (F+(2*r+1)) dk A0b A0b hdk;cases hl2:ae dk[F+r]! dk[F+(2*r+1)]! with
       |false=>rw[hl2] at l2 heq;simp only[Y2,YU] at heq;subst heq;simp +decide (maxDischargeDepth:=200) only[go_sem,X1,X2,X3,bt,p1,p2,c1,p3,p4,p5,c2,l1,p6,p7,l2]
       |true=>rw[hl2] at l2 heq;simp only[YX] at heq;simp +decide (maxDischargeDepth:=200) only[go_sem,X1,X2,X3,bt,p1,p2,c1,p3,p4,p5,c2,l1,p6,p7,l2,s2];refine⟨⟨(2*r+1,swp dk (F+r) (F+(2*r+1))),A0b,by rw[bF];exact hdk,heq⟩,?_,?_,by simp only;omega⟩<;>simp +decide only[go_sem]<;>(repeat' first|rfl|constructor)
   . have c2:decide (((2*r+2:Nat):Int)<((hi:Nat):Int))=false:=YA A0b;rw[Ny h0 A0b] at heq;have p6:aw .i64 ((F:Int)+((r:Nat):Int))=((F+r:Nat):Int):=by rw[ak A0h];omega
     have p7:aw .i64 ((F:Int)+((2*r+1:Nat):Int))=((F+(2*r+1):Nat):Int):=by rw[ak A0h];omega
     have l2:=cC (N:=N) (F+r) (F+(2*r+1)) dk A0b A0b hdk;have s2:=dw (N:=N) (F+r) (F+(2*r+1)) dk A0b A0b hdk;cases hl2:ae dk[F+r]! dk[F+(2*r+1)]! with
     |false=>rw[hl2] at l2 heq;simp only[Y2,YU] at heq;subst heq;simp +decide (maxDischargeDepth:=200) only[go_sem,X1,X2,X3,bt,p1,p2,c1,p3,c2,p6,p7,l2]
     |true=>rw[hl2] at l2 heq;simp only[YX] at heq;simp +decide (maxDischargeDepth:=200) only[go_sem,X1,X2,X3,bt,p1,p2,c1,p3,c2,p6,p7,l2,s2];refine⟨⟨(2*r+1,swp dk (F+r) (F+(2*r+1))),A0b,by rw[bF];exact hdk,heq⟩,?_,?_,by simp only;omega⟩<;>simp +decide only[go_sem]<;>(repeat' first|rfl|constructor)
 . have c1:decide (((hi:Nat):Int)<=((2*r+1:Nat):Int))=true:=Yz A0b;rw[rp h0] at heq;subst heq;simp +decide (maxDischargeDepth:=200) only[go_sem,X1,X2,X3,bt,p1,p2,c1]
theorem Az (lo hi F:Nat) (d:Array C3) (h1:lo<=N) (h2:F+hi<=N) (h3:d.size=N):FE (fG g sf gl gs) (pW N) [dK g sf gl gs,.x (.int .i64 (lo:Int)),.x (.int .i64 (hi:Int)),.x (.int .i64 (F:Int)),.bx (aC d)]=some (.tup [],[aC (Go.Sort.siftDown ae hi F lo d)]):=
 (cq kw (pW N) (lo,hi,F,d)).trans (YG ⟨h1,h2,h3⟩)
theorem GA (hi F:Nat) (d:Array C3) (h2:F+hi<=N) (h3:d.size=N):FE (fG g sf gl gs) (pW N) [dK g sf gl gs,.x (.int .i64 0),.x (.int .i64 (hi:Int)),.x (.int .i64 (F:Int)),.bx (aC d)]=some (.tup [],[aC (Go.Sort.siftDown ae hi F 0 d)]):=Az 0 hi F d (Zf _) h2 h3
theorem NA (n:Nat) (h:n<=1000000):aw .i64 (aw .i64 ((n:Int)-1)|>.tdiv 2)=((((n-1)/2+1:Nat)):Int)-1:=by
 have e0:aw .i64 ((n:Int)-1)=(n:Int)-1:=ak A0h;rw[e0];have e:((n:Int)-1).tdiv 2=((((n-1)/2+1:Nat)):Int)-1:=by
  cases n with
  |zero=>decide
  |succ n=>rw[show((n+1:Nat):Int)-1=((n:Nat):Int) from by omega,abe A0b];omega
 rw[e];exact ak A0h
theorem NB (hS:SoOK G bk N g sf gl gs):FunXV G bk 95 [] (FE (dW g sf gl gs) (uk N)):=by
 obtain⟨X,hX,X1,X2,X3⟩:=iz hS [(105,FE (fG g sf gl gs) (pW N))] ⟨Nz hS,trivial⟩;have hN:=hS.N1;unfold MX at hN;refine ic (k:=3) hX Tryz.func95 rfl (fun a w=>Tryz.call95 a w) Tryz.ntmps95 A0a A0c A0c ?_;clear hX;intro us r outs hF;obtain⟨⟨a,b,d⟩,hus,hG⟩:=bE hF;clear hF;subst hus;unfold uk at hG;obtain⟨⟨hab,hbN,hd⟩,hG⟩:=bX hG;simp only at hab hbN hd;cases hG;refine⟨_,rfl,rfl,?_⟩;simp only[dW];have w1:aw .i64 ((b:Int)-(a:Int))=((b-a:Nat):Int):=by rw[ak A0h];omega
 have w2:=NA (b-a) A0b;simp +decide (maxDischargeDepth:=200) only[go_sem,X1,X2,X3,bt,w1,w2];refine bc (X:={x:Nat×Array C3//x.1<=N+1∧x.2.size=N∧Go.Sort.heapPop ae a (b-a) (Go.Sort.heapBuild ae (b-a) a x.1 x.2)=Go.Sort.heapSort ae d a b}) (fun x=>[(1,.x (.int .i64 (a:Int))),(2,.x (.int .i64 (b:Int))),(3,.ptr 3 0),(6,.x (.int .i64 (a:Int))),(7,.x (.int .i64 0)),(8,.x (.int .i64 ((b-a:Nat):Int))),(9,.x (.int .i64 ((x.1.1:Int)-1)))]) (fun x=>[(3,[.x (.func (.func g) #[] gl),.x (.func (.func sf) #[] gs)]),(1003,aC x.1.2)]) (fun x=>x.1.1) ⟨((b-a-1)/2+1,d),by simp only;omega,hd,rfl⟩ A0e A0e (fun⟨⟨k,dk⟩,hk,hdk,heq⟩=>?_);simp only at hk hdk heq;cases k with
 | succ k=>
   have c1:decide ((0:Int)<=((k+1:Nat):Int)-1)=true:=Yz A0b;have e1:((k+1:Nat):Int)-1=((k:Nat):Int):=A0b
   have e2:aw .i64 ((k:Int)-1)=(k:Int)-1:=ak A0h;have s1:=Az (g:=g) (sf:=sf) (gl:=gl) (gs:=gs) (N:=N) k (b-a) a dk A0b A0b hdk;rw[Go.Sort.heapBuild] at heq;rw[e1] at c1⊢;simp +decide (maxDischargeDepth:=200) only[go_sem,X1,X2,X3,bt,c1,e2,s1];refine⟨⟨(k,Go.Sort.siftDown ae (b-a) a k dk),by simp only;omega,by rw[Ay _ _ _ _ _ (YJ _)];exact hdk,heq⟩,?_,?_,by simp only;omega⟩<;>simp +decide only[go_sem]<;>(repeat' first|rfl|constructor)
 | zero=>
   have c1:decide ((0:Int)<=((0:Nat):Int)-1)=false:=YA A0b;rw[Go.Sort.heapBuild] at heq;have e2:aw .i64 (((b-a:Nat):Int)-1)=((b-a:Nat):Int)-1:=ak A0h;simp +decide (maxDischargeDepth:=200) only[go_sem,X1,X2,X3,bt,c1,e2];refine bc (X:={x:Nat×Array C3//x.1<=b-a∧x.2.size=N∧Go.Sort.heapPop ae a x.1 x.2=Go.Sort.heapSort ae d a b}) (fun x=>[(1,.x (.int .i64 (a:Int))),(2,.x (.int .i64 (b:Int))),(3,.ptr 3 0),(6,.x (.int .i64 (a:Int))),(7,.x (.int .i64 0)),(8,.x (.int .i64 ((b-a:Nat):Int))),(10,.x (.int .i64 ((x.1.1:Int)-1)))]) (fun x=>[(3,[.x (.func (.func g) #[] gl),.x (.func (.func sf) #[] gs)]),(1003,aC x.1.2)]) (fun x=>x.1.1) ⟨(b-a,dk),by simp only;omega,hdk,heq⟩ A0e A0e (fun⟨⟨k,dk⟩,hk,hdk,heq⟩=>?_);simp only at hk hdk heq;clear c1;cases k with
   | succ k=>
     have c1:decide ((0:Int)<=((k+1:Nat):Int)-1)=true:=Yz A0b;have e1:((k+1:Nat):Int)-1=((k:Nat):Int):=A0b
     have e3:aw .i64 ((k:Int)-1)=(k:Int)-1:=ak A0h;have e4:aw .i64 ((a:Int)+(k:Int))=((a+k:Nat):Int):=by rw[ak A0h];omega
     have t1:=dw (N:=N) a (a+k) dk A0b A0b hdk;have s1:=GA (g:=g) (sf:=sf) (gl:=gl) (gs:=gs) (N:=N) k a (swp dk a (a+k)) A0b (by rw[bF];exact hdk);rw[Go.Sort.heapPop] at heq;rw[e1] at c1⊢;simp +decide (maxDischargeDepth:=200) only[go_sem,X1,X2,X3,bt,c1,e3,e4,t1,s1];refine⟨⟨(k,Go.Sort.siftDown ae k a 0 (swp dk a (a+k))),by simp only;omega,by rw[Ay _ _ _ _ _ (YJ _),bF];exact hdk,heq⟩,?_,?_,by simp only;omega⟩<;>simp +decide only[go_sem]<;>(repeat' first|rfl|constructor)
   |zero=>have c1:decide ((0:Int)<=((0:Nat):Int)-1)=false:=YA A0b;rw[Go.Sort.heapPop] at heq;subst heq;simp +decide (maxDischargeDepth:=200) only[go_sem,X1,X2,X3,bt,c1]
section
variable {p:C3->Bool} {d:Array C3}
theorem mw {i j:Nat} (h:i<=j) (hp:p d[i]! =true):Go.Sort.scanUp p d j i=Go.Sort.scanUp p d j (i+1):=by rw[Go.Sort.scanUp,YG (by rw[hp,aaq];exact Yz h)]
theorem eZ {i j:Nat} (h: ¬(i<=j∧p d[i]! =true)):Go.Sort.scanUp p d j i=i:=by rw[Go.Sort.scanUp,YL (by rw[YH,Zh];exact h)]
theorem AA {j:Nat}:∀(n i:Nat),j+1-i<=n->i<=Go.Sort.scanUp p d j i∧(Go.Sort.scanUp p d j i<=j+1∨Go.Sort.scanUp p d j i=i):=by
 intro n
 induction n with
 |zero=>intro i h;rw[eZ A0b];omega
 | succ n ih=>
   intro i h;by_cases h0:i<=j∧p d[i]! =true
   . rw[mw h0.1 h0.2];have:=ih (i+1) A0b;omega
   . rw[eZ h0];omega
theorem my {i j:Nat} (h:i<=j+1) (hp:p d[j+1]! =true):Go.Sort.scanDown p d i (j+1)=Go.Sort.scanDown p d i j:=by rw[Go.Sort.scanDown,YG (by rw[hp,aaq];exact Yz h)]
theorem e7 {i j:Nat} (h: ¬(i<=j∧p d[j]! =true)):Go.Sort.scanDown p d i j=j:=by
 cases j with
 |zero=>rfl
 |succ j=>rw[Go.Sort.scanDown,YL (by rw[YH,Zh];exact h)]
theorem AB {i:Nat} (hi:1<=i):∀j:Nat,Go.Sort.scanDown p d i j<=j∧(i<=Go.Sort.scanDown p d i j+1∨Go.Sort.scanDown p d i j=j):=by
 intro j
 induction j with
 |zero=>rw[e7 A0b];omega
 | succ j ih=>
   by_cases h0:i<=j+1∧p d[j+1]! =true
   . rw[my h0.1 h0.2];omega
   . rw[e7 h0];omega
end
variable {I:Nat}
theorem rq {i j J:Nat} (hI:Go.Sort.scanUp (fun x=>ae x d[a]!) d j i=I) (hJ:Go.Sort.scanDown (fun x=> !ae x d[a]!) d I j=J) (h:J<I):Go.Sort.partLoop ae a i j d=(J,d):=by rw[Go.Sort.partLoop];simp only[hI,hJ,abG,h,YX]
theorem AC {i j J:Nat} (hI:Go.Sort.scanUp (fun x=>ae x d[a]!) d j i=I) (hJ:Go.Sort.scanDown (fun x=> !ae x d[a]!) d I j=J) (h: ¬J<I) (h2:J-1+1-(I+1)<j+1-i):Go.Sort.partLoop ae a i j d=Go.Sort.partLoop ae a (I+1) (J-1) (swp d I J):=by rw[Go.Sort.partLoop];simp only[hI,hJ,abG,h,YU,h2,dif_pos]
theorem Sv:∀(n i j:Nat) (d:Array C3),j+1-i<=n->1<=i->i<=j+2->(Go.Sort.partLoop ae a i j d).1<=j∧(Go.Sort.partLoop ae a i j d).2.size=d.size:=by
 intro n
 induction n with
 |zero=>intro i j d h h1 h3;have hI:=eZ (p:=fun x=>ae x d[a]!) (d:=d) (i:=i) (j:=j) A0b;have hJ:=e7 (p:=fun x=> !ae x d[a]!) (d:=d) (i:=i) (j:=j) A0b;rw[rq hI hJ A0b];exact⟨by simp only;omega,rfl⟩
 | succ n ih=>
   intro i j d h h1 h3;obtain⟨I,hI⟩:∃I,Go.Sort.scanUp (fun x=>ae x d[a]!) d j i=I:=⟨_,rfl⟩;obtain⟨J,hJ⟩:∃J,Go.Sort.scanDown (fun x=> !ae x d[a]!) d I j=J:=⟨_,rfl⟩;have b1:=AA (p:=fun x=>ae x d[a]!) (d:=d) (j:=j) _ i (YJ _);rw[hI] at b1;have b2:=AB (p:=fun x=> !ae x d[a]!) (d:=d) (i:=I) A0b j;rw[hJ] at b2;by_cases hc:J<I
   . rw[rq hI hJ hc];exact⟨by simp only;omega,rfl⟩
   . rw[AC hI hJ hc A0b];have:=ih (I+1) (J-1) (swp d I J) A0b A0b A0b;rw[bF] at this;exact⟨A0b,this.2⟩
theorem KH {i j J:Nat} (hI:Go.Sort.scanUp (fun x=> !ae d[a]! x) d j i=I) (hJ:Go.Sort.scanDown (fun x=>ae d[a]! x) d I j=J) (h:J<I):Go.Sort.partEqLoop ae a i j d=(I,d):=by rw[Go.Sort.partEqLoop];simp only[hI,hJ,abG,h,YX]
theorem KJ {i j J:Nat} (hI:Go.Sort.scanUp (fun x=> !ae d[a]! x) d j i=I) (hJ:Go.Sort.scanDown (fun x=>ae d[a]! x) d I j=J) (h: ¬J<I) (h2:J-1+1-(I+1)<j+1-i):Go.Sort.partEqLoop ae a i j d=Go.Sort.partEqLoop ae a (I+1) (J-1) (swp d I J):=by rw[Go.Sort.partEqLoop];simp only[hI,hJ,abG,h,YU,h2,dif_pos]
def ul (N:Nat) (x:Nat×Nat×Nat×Array C3):Option (V×List (List V)):=if x.1<=x.2.2.1∧x.2.2.1<x.2.1∧x.2.1<=N∧x.2.2.2.size=N then some (.tup [.x (.int .i64 ((Go.Sort.partition ae x.2.2.2 x.1 x.2.1 x.2.2.1).1:Int)),.x (.bool (Go.Sort.partition ae x.2.2.2 x.1 x.2.1 x.2.2.1).2.1)],[aC (Go.Sort.partition ae x.2.2.2 x.1 x.2.1 x.2.2.1).2.2]) else none
def nQ (N:Nat) (x:Nat×Nat×Nat×Array C3):Option (V×List (List V)):=if x.1<=x.2.2.1∧x.2.2.1<x.2.1∧x.2.1<=N∧x.2.2.2.size=N then some (.x (.int .i64 ((Go.Sort.partitionEqual ae x.2.2.2 x.1 x.2.1 x.2.2.1).1:Int)),[aC (Go.Sort.partitionEqual ae x.2.2.2 x.1 x.2.1 x.2.2.1).2]) else none
variable {b pv:Nat}
theorem CX {J:Nat} {d1:Array C3} (h1:swp d a pv=d1) (hI:Go.Sort.scanUp (fun x=>ae x d1[a]!) d1 (b-1) (a+1)=I) (hJ:Go.Sort.scanDown (fun x=> !ae x d1[a]!) d1 I (b-1)=J) (h:J<I):Go.Sort.partition ae d a b pv=(J,true,swp d1 J a):=by unfold Go.Sort.partition;simp only[h1,hI,hJ,abG,h,YX]
theorem KK {J:Nat} {d1:Array C3} (h1:swp d a pv=d1) (hI:Go.Sort.scanUp (fun x=>ae x d1[a]!) d1 (b-1) (a+1)=I) (hJ:Go.Sort.scanDown (fun x=> !ae x d1[a]!) d1 I (b-1)=J) (h: ¬J<I):Go.Sort.partition ae d a b pv=((Go.Sort.partLoop ae a (I+1) (J-1) (swp d1 I J)).1,false,swp (Go.Sort.partLoop ae a (I+1) (J-1) (swp d1 I J)).2 (Go.Sort.partLoop ae a (I+1) (J-1) (swp d1 I J)).1 a):=by unfold Go.Sort.partition;simp only[h1,hI,hJ,abG,h,YU]
theorem NC (hS:SoOK G bk N g sf gl gs):FunXV G bk 101 [] (FE (fG g sf gl gs) (ul N)):=by
 obtain⟨X,hX,X1,X2,X3⟩:=iz hS [] trivial;have hN:=hS.N1;unfold MX at hN;refine cf (k:=4) hX Tryz.func101 rfl (fun a w=>Tryz.call101 a w) Tryz.ntmps101 A0c A0c ?_;clear hX;intro us r outs hF;obtain⟨⟨a,b,pv,d⟩,hus,hG⟩:=bE hF;clear hF;subst hus;unfold ul at hG;obtain⟨⟨hap,hpb,hbN,hd⟩,hG⟩:=bX hG;simp only at hap hpb hbN hd;cases hG;refine⟨_,rfl,rfl,fun pm m0 w0 hE=>?_⟩;simp only[fG];have s0:=dw (N:=N) a pv d A0b A0b hd;obtain⟨d1,hd1⟩:∃d1,swp d a pv=d1:=⟨_,rfl⟩;have hz1:d1.size=N:=by rw[<-hd1,bF];exact hd
 rw[hd1] at s0;have w1:aw .i64 ((a:Int)+1)=((a+1:Nat):Int):=by rw[ak A0h];omega
 have w2:aw .i64 ((b:Int)-1)=((b-1:Nat):Int):=by rw[ak A0h];omega
 refine Sem.seq [(1,.x (.int .i64 (a:Int))),(2,.x (.int .i64 (b:Int))),(3,.x (.int .i64 (pv:Int))),(4,.ptr 4 0)] [(4,[.x (.func (.func g) #[] gl),.x (.func (.func sf) #[] gs)]),(1004,aC d)] (Sem.run hE ah A0a A0m) ?_;refine Sem.seq [(1,.x (.int .i64 (a:Int))),(2,.x (.int .i64 (b:Int))),(3,.x (.int .i64 (pv:Int))),(4,.ptr 4 0)] [(4,[.x (.func (.func g) #[] gl),.x (.func (.func sf) #[] gs)]),(1004,aC d1)] (Sem.run hE ah A0a A00) ?_;refine Sem.seq [(1,.x (.int .i64 (a:Int))),(4,.ptr 4 0),(10,.x (.int .i64 ((a+1:Nat):Int))),(11,.x (.int .i64 ((b-1:Nat):Int)))] [(4,[.x (.func (.func g) #[] gl),.x (.func (.func sf) #[] gs)]),(1004,aC d1)] (Sem.run hE ah A0a A0X) ?_;obtain⟨IF,hIF⟩:∃I,Go.Sort.scanUp (fun x=>ae x d1[a]!) d1 (b-1) (a+1)=I:=⟨_,rfl⟩;obtain⟨JF,hJF⟩:∃J,Go.Sort.scanDown (fun x=> !ae x d1[a]!) d1 IF (b-1)=J:=⟨_,rfl⟩;have buF:=AA (p:=fun x=>ae x d1[a]!) (d:=d1) (j:=b-1) _ (a+1) (YJ _);rw[hIF] at buF;have bdF:=AB (p:=fun x=> !ae x d1[a]!) (d:=d1) (i:=IF) A0b (b-1);rw[hJF] at bdF;refine Sem.seq [(1,.x (.int .i64 (a:Int))),(4,.ptr 4 0),(10,.x (.int .i64 ((IF:Nat):Int))),(11,.x (.int .i64 ((b-1:Nat):Int)))] [(4,[.x (.func (.func g) #[] gl),.x (.func (.func sf) #[] gs)]),(1004,aC d1)] (Sem.block (Sem.loop (X:={i:Nat//a+1<=i∧(i<=b-1+1∨i=a+1)∧Go.Sort.scanUp (fun x=>ae x d1[a]!) d1 (b-1) i=IF}) (fun x=>[(1,.x (.int .i64 (a:Int))),(4,.ptr 4 0),(10,.x (.int .i64 ((x.1:Nat):Int))),(11,.x (.int .i64 ((b-1:Nat):Int)))]) (fun _=>[(4,[.x (.func (.func g) #[] gl),.x (.func (.func sf) #[] gs)]),(1004,aC d1)]) (fun x=>b-1+1-x.1) ⟨a+1,A0b,A0b,hIF⟩ A0e A0e (fun⟨i,hi1,hi2,hi3⟩=>Sem.run hE ah A0a ?_))) ?_
 . simp only;by_cases hc:i<=b-1
   . have c1:decide (((i:Nat):Int)<=((b-1:Nat):Int))=true:=Yz A0b;have c2:aw .i64 (((i:Nat):Int)+1)=((i+1:Nat):Int):=by rw[ak A0h];omega
     have l1:=cC (N:=N) i a d1 A0b A0b hz1;cases hl:ae d1[i]! d1[a]! with
     |true=>rw[mw hc A0J] at hi3;rw[hl] at l1;simp +decide (maxDischargeDepth:=200) only[go_sem,X1,X2,X3,bt,c1,c2,l1];refine⟨⟨i+1,A0b,A0b,hi3⟩,?_,?_,by simp only;omega⟩<;>simp +decide only[go_sem]<;>(repeat' first|rfl|constructor)
     |false=>rw[eZ A0J] at hi3;rw[hl] at l1;rw[<-hi3];simp +decide (maxDischargeDepth:=200) only[go_sem,X1,X2,X3,bt,c1,c2,l1]
   . have c1:decide (((i:Nat):Int)<=((b-1:Nat):Int))=false:=YA A0b;rw[eZ (fun h=>hc h.1)] at hi3;rw[<-hi3];simp +decide (maxDischargeDepth:=200) only[go_sem,X1,X2,X3,bt,c1]
 refine Sem.seq [(1,.x (.int .i64 (a:Int))),(4,.ptr 4 0),(10,.x (.int .i64 ((IF:Nat):Int))),(11,.x (.int .i64 ((JF:Nat):Int)))] [(4,[.x (.func (.func g) #[] gl),.x (.func (.func sf) #[] gs)]),(1004,aC d1)] (Sem.block (Sem.loop (X:={j:Nat//j<=b-1∧(IF<=j+1∨j=b-1)∧Go.Sort.scanDown (fun x=> !ae x d1[a]!) d1 IF j=JF}) (fun x=>[(1,.x (.int .i64 (a:Int))),(4,.ptr 4 0),(10,.x (.int .i64 ((IF:Nat):Int))),(11,.x (.int .i64 ((x.1:Nat):Int)))]) (fun _=>[(4,[.x (.func (.func g) #[] gl),.x (.func (.func sf) #[] gs)]),(1004,aC d1)]) (fun x=>x.1) ⟨b-1,A0b,A0b,hJF⟩ A0e A0e (fun⟨j,hj1,hj2,hj3⟩=>Sem.run hE ah A0a ?_))) ?_
 . simp only;by_cases hc:IF<=j
   . obtain⟨k,rfl⟩:∃k,j=k+1:=⟨j-1,A0b⟩;have c1:decide (((IF:Nat):Int)<=((k+1:Nat):Int))=true:=Yz A0b;have c2:aw .i64 (((k+1:Nat):Int)-1)=((k:Nat):Int):=by rw[ak A0h];omega
     have l1:=cC (N:=N) (k+1) a d1 A0b A0b hz1;cases hl:ae d1[k+1]! d1[a]! with
     |false=>rw[my hc A0J] at hj3;rw[hl] at l1;simp +decide (maxDischargeDepth:=200) only[go_sem,X1,X2,X3,bt,c1,c2,l1];refine⟨⟨k,A0b,A0b,hj3⟩,?_,?_,by simp only;omega⟩<;>simp +decide only[go_sem]<;>(repeat' first|rfl|constructor)
     |true=>rw[e7 A0J] at hj3;rw[hl] at l1;rw[<-hj3];simp +decide (maxDischargeDepth:=200) only[go_sem,X1,X2,X3,bt,c1,c2,l1]
   . have c1:decide (((IF:Nat):Int)<=((j:Nat):Int))=false:=YA A0b;rw[e7 (fun h=>hc h.1)] at hj3;rw[<-hj3];simp +decide (maxDischargeDepth:=200) only[go_sem,X1,X2,X3,bt,c1]
 by_cases hc:JF<IF
 . rw[CX hd1 hIF hJF hc];have c1:decide (((JF:Nat):Int)<((IF:Nat):Int))=true:=Yz A0b;have s1:=dw (N:=N) JF a d1 A0b A0b hz1;refine Sem.seq_out (Sem.run hE ah A0a ?_);simp +decide (maxDischargeDepth:=200) only[go_sem,X1,X2,X3,bt,c1,s1]
 . rw [KK hd1 hIF hJF hc];have c1:decide (((JF:Nat):Int)<((IF:Nat):Int))=false:=YA A0b;have c2:aw .i64 (((IF:Nat):Int)+1)=((IF+1:Nat):Int):=by rw[ak A0h];omega
   have c3:aw .i64 (((JF:Nat):Int)-1)=((JF-1:Nat):Int):=by rw[ak A0h];omega
   have s1:=dw (N:=N) IF JF d1 A0b A0b hz1;obtain⟨d2,hd2⟩:∃d2,swp d1 IF JF=d2:=⟨_,rfl⟩;have hz2:d2.size=N:=by rw[<-hd2,bF];exact hz1
   rw[hd2] at s1⊢;obtain⟨PL,hPL⟩:∃PL,Go.Sort.partLoop ae a (IF+1) (JF-1) d2=PL:=⟨_,rfl⟩;have bPL:=Sv (a:=a) _ (IF+1) (JF-1) d2 (YJ _) A0b A0b;rw[hPL] at bPL⊢;refine Sem.seq [(1,.x (.int .i64 (a:Int))),(4,.ptr 4 0),(10,.x (.int .i64 ((IF:Nat):Int))),(11,.x (.int .i64 ((JF:Nat):Int)))] [(4,[.x (.func (.func g) #[] gl),.x (.func (.func sf) #[] gs)]),(1004,aC d1)] (Sem.run hE ah A0a A0B) ?_;refine Sem.seq [(1,.x (.int .i64 (a:Int))),(4,.ptr 4 0),(10,.x (.int .i64 ((IF:Nat):Int))),(11,.x (.int .i64 ((JF:Nat):Int)))] [(4,[.x (.func (.func g) #[] gl),.x (.func (.func sf) #[] gs)]),(1004,aC d2)] (Sem.run hE ah A0a (by simp +decide (maxDischargeDepth:=200) only[go_sem,X1,X2,X3,bt,s1])) ?_;refine Sem.seq [(1,.x (.int .i64 (a:Int))),(4,.ptr 4 0),(10,.x (.int .i64 ((IF+1:Nat):Int))),(11,.x (.int .i64 ((JF:Nat):Int)))] [(4,[.x (.func (.func g) #[] gl),.x (.func (.func sf) #[] gs)]),(1004,aC d2)] (Sem.run hE ah A0a A01) ?_;refine Sem.seq [(1,.x (.int .i64 (a:Int))),(4,.ptr 4 0),(10,.x (.int .i64 ((IF+1:Nat):Int))),(11,.x (.int .i64 ((JF-1:Nat):Int)))] [(4,[.x (.func (.func g) #[] gl),.x (.func (.func sf) #[] gs)]),(1004,aC d2)] (Sem.run hE ah A0a (by simp +decide (maxDischargeDepth:=200) only[go_sem,X1,X2,X3,bt,c3])) ?_;refine Sem.seq [(1,.x (.int .i64 (a:Int))),(4,.ptr 4 0),(11,.x (.int .i64 ((PL.1:Nat):Int)))] [(4,[.x (.func (.func g) #[] gl),.x (.func (.func sf) #[] gs)]),(1004,aC PL.2)] (Sem.block (Sem.loop (X:={x:Nat×Nat×Array C3//a+1<=x.1∧x.1<=x.2.1+2∧x.2.1<b∧x.2.2.size=N∧Go.Sort.partLoop ae a x.1 x.2.1 x.2.2=PL}) (fun x=>[(1,.x (.int .i64 (a:Int))),(4,.ptr 4 0),(10,.x (.int .i64 ((x.1.1:Nat):Int))),(11,.x (.int .i64 ((x.1.2.1:Nat):Int)))]) (fun x=>[(4,[.x (.func (.func g) #[] gl),.x (.func (.func sf) #[] gs)]),(1004,aC x.1.2.2)]) (fun x=>x.1.2.1+1-x.1.1) ⟨(IF+1,JF-1,d2),by simp only;omega,by simp only;omega,by simp only;omega,hz2,hPL⟩ A0e A0e (fun⟨⟨i0,j0,dk⟩,hx1,hx2,hx3,hdk,heq⟩=>?_))) ?_
   . simp only at hx1 hx2 hx3 hdk heq⊢;refine Sem.block ?_;obtain⟨IL,hIL⟩:∃I,Go.Sort.scanUp (fun x=>ae x dk[a]!) dk (j0) (i0)=I:=⟨_,rfl⟩;obtain⟨JL,hJL⟩:∃J,Go.Sort.scanDown (fun x=> !ae x dk[a]!) dk IL (j0)=J:=⟨_,rfl⟩;have buL:=AA (p:=fun x=>ae x dk[a]!) (d:=dk) (j:=j0) _ (i0) (YJ _);rw[hIL] at buL;have bdL:=AB (p:=fun x=> !ae x dk[a]!) (d:=dk) (i:=IL) A0b (j0);rw[hJL] at bdL;refine Sem.seq [(1,.x (.int .i64 (a:Int))),(4,.ptr 4 0),(10,.x (.int .i64 ((IL:Nat):Int))),(11,.x (.int .i64 ((j0:Nat):Int)))] [(4,[.x (.func (.func g) #[] gl),.x (.func (.func sf) #[] gs)]),(1004,aC dk)] (Sem.block (Sem.loop (X:={i:Nat//i0<=i∧(i<=j0+1∨i=i0)∧Go.Sort.scanUp (fun x=>ae x dk[a]!) dk (j0) i=IL}) (fun x=>[(1,.x (.int .i64 (a:Int))),(4,.ptr 4 0),(10,.x (.int .i64 ((x.1:Nat):Int))),(11,.x (.int .i64 ((j0:Nat):Int)))]) (fun _=>[(4,[.x (.func (.func g) #[] gl),.x (.func (.func sf) #[] gs)]),(1004,aC dk)]) (fun x=>j0+1-x.1) ⟨i0,A0b,A0b,hIL⟩ A0e A0e (fun⟨i,hi1,hi2,hi3⟩=>Sem.run hE ah A0a ?_))) ?_
     . simp only;by_cases hc:i<=j0
       . have c1:decide (((i:Nat):Int)<=((j0:Nat):Int))=true:=Yz A0b;have c2:aw .i64 (((i:Nat):Int)+1)=((i+1:Nat):Int):=by rw[ak A0h];omega
         have l1:=cC (N:=N) i a dk A0b A0b hdk;cases hl:ae dk[i]! dk[a]! with
         |true=>rw[mw hc A0J] at hi3;rw[hl] at l1;simp +decide (maxDischargeDepth:=200) only[go_sem,X1,X2,X3,bt,c1,c2,l1];refine⟨⟨i+1,A0b,A0b,hi3⟩,?_,?_,by simp only;omega⟩<;>simp +decide only[go_sem]<;>(repeat' first|rfl|constructor)
         |false=>rw[eZ A0J] at hi3;rw[hl] at l1;rw[<-hi3];simp +decide (maxDischargeDepth:=200) only[go_sem,X1,X2,X3,bt,c1,c2,l1]
       . have c1:decide (((i:Nat):Int)<=((j0:Nat):Int))=false:=YA A0b;rw[eZ (fun h=>hc h.1)] at hi3;rw[<-hi3];simp +decide (maxDischargeDepth:=200) only[go_sem,X1,X2,X3,bt,c1]
     refine Sem.seq [(1,.x (.int .i64 (a:Int))),(4,.ptr 4 0),(10,.x (.int .i64 ((IL:Nat):Int))),(11,.x (.int .i64 ((JL:Nat):Int)))] [(4,[.x (.func (.func g) #[] gl),.x (.func (.func sf) #[] gs)]),(1004,aC dk)] (Sem.block (Sem.loop (X:={j:Nat//j<=j0∧(IL<=j+1∨j=j0)∧Go.Sort.scanDown (fun x=> !ae x dk[a]!) dk IL j=JL}) (fun x=>[(1,.x (.int .i64 (a:Int))),(4,.ptr 4 0),(10,.x (.int .i64 ((IL:Nat):Int))),(11,.x (.int .i64 ((x.1:Nat):Int)))]) (fun _=>[(4,[.x (.func (.func g) #[] gl),.x (.func (.func sf) #[] gs)]),(1004,aC dk)]) (fun x=>x.1) ⟨j0,A0b,A0b,hJL⟩ A0e A0e (fun⟨j,hj1,hj2,hj3⟩=>Sem.run hE ah A0a ?_))) ?_
     . simp only;by_cases hc:IL<=j
       . obtain⟨k,rfl⟩:∃k,j=k+1:=⟨j-1,A0b⟩;have c1:decide (((IL:Nat):Int)<=((k+1:Nat):Int))=true:=Yz A0b;have c2:aw .i64 (((k+1:Nat):Int)-1)=((k:Nat):Int):=by rw[ak A0h];omega
         have l1:=cC (N:=N) (k+1) a dk A0b A0b hdk;cases hl:ae dk[k+1]! dk[a]! with
         |false=>rw[my hc A0J] at hj3;rw[hl] at l1;simp +decide (maxDischargeDepth:=200) only[go_sem,X1,X2,X3,bt,c1,c2,l1];refine⟨⟨k,A0b,A0b,hj3⟩,?_,?_,by simp only;omega⟩<;>simp +decide only[go_sem]<;>(repeat' first|rfl|constructor)
         |true=>rw[e7 A0J] at hj3;rw[hl] at l1;rw[<-hj3];simp +decide (maxDischargeDepth:=200) only[go_sem,X1,X2,X3,bt,c1,c2,l1]
       . have c1:decide (((IL:Nat):Int)<=((j:Nat):Int))=false:=YA A0b;rw[e7 (fun h=>hc h.1)] at hj3;rw[<-hj3];simp +decide (maxDischargeDepth:=200) only[go_sem,X1,X2,X3,bt,c1]
     by_cases hc:JL<IL
     . rw[rq hIL hJL hc] at heq;have c1:decide (((JL:Nat):Int)<((IL:Nat):Int))=true:=Yz A0b;rw[<-heq];refine Sem.seq_out (Sem.run hE ah A0a ?_);simp +decide (maxDischargeDepth:=200) only[go_sem,X1,X2,X3,bt,c1]
     . rw[AC hIL hJL hc A0b] at heq;have c1:decide (((JL:Nat):Int)<((IL:Nat):Int))=false:=YA A0b;have c2:aw .i64 (((IL:Nat):Int)+1)=((IL+1:Nat):Int):=by rw[ak A0h];omega
       have c3:aw .i64 (((JL:Nat):Int)-1)=((JL-1:Nat):Int):=by rw[ak A0h];omega
       have s1:=dw (N:=N) IL JL dk A0b A0b hdk;refine Sem.run hE ah A0a ?_;simp +decide (maxDischargeDepth:=200) only[go_sem,X1,X2,X3,bt,c1,c2,c3,s1];refine⟨⟨(IL+1,JL-1,swp dk IL JL),by simp only;omega,by simp only;omega,by simp only;omega,by rw[bF];exact hdk,heq⟩,?_,?_,by simp only;omega⟩<;>simp +decide only[go_sem]<;>(repeat' first|rfl|constructor)
   have s3:=dw (N:=N) PL.1 a PL.2 A0b A0b A0b;refine Sem.run hE ah A0a ?_;simp +decide (maxDischargeDepth:=200) only[go_sem,X1,X2,X3,bt,s3]
theorem KL (hS:SoOK G bk N g sf gl gs):FunXV G bk 100 [] (FE (fG g sf gl gs) (nQ N)):=by
 obtain⟨X,hX,X1,X2,X3⟩:=iz hS [] trivial;have hN:=hS.N1;unfold MX at hN;refine cf (k:=4) hX Tryz.func100 rfl (fun a w=>Tryz.call100 a w) Tryz.ntmps100 A0c A0c ?_;clear hX;intro us r outs hF;obtain⟨⟨a,b,pv,d⟩,hus,hG⟩:=bE hF;clear hF;subst hus;unfold nQ at hG;obtain⟨⟨hap,hpb,hbN,hd⟩,hG⟩:=bX hG;simp only at hap hpb hbN hd;cases hG;refine⟨_,rfl,rfl,fun pm m0 w0 hE=>?_⟩;simp only[fG];have s0:=dw (N:=N) a pv d A0b A0b hd;obtain⟨d1,hd1⟩:∃d1,swp d a pv=d1:=⟨_,rfl⟩;have hz1:d1.size=N:=by rw[<-hd1,bF];exact hd
 rw[hd1] at s0;have w1:aw .i64 ((a:Int)+1)=((a+1:Nat):Int):=by rw[ak A0h];omega
 have w2:aw .i64 ((b:Int)-1)=((b-1:Nat):Int):=by rw[ak A0h];omega
 unfold Go.Sort.partitionEqual;rw[hd1];obtain⟨PL,hPL⟩:∃PL,Go.Sort.partEqLoop ae a (a+1) (b-1) d1=PL:=⟨_,rfl⟩;rw[hPL];refine Sem.seq [(1,.x (.int .i64 (a:Int))),(2,.x (.int .i64 (b:Int))),(3,.x (.int .i64 (pv:Int))),(4,.ptr 4 0)] [(4,[.x (.func (.func g) #[] gl),.x (.func (.func sf) #[] gs)]),(1004,aC d)] (Sem.run hE ah A0a A0m) ?_;refine Sem.seq [(1,.x (.int .i64 (a:Int))),(2,.x (.int .i64 (b:Int))),(3,.x (.int .i64 (pv:Int))),(4,.ptr 4 0)] [(4,[.x (.func (.func g) #[] gl),.x (.func (.func sf) #[] gs)]),(1004,aC d1)] (Sem.run hE ah A0a A00) ?_;refine Sem.seq [(1,.x (.int .i64 (a:Int))),(4,.ptr 4 0),(9,.x (.int .i64 ((a+1:Nat):Int))),(10,.x (.int .i64 ((b-1:Nat):Int)))] [(4,[.x (.func (.func g) #[] gl),.x (.func (.func sf) #[] gs)]),(1004,aC d1)] (Sem.run hE ah A0a A0X) ?_;refine Sem.seq [(9,.x (.int .i64 ((PL.1:Nat):Int)))] [(4,[.x (.func (.func g) #[] gl),.x (.func (.func sf) #[] gs)]),(1004,aC PL.2)] (Sem.block (Sem.loop (X:={x:Nat×Nat×Array C3//a+1<=x.1∧x.1<=x.2.1+2∧x.2.1<b∧x.2.2.size=N∧Go.Sort.partEqLoop ae a x.1 x.2.1 x.2.2=PL}) (fun x=>[(1,.x (.int .i64 (a:Int))),(4,.ptr 4 0),(9,.x (.int .i64 ((x.1.1:Nat):Int))),(10,.x (.int .i64 ((x.1.2.1:Nat):Int)))]) (fun x=>[(4,[.x (.func (.func g) #[] gl),.x (.func (.func sf) #[] gs)]),(1004,aC x.1.2.2)]) (fun x=>x.1.2.1+1-x.1.1) ⟨(a+1,b-1,d1),by simp only;omega,by simp only;omega,by simp only;omega,hz1,hPL⟩ A0e A0e (fun⟨⟨i0,j0,dk⟩,hx1,hx2,hx3,hdk,heq⟩=>?_))) ?_
 . simp only at hx1 hx2 hx3 hdk heq⊢;refine Sem.block ?_;obtain⟨IL,hIL⟩:∃I,Go.Sort.scanUp (fun x=> !ae dk[a]! x) dk (j0) (i0)=I:=⟨_,rfl⟩;obtain⟨JL,hJL⟩:∃J,Go.Sort.scanDown (fun x=>ae dk[a]! x) dk IL (j0)=J:=⟨_,rfl⟩;have buL:=AA (p:=fun x=> !ae dk[a]! x) (d:=dk) (j:=j0) _ (i0) (YJ _);rw[hIL] at buL;have bdL:=AB (p:=fun x=>ae dk[a]! x) (d:=dk) (i:=IL) A0b (j0);rw[hJL] at bdL;refine Sem.seq [(1,.x (.int .i64 (a:Int))),(4,.ptr 4 0),(9,.x (.int .i64 ((IL:Nat):Int))),(10,.x (.int .i64 ((j0:Nat):Int)))] [(4,[.x (.func (.func g) #[] gl),.x (.func (.func sf) #[] gs)]),(1004,aC dk)] (Sem.block (Sem.loop (X:={i:Nat//i0<=i∧(i<=j0+1∨i=i0)∧Go.Sort.scanUp (fun x=> !ae dk[a]! x) dk (j0) i=IL}) (fun x=>[(1,.x (.int .i64 (a:Int))),(4,.ptr 4 0),(9,.x (.int .i64 ((x.1:Nat):Int))),(10,.x (.int .i64 ((j0:Nat):Int)))]) (fun _=>[(4,[.x (.func (.func g) #[] gl),.x (.func (.func sf) #[] gs)]),(1004,aC dk)]) (fun x=>j0+1-x.1) ⟨i0,A0b,A0b,hIL⟩ A0e A0e (fun⟨i,hi1,hi2,hi3⟩=>Sem.run hE ah A0a ?_))) ?_
   . simp only;by_cases hc:i<=j0
     . have c1:decide (((i:Nat):Int)<=((j0:Nat):Int))=true:=Yz A0b;have c2:aw .i64 (((i:Nat):Int)+1)=((i+1:Nat):Int):=by rw[ak A0h];omega
       have l1:=cC (N:=N) a i dk A0b A0b hdk;cases hl:ae dk[a]! dk[i]! with
       |false=>rw[mw hc A0J] at hi3;rw[hl] at l1;simp +decide (maxDischargeDepth:=200) only[go_sem,X1,X2,X3,bt,c1,c2,l1];refine⟨⟨i+1,A0b,A0b,hi3⟩,?_,?_,by simp only;omega⟩<;>simp +decide only[go_sem]<;>(repeat' first|rfl|constructor)
       |true=>rw[eZ A0J] at hi3;rw[hl] at l1;rw[<-hi3];simp +decide (maxDischargeDepth:=200) only[go_sem,X1,X2,X3,bt,c1,c2,l1]
     . have c1:decide (((i:Nat):Int)<=((j0:Nat):Int))=false:=YA A0b;rw[eZ (fun h=>hc h.1)] at hi3;rw[<-hi3];simp +decide (maxDischargeDepth:=200) only[go_sem,X1,X2,X3,bt,c1]
   refine Sem.seq [(1,.x (.int .i64 (a:Int))),(4,.ptr 4 0),(9,.x (.int .i64 ((IL:Nat):Int))),(10,.x (.int .i64 ((JL:Nat):Int)))] [(4,[.x (.func (.func g) #[] gl),.x (.func (.func sf) #[] gs)]),(1004,aC dk)] (Sem.block (Sem.loop (X:={j:Nat//j<=j0∧(IL<=j+1∨j=j0)∧Go.Sort.scanDown (fun x=>ae dk[a]! x) dk IL j=JL}) (fun x=>[(1,.x (.int .i64 (a:Int))),(4,.ptr 4 0),(9,.x (.int .i64 ((IL:Nat):Int))),(10,.x (.int .i64 ((x.1:Nat):Int)))]) (fun _=>[(4,[.x (.func (.func g) #[] gl),.x (.func (.func sf) #[] gs)]),(1004,aC dk)]) (fun x=>x.1) ⟨j0,A0b,A0b,hJL⟩ A0e A0e (fun⟨j,hj1,hj2,hj3⟩=>Sem.run hE ah A0a ?_))) ?_
   . simp only;by_cases hc:IL<=j
     . obtain⟨k,rfl⟩:∃k,j=k+1:=⟨j-1,A0b⟩;have c1:decide (((IL:Nat):Int)<=((k+1:Nat):Int))=true:=Yz A0b;have c2:aw .i64 (((k+1:Nat):Int)-1)=((k:Nat):Int):=by rw[ak A0h];omega
       have l1:=cC (N:=N) a (k+1) dk A0b A0b hdk;cases hl:ae dk[a]! dk[k+1]! with
       |true=>rw[my hc A0J] at hj3;rw[hl] at l1;simp +decide (maxDischargeDepth:=200) only[go_sem,X1,X2,X3,bt,c1,c2,l1];refine⟨⟨k,A0b,A0b,hj3⟩,?_,?_,by simp only;omega⟩<;>simp +decide only[go_sem]<;>(repeat' first|rfl|constructor)
       |false=>rw[e7 A0J] at hj3;rw[hl] at l1;rw[<-hj3];simp +decide (maxDischargeDepth:=200) only[go_sem,X1,X2,X3,bt,c1,c2,l1]
     . have c1:decide (((IL:Nat):Int)<=((j:Nat):Int))=false:=YA A0b;rw[e7 (fun h=>hc h.1)] at hj3;rw[<-hj3];simp +decide (maxDischargeDepth:=200) only[go_sem,X1,X2,X3,bt,c1]
   by_cases hc:JL<IL
   . rw[KH hIL hJL hc] at heq;have c1:decide (((JL:Nat):Int)<((IL:Nat):Int))=true:=Yz A0b;rw[<-heq];refine Sem.seq_out (Sem.run hE ah A0a ?_);simp +decide (maxDischargeDepth:=200) only[go_sem,X1,X2,X3,bt,c1]
   . rw[KJ hIL hJL hc A0b] at heq;have c1:decide (((JL:Nat):Int)<((IL:Nat):Int))=false:=YA A0b;have c2:aw .i64 (((IL:Nat):Int)+1)=((IL+1:Nat):Int):=by rw[ak A0h];omega
     have c3:aw .i64 (((JL:Nat):Int)-1)=((JL-1:Nat):Int):=by rw[ak A0h];omega
     have s1:=dw (N:=N) IL JL dk A0b A0b hdk;refine Sem.run hE ah A0a ?_;simp +decide (maxDischargeDepth:=200) only[go_sem,X1,X2,X3,bt,c1,c2,c3,s1];refine⟨⟨(IL+1,JL-1,swp dk IL JL),by simp only;omega,by simp only;omega,by simp only;omega,by rw[bF];exact hdk,heq⟩,?_,?_,by simp only;omega⟩<;>simp +decide only[go_sem]<;>(repeat' first|rfl|constructor)
 refine Sem.run hE ah A0a ?_;simp +decide (maxDischargeDepth:=200) only[go_sem,X1,X2,X3,bt]
theorem AD {i:Nat} (h:i<b) (hl:ae d[i]! d[i-1]! =false):Go.Sort.scanSorted ae d b i=Go.Sort.scanSorted ae d b (i+1):=by rw[Go.Sort.scanSorted,YG (by rw[hl];simpa using h)]
theorem mz {i:Nat} (h: ¬(i<b∧ae d[i]! d[i-1]! =false)):Go.Sort.scanSorted ae d b i=i:=by rw[Go.Sort.scanSorted,YL (by simpa using h)]
theorem Sw:∀(n i:Nat),b-i<=n->i<=b->i<=Go.Sort.scanSorted ae d b i∧Go.Sort.scanSorted ae d b i<=b:=by
 intro n
 induction n with
 |zero=>intro i h hi;rw[mz A0b];omega
 | succ n ih=>
   intro i h hi;by_cases h0:i<b∧ae d[i]! d[i-1]! =false
   . rw[AD h0.1 h0.2];have:=ih (i+1) A0b A0b;omega
   . rw[mz h0];omega
theorem um:∀(j:Nat) (d:Array C3),(Go.Sort.shiftDown ae j d).size=d.size
 |0,d=>rfl
 | j+1,d=>by
   rw[Go.Sort.shiftDown];split
   . rfl
   . rw[um j,bF]
theorem GB (b:Nat):∀(n j:Nat) (d:Array C3),b-j<=n->(Go.Sort.shiftUp ae b j d).size=d.size:=by
 intro n
 induction n with
 |zero=>intro j d h;rw[Go.Sort.shiftUp,YL A0b]
 | succ n ih=>
   intro j d h;rw[Go.Sort.shiftUp];split
   . split
     . rfl
     . rw[ih _ _ A0b,bF]
   . rfl
section
variable {a b s i I:Nat} {d:Array C3}
theorem Xp (hI:Go.Sort.scanSorted ae d b i=I) (h:I=b):Go.Sort.partialIns ae a b (s+1) i d=(d,true):=by rw[Go.Sort.partialIns];simp only[hI,h,YX]
theorem Xq (hI:Go.Sort.scanSorted ae d b i=I) (h: ¬I=b) (h2:b-a<50):Go.Sort.partialIns ae a b (s+1) i d=(d,false):=by rw[Go.Sort.partialIns];simp only[hI,h,YU,h2,YX]
theorem Xr (hI:Go.Sort.scanSorted ae d b i=I) (h: ¬I=b) (h2: ¬b-a<50):Go.Sort.partialIns ae a b (s+1) i d=Go.Sort.partialIns ae a b s I (if b-I≥2 then Go.Sort.shiftUp ae b (I+1) (if I-a≥2 then Go.Sort.shiftDown ae (I-1) (swp d I (I-1)) else swp d I (I-1)) else (if I-a≥2 then Go.Sort.shiftDown ae (I-1) (swp d I (I-1)) else swp d I (I-1))):=by rw[Go.Sort.partialIns];simp only[hI,h,YU,h2]
end
def un (N:Nat) (x:Nat×Nat×Array C3):Option (V×List (List V)):=if x.1<x.2.1∧x.2.1<=N∧x.2.2.size=N then some (.x (.bool (Go.Sort.partialInsertionSort ae x.2.2 x.1 x.2.1).2),[aC (Go.Sort.partialInsertionSort ae x.2.2 x.1 x.2.1).1]) else none
def GC (N:Nat) (x:Nat×Nat×Array C3):Option (V×List (List V)):=if x.1<x.2.1∧x.2.1<=N∧x.2.2.size=N then some (.tup [],[aC (Go.Sort.reverseRange x.2.2 x.1 x.2.1)]) else none
theorem ND (hS:SoOK G bk N g sf gl gs):FunXV G bk 99 [] (FE (dW g sf gl gs) (un N)):=by
 obtain⟨X,hX,X1,X2,X3⟩:=iz hS [] trivial;have hN:=hS.N1;unfold MX at hN;refine cf (k:=3) hX Tryz.func99 rfl (fun a w=>Tryz.call99 a w) Tryz.ntmps99 A0c A0c ?_;clear hX;intro us r outs hF;obtain⟨⟨a,b,d⟩,hus,hG⟩:=bE hF;clear hF;subst hus;unfold un at hG;obtain⟨⟨hab,hbN,hd⟩,hG⟩:=bX hG;simp only at hab hbN hd;cases hG;refine⟨_,rfl,rfl,fun pm m0 w0 hE=>?_⟩;simp only[dW];have w1:aw .i64 ((a:Int)+1)=((a+1:Nat):Int):=by rw[ak A0h];omega
 unfold Go.Sort.partialInsertionSort;obtain⟨PI,hPI⟩:∃PI,Go.Sort.partialIns ae a b 5 (a+1) d=PI:=⟨_,rfl⟩;rw[hPI];refine Sem.seq [(1,.x (.int .i64 (a:Int))),(2,.x (.int .i64 (b:Int))),(3,.ptr 3 0)] [(3,[.x (.func (.func g) #[] gl),.x (.func (.func sf) #[] gs)]),(1003,aC d)] (Sem.run hE ah A0a A0m) ?_;refine Sem.seq [(1,.x (.int .i64 (a:Int))),(2,.x (.int .i64 (b:Int))),(3,.ptr 3 0),(7,.x (.int .i64 ((a+1:Nat):Int)))] [(3,[.x (.func (.func g) #[] gl),.x (.func (.func sf) #[] gs)]),(1003,aC d)] (Sem.run hE ah A0a A0Z) ?_;refine Sem.seqQ (PI.2=false) [] [(3,[.x (.func (.func g) #[] gl),.x (.func (.func sf) #[] gs)]),(1003,aC PI.1)] ?_ (fun hf=>?_)
 rotate_left
 . refine Sem.run hE ah A0a ?_;simp +decide (maxDischargeDepth:=200) only[go_sem,X1,X2,X3,bt,hf]
 refine Sem.seq [(1,.x (.int .i64 (a:Int))),(2,.x (.int .i64 (b:Int))),(3,.ptr 3 0),(7,.x (.int .i64 ((a+1:Nat):Int))),(8,.x (.int .i64 (0)))] [(3,[.x (.func (.func g) #[] gl),.x (.func (.func sf) #[] gs)]),(1003,aC d)] (Sem.run hE ah A0a A0m) ?_;refine Sem.block (Sem.loop (X:={x:Nat×Nat×Array C3//x.1<=5∧a+1<=x.2.1∧x.2.1<=b∧x.2.2.size=N∧Go.Sort.partialIns ae a b x.1 x.2.1 x.2.2=PI}) (fun x=>[(1,.x (.int .i64 (a:Int))),(2,.x (.int .i64 (b:Int))),(3,.ptr 3 0),(7,.x (.int .i64 ((x.1.2.1:Nat):Int))),(8,.x (.int .i64 (5-(x.1.1:Int))))]) (fun x=>[(3,[.x (.func (.func g) #[] gl),.x (.func (.func sf) #[] gs)]),(1003,aC x.1.2.2)]) (fun x=>x.1.1) ⟨(5,a+1,d),by simp only;omega,by simp only;omega,by simp only;omega,hd,hPI⟩ A0e A0e (fun⟨⟨s,i0,d0⟩,hs,hi1,hi2,hd0,heq⟩=>?_));simp only at hs hi1 hi2 hd0 heq⊢;cases s with
 |zero=>have c0:decide (5-((0:Nat):Int)<5)=false:=YA A0b;rw[Go.Sort.partialIns] at heq;rw[<-heq];refine Sem.seq_out (Sem.run hE ah A0a ?_);simp +decide (maxDischargeDepth:=200) only[go_sem,X1,X2,X3,bt,c0]
 | succ s=>
   have c0:decide (5-((s+1:Nat):Int)<5)=true:=Yz A0b;have e0:aw .i64 (5-((s+1:Nat):Int)+1)=5-((s:Nat):Int):=by rw[ak A0h];omega
   refine Sem.seq [(1,.x (.int .i64 (a:Int))),(2,.x (.int .i64 (b:Int))),(3,.ptr 3 0),(7,.x (.int .i64 ((i0:Nat):Int))),(8,.x (.int .i64 (5-((s+1:Nat):Int))))] [(3,[.x (.func (.func g) #[] gl),.x (.func (.func sf) #[] gs)]),(1003,aC d0)] (Sem.run hE ah A0a (by simp +decide (maxDischargeDepth:=200) only[go_sem,X1,X2,X3,bt,c0])) ?_;obtain⟨I,hI⟩:∃I,Go.Sort.scanSorted ae d0 b i0=I:=⟨_,rfl⟩;have bI:=Sw (d:=d0) (b:=b) _ i0 (YJ _) hi2;rw[hI] at bI;obtain⟨D0,hD0⟩:∃D0,swp d0 I (I-1)=D0:=⟨_,rfl⟩;obtain⟨D1,hD1⟩:∃D1,(if I-a≥2 then Go.Sort.shiftDown ae (I-1) D0 else D0)=D1:=⟨_,rfl⟩;obtain⟨D2,hD2⟩:∃D2,(if b-I≥2 then Go.Sort.shiftUp ae b (I+1) D1 else D1)=D2:=⟨_,rfl⟩;have z0:D0.size=N:=by rw[<-hD0,bF];exact hd0
   have z1:D1.size=N:=by
    rw[<-hD1];split
    . rw[um];exact z0
    . exact z0
   have z2:D2.size=N:=by
    rw[<-hD2];split
    . rw[GB _ _ _ _ (YJ _)];exact z1
    . exact z1
   obtain⟨Q,hQ1,hQ2⟩:∃Q:Prop,(Q-> ¬I=b∧ ¬b-a<50)∧(¬I=b-> ¬b-a<50->Q):=⟨_,id,fun h1 h2=>⟨h1,h2⟩⟩;refine Sem.seqQ Q [(1,.x (.int .i64 (a:Int))),(2,.x (.int .i64 (b:Int))),(3,.ptr 3 0),(7,.x (.int .i64 ((I:Nat):Int))),(8,.x (.int .i64 (5-((s+1:Nat):Int))))] [(3,[.x (.func (.func g) #[] gl),.x (.func (.func sf) #[] gs)]),(1003,aC D2)] (Sem.block ?_) (fun hQ=>?_)
   rotate_left
   . have hQ:=hQ1 hQ;rw[Xr hI hQ.1 hQ.2,hD0,hD1,hD2] at heq;refine Sem.run hE ah A0a ?_;simp +decide (maxDischargeDepth:=200) only[go_sem,X1,X2,X3,bt,e0];refine⟨⟨(s,I,D2),by simp only;omega,by simp only;omega,by simp only;omega,z2,heq⟩,?_,?_,by simp only;omega⟩<;>simp +decide only[go_sem]<;>(repeat' first|rfl|constructor)
   refine Sem.seq [(1,.x (.int .i64 (a:Int))),(2,.x (.int .i64 (b:Int))),(3,.ptr 3 0),(7,.x (.int .i64 ((I:Nat):Int))),(8,.x (.int .i64 (5-((s+1:Nat):Int))))] [(3,[.x (.func (.func g) #[] gl),.x (.func (.func sf) #[] gs)]),(1003,aC d0)] (Sem.block (Sem.loop (X:={i:Nat//i0<=i∧i<=b∧Go.Sort.scanSorted ae d0 b i=I}) (fun x=>[(1,.x (.int .i64 (a:Int))),(2,.x (.int .i64 (b:Int))),(3,.ptr 3 0),(7,.x (.int .i64 ((x.1:Nat):Int))),(8,.x (.int .i64 (5-((s+1:Nat):Int))))]) (fun _=>[(3,[.x (.func (.func g) #[] gl),.x (.func (.func sf) #[] gs)]),(1003,aC d0)]) (fun x=>b-x.1) ⟨i0,A0b,A0b,hI⟩ A0e A0e (fun⟨i,hi1,hi2,hi3⟩=>Sem.run hE ah A0a ?_))) ?_
   . simp only;by_cases hc:i<b
     . have c1:decide (((i:Nat):Int)<((b:Nat):Int))=true:=Yz A0b;have c2:aw .i64 (((i:Nat):Int)+1)=((i+1:Nat):Int):=by rw[ak A0h];omega
       have c3:aw .i64 (((i:Nat):Int)-1)=((i-1:Nat):Int):=by rw[ak A0h];omega
       have l1:=cC (N:=N) i (i-1) d0 A0b A0b hd0;cases hl:ae d0[i]! d0[i-1]! with
       |false=>rw[AD hc hl] at hi3;rw[hl] at l1;simp +decide (maxDischargeDepth:=200) only[go_sem,X1,X2,X3,bt,c1,c2,c3,l1];refine⟨⟨i+1,A0b,A0b,hi3⟩,?_,?_,by simp only;omega⟩<;>simp +decide only[go_sem]<;>(repeat' first|rfl|constructor)
       |true=>rw[mz (by rw[hl];simp)] at hi3;rw[hl] at l1;rw[<-hi3];simp +decide (maxDischargeDepth:=200) only[go_sem,X1,X2,X3,bt,c1,c2,c3,l1]
     . have c1:decide (((i:Nat):Int)<((b:Nat):Int))=false:=YA A0b;rw[mz (fun h=>hc h.1)] at hi3;rw[<-hi3];simp +decide (maxDischargeDepth:=200) only[go_sem,X1,X2,X3,bt,c1]
   by_cases hIb:I=b
   . rw[Xp hI hIb] at heq;have c1:decide (((I:Nat):Int)=((b:Nat):Int))=true:=Yz A0b;rw[<-heq];refine Sem.seq_out (Sem.run hE ah A0a ?_);simp +decide (maxDischargeDepth:=200) only[go_sem,X1,X2,X3,bt,c1]
   have c1:decide (((I:Nat):Int)=((b:Nat):Int))=false:=YA A0b;have w2:aw .i64 ((b:Int)-(a:Int))=((b-a:Nat):Int):=by rw[ak A0h];omega
   refine Sem.seq [(1,.x (.int .i64 (a:Int))),(2,.x (.int .i64 (b:Int))),(3,.ptr 3 0),(7,.x (.int .i64 ((I:Nat):Int))),(8,.x (.int .i64 (5-((s+1:Nat):Int))))] [(3,[.x (.func (.func g) #[] gl),.x (.func (.func sf) #[] gs)]),(1003,aC d0)] (Sem.run hE ah A0a A0B) ?_;by_cases h50:b-a<50
   . rw[Xq hI hIb h50] at heq;have c2:decide (((b-a:Nat):Int)<50)=true:=Yz A0b;rw[<-heq];refine Sem.seq_out (Sem.run hE ah A0a ?_);simp +decide (maxDischargeDepth:=200) only[go_sem,X1,X2,X3,bt,w2,c2]
   have c2:decide (((b-a:Nat):Int)<50)=false:=YA A0b;have q:=hQ2 hIb h50;have w3:aw .i64 ((I:Int)-1)=((I-1:Nat):Int):=by rw[ak A0h];omega
   have w4:aw .i64 ((I:Int)-(a:Int))=((I-a:Nat):Int):=by rw[ak A0h];omega
   have w5:aw .i64 ((b:Int)-(I:Int))=((b-I:Nat):Int):=by rw[ak A0h];omega
   have w6:aw .i64 ((I:Int)+1)=((I+1:Nat):Int):=by rw[ak A0h];omega
   have s1:=dw (N:=N) I (I-1) d0 A0b A0b hd0;rw[hD0] at s1;refine Sem.seq [(1,.x (.int .i64 (a:Int))),(2,.x (.int .i64 (b:Int))),(3,.ptr 3 0),(7,.x (.int .i64 ((I:Nat):Int))),(8,.x (.int .i64 (5-((s+1:Nat):Int))))] [(3,[.x (.func (.func g) #[] gl),.x (.func (.func sf) #[] gs)]),(1003,aC d0)] (Sem.run hE ah A0a (by simp +decide (maxDischargeDepth:=200) only[go_sem,X1,X2,X3,bt,w2,c2])) ?_;refine Sem.seq [(1,.x (.int .i64 (a:Int))),(2,.x (.int .i64 (b:Int))),(3,.ptr 3 0),(7,.x (.int .i64 ((I:Nat):Int))),(8,.x (.int .i64 (5-((s+1:Nat):Int))))] [(3,[.x (.func (.func g) #[] gl),.x (.func (.func sf) #[] gs)]),(1003,aC D0)] (Sem.run hE ah A0a (by simp +decide (maxDischargeDepth:=200) only[go_sem,X1,X2,X3,bt,w3,s1])) ?_;refine Sem.seq [(1,.x (.int .i64 (a:Int))),(2,.x (.int .i64 (b:Int))),(3,.ptr 3 0),(7,.x (.int .i64 ((I:Nat):Int))),(8,.x (.int .i64 (5-((s+1:Nat):Int))))] [(3,[.x (.func (.func g) #[] gl),.x (.func (.func sf) #[] gs)]),(1003,aC D1)] ?_ ?_
   . by_cases h2:I-a≥2
     . rw[YG h2] at hD1;have c3:decide (2<=((I-a:Nat):Int))=true:=Yz A0b;refine Sem.seq [(1,.x (.int .i64 (a:Int))),(2,.x (.int .i64 (b:Int))),(3,.ptr 3 0),(7,.x (.int .i64 ((I:Nat):Int))),(8,.x (.int .i64 (5-((s+1:Nat):Int)))),(47,.x (.bool true))] [(3,[.x (.func (.func g) #[] gl),.x (.func (.func sf) #[] gs)]),(1003,aC D0)] (Sem.run hE ah A0a (by simp +decide (maxDischargeDepth:=200) only[go_sem,X1,X2,X3,bt,w4,c3])) ?_;refine Sem.cond (t:=true) A0m (fun _=>?_) (fun h=>by cases h);refine Sem.seq [(1,.x (.int .i64 (a:Int))),(2,.x (.int .i64 (b:Int))),(3,.ptr 3 0),(7,.x (.int .i64 ((I:Nat):Int))),(8,.x (.int .i64 (5-((s+1:Nat):Int)))),(9,.x (.int .i64 ((I-1:Nat):Int)))] [(3,[.x (.func (.func g) #[] gl),.x (.func (.func sf) #[] gs)]),(1003,aC D0)] (Sem.run hE ah A0a (by simp +decide (maxDischargeDepth:=200) only[go_sem,X1,X2,X3,bt,w3])) ?_;refine Sem.block (Sem.loop (X:={x:Nat×Array C3//x.1<=I-1∧x.2.size=N∧Go.Sort.shiftDown ae x.1 x.2=D1}) (fun x=>[(1,.x (.int .i64 (a:Int))),(2,.x (.int .i64 (b:Int))),(3,.ptr 3 0),(7,.x (.int .i64 ((I:Nat):Int))),(8,.x (.int .i64 (5-((s+1:Nat):Int)))),(9,.x (.int .i64 ((x.1.1:Nat):Int)))]) (fun x=>[(3,[.x (.func (.func g) #[] gl),.x (.func (.func sf) #[] gs)]),(1003,aC x.1.2)]) (fun x=>x.1.1) ⟨(I-1,D0),by simp only;omega,z0,hD1⟩ A0e A0e (fun⟨⟨j,dj⟩,hj1,hj2,hj3⟩=>Sem.run hE ah A0a ?_));simp only at hj1 hj2 hj3⊢;cases j with
       |zero=>have c4:decide (1<=((0:Nat):Int))=false:=YA A0b;rw[Go.Sort.shiftDown] at hj3;rw[<-hj3];simp +decide (maxDischargeDepth:=200) only[go_sem,X1,X2,X3,bt,c4]
       | succ j=>
         have c4:decide (1<=((j+1:Nat):Int))=true:=Yz A0b;have c5:aw .i64 (((j+1:Nat):Int)-1)=((j:Nat):Int):=by rw[ak A0h];omega
         have l1:=cC (N:=N) (j+1) j dj A0b A0b hj2;have s2:=dw (N:=N) (j+1) j dj A0b A0b hj2;rw[Go.Sort.shiftDown] at hj3;cases hl:ae dj[j+1]! dj[j]! with
         |false=>rw[hl] at l1 hj3;simp only[aa2,YX] at hj3;rw[<-hj3];simp +decide (maxDischargeDepth:=200) only[go_sem,X1,X2,X3,bt,c4,c5,l1]
         |true=>rw[hl] at l1 hj3;simp only[aao,Y2,YU] at hj3;simp +decide (maxDischargeDepth:=200) only[go_sem,X1,X2,X3,bt,c4,c5,l1,s2];refine⟨⟨(j,swp dj (j+1) j),by simp only;omega,by rw[bF];exact hj2,hj3⟩,?_,?_,by simp only;omega⟩<;>simp +decide only[go_sem]<;>(repeat' first|rfl|constructor)
     . rw[YL h2] at hD1;have c3:decide (2<=((I-a:Nat):Int))=false:=YA A0b;rw[<-hD1];refine Sem.run hE ah A0a ?_;simp +decide (maxDischargeDepth:=200) only[go_sem,X1,X2,X3,bt,w4,c3]
   by_cases h2:b-I≥2
   . rw[YG h2] at hD2;have c3:decide (2<=((b-I:Nat):Int))=true:=Yz A0b;refine Sem.seq [(1,.x (.int .i64 (a:Int))),(2,.x (.int .i64 (b:Int))),(3,.ptr 3 0),(7,.x (.int .i64 ((I:Nat):Int))),(8,.x (.int .i64 (5-((s+1:Nat):Int)))),(70,.x (.bool true))] [(3,[.x (.func (.func g) #[] gl),.x (.func (.func sf) #[] gs)]),(1003,aC D1)] (Sem.run hE ah A0a (by simp +decide (maxDischargeDepth:=200) only[go_sem,X1,X2,X3,bt,w5,c3])) ?_;refine Sem.cond (t:=true) A0m (fun _=>?_) (fun h=>by cases h);refine Sem.seq [(1,.x (.int .i64 (a:Int))),(2,.x (.int .i64 (b:Int))),(3,.ptr 3 0),(7,.x (.int .i64 ((I:Nat):Int))),(8,.x (.int .i64 (5-((s+1:Nat):Int)))),(10,.x (.int .i64 ((I+1:Nat):Int)))] [(3,[.x (.func (.func g) #[] gl),.x (.func (.func sf) #[] gs)]),(1003,aC D1)] (Sem.run hE ah A0a (by simp +decide (maxDischargeDepth:=200) only[go_sem,X1,X2,X3,bt,w6])) ?_;refine Sem.block (Sem.loop (X:={x:Nat×Array C3//I+1<=x.1∧x.1<=b∧x.2.size=N∧Go.Sort.shiftUp ae b x.1 x.2=D2}) (fun x=>[(1,.x (.int .i64 (a:Int))),(2,.x (.int .i64 (b:Int))),(3,.ptr 3 0),(7,.x (.int .i64 ((I:Nat):Int))),(8,.x (.int .i64 (5-((s+1:Nat):Int)))),(10,.x (.int .i64 ((x.1.1:Nat):Int)))]) (fun x=>[(3,[.x (.func (.func g) #[] gl),.x (.func (.func sf) #[] gs)]),(1003,aC x.1.2)]) (fun x=>b-x.1.1) ⟨(I+1,D1),by simp only;omega,by simp only;omega,z1,hD2⟩ A0e A0e (fun⟨⟨j,dj⟩,hj0,hj1,hj2,hj3⟩=>Sem.run hE ah A0a ?_));simp only at hj0 hj1 hj2 hj3⊢;rw[Go.Sort.shiftUp] at hj3;by_cases hjb:j<b
     . have c4:decide (((j:Nat):Int)<((b:Nat):Int))=true:=Yz A0b;have c5:aw .i64 (((j:Nat):Int)-1)=((j-1:Nat):Int):=by rw[ak A0h];omega
       have c6:aw .i64 (((j:Nat):Int)+1)=((j+1:Nat):Int):=by rw[ak A0h];omega
       have l1:=cC (N:=N) j (j-1) dj A0b A0b hj2;have s2:=dw (N:=N) j (j-1) dj A0b A0b hj2;rw[YG hjb] at hj3;cases hl:ae dj[j]! dj[j-1]! with
       |false=>rw[hl] at l1 hj3;simp only[aa2,YX] at hj3;rw[<-hj3];simp +decide (maxDischargeDepth:=200) only[go_sem,X1,X2,X3,bt,c4,c5,l1,q]
       |true=>rw[hl] at l1 hj3;simp only[aao,Y2,YU] at hj3;simp +decide (maxDischargeDepth:=200) only[go_sem,X1,X2,X3,bt,c4,c5,c6,l1,s2];refine⟨⟨(j+1,swp dj j (j-1)),by simp only;omega,by simp only;omega,by rw[bF];exact hj2,hj3⟩,?_,?_,by simp only;omega⟩<;>simp +decide only[go_sem]<;>(repeat' first|rfl|constructor)
     . have c4:decide (((j:Nat):Int)<((b:Nat):Int))=false:=YA A0b;rw[YL hjb] at hj3;rw[<-hj3];simp +decide (maxDischargeDepth:=200) only[go_sem,X1,X2,X3,bt,c4,q]
   . rw[YL h2] at hD2;have c3:decide (2<=((b-I:Nat):Int))=false:=YA A0b;rw[<-hD2];refine Sem.run hE ah A0a ?_;simp +decide (maxDischargeDepth:=200) only[go_sem,X1,X2,X3,bt,w5,c3,q]
theorem Sx (hS:SoOK G bk N g sf gl gs):FunXV G bk 98 [] (FE (dW g sf gl gs) (GC N)):=by
 obtain⟨X,hX,X1,X2,X3⟩:=iz hS [] trivial;have hN:=hS.N1;unfold MX at hN;refine cf (k:=3) hX Tryz.func98 rfl (fun a w=>Tryz.call98 a w) Tryz.ntmps98 A0c A0c ?_;clear hX;intro us r outs hF;obtain⟨⟨a,b,d⟩,hus,hG⟩:=bE hF;clear hF;subst hus;unfold GC at hG;obtain⟨⟨hab,hbN,hd⟩,hG⟩:=bX hG;simp only at hab hbN hd;cases hG;refine⟨_,rfl,rfl,fun pm m0 w0 hE=>?_⟩;simp only[dW];have w1:aw .i64 ((b:Int)-1)=((b-1:Nat):Int):=by rw[ak A0h];omega
 refine Sem.run hE ah A0a ?_;simp +decide (maxDischargeDepth:=200) only[go_sem,X1,X2,X3,bt,w1];refine bc (X:={x:Nat×Nat×Array C3//x.1<=N∧x.2.1<N∧x.2.2.size=N∧Go.Sort.reverseLoop x.1 x.2.1 x.2.2=Go.Sort.reverseRange d a b}) (fun x=>[(3,.ptr 3 0),(6,.x (.int .i64 ((x.1.1:Nat):Int))),(7,.x (.int .i64 ((x.1.2.1:Nat):Int)))]) (fun x=>[(3,[.x (.func (.func g) #[] gl),.x (.func (.func sf) #[] gs)]),(1003,aC x.1.2.2)]) (fun x=>x.1.2.1-x.1.1) ⟨(a,b-1,d),by simp only;omega,by simp only;omega,hd,rfl⟩ A0e A0e (fun⟨⟨i,j,dk⟩,hi,hj,hdk,heq⟩=>?_);simp only at hi hj hdk heq;by_cases hc:i<j
 . have c1:decide (((i:Nat):Int)<((j:Nat):Int))=true:=Yz A0b;have c2:aw .i64 (((i:Nat):Int)+1)=((i+1:Nat):Int):=by rw[ak A0h];omega
   have c3:aw .i64 (((j:Nat):Int)-1)=((j-1:Nat):Int):=by rw[ak A0h];omega
   have s1:=dw (N:=N) i j dk A0b A0b hdk;rw[Go.Sort.reverseLoop,YG hc] at heq;simp +decide (maxDischargeDepth:=200) only[go_sem,X1,X2,X3,bt,c1,c2,c3,s1];refine⟨⟨(i+1,j-1,swp dk i j),by simp only;omega,by simp only;omega,by rw[bF];exact hdk,heq⟩,?_,?_,by simp only;omega⟩<;>simp +decide only[go_sem]<;>(repeat' first|rfl|constructor)
 . have c1:decide (((i:Nat):Int)<((j:Nat):Int))=false:=YA A0b;rw[Go.Sort.reverseLoop,YL hc] at heq;subst heq;simp +decide (maxDischargeDepth:=200) only[go_sem,X1,X2,X3,bt,c1]
theorem uo (d:Array C3) (a b s M:Nat) (ha:a<M) (hb:b<M):(Go.Sort.order2 ae d a b s).1<M∧(Go.Sort.order2 ae d a b s).2.1<M∧(Go.Sort.order2 ae d a b s).2.2<=s+1:=by unfold Go.Sort.order2;split<;>exact⟨by assumption,by assumption,by simp only;omega⟩
theorem GD (d:Array C3) (a b c s M:Nat) (ha:a<M) (hb:b<M) (hc:c<M):(Go.Sort.median ae d a b c s).1<M∧(Go.Sort.median ae d a b c s).2<=s+3:=by unfold Go.Sort.median;simp only;have h1:=uo d a b s M ha hb;have h2:=uo d _ c (Go.Sort.order2 ae d a b s).2.2 M h1.2.1 hc;have h3:=uo d _ _ (Go.Sort.order2 ae d (Go.Sort.order2 ae d a b s).2.1 c (Go.Sort.order2 ae d a b s).2.2).2.2 M h1.1 h2.1;exact⟨h3.2.1,A0b⟩
def Sy (N:Nat) (x:Nat×Nat×Nat×Array C3):Option (V×List (List V)):=if x.1<N∧x.2.1<N∧x.2.2.1<=1000∧x.2.2.2.size=N then some (.tup [.x (.int .i64 ((Go.Sort.order2 ae x.2.2.2 x.1 x.2.1 x.2.2.1).1:Int)),.x (.int .i64 ((Go.Sort.order2 ae x.2.2.2 x.1 x.2.1 x.2.2.1).2.1:Int))],[[.x (.int .i64 ((Go.Sort.order2 ae x.2.2.2 x.1 x.2.1 x.2.2.1).2.2:Int))],aC x.2.2.2]) else none
def CY (N:Nat) (x:Nat×Nat×Nat×Nat×Array C3):Option (V×List (List V)):=if x.1<N∧x.2.1<N∧x.2.2.1<N∧x.2.2.2.1<=900∧x.2.2.2.2.size=N then some (.x (.int .i64 ((Go.Sort.median ae x.2.2.2.2 x.1 x.2.1 x.2.2.1 x.2.2.2.1).1:Int)),[[.x (.int .i64 ((Go.Sort.median ae x.2.2.2.2 x.1 x.2.1 x.2.2.1 x.2.2.2.1).2:Int))],aC x.2.2.2.2]) else none
def Sz (N:Nat) (x:Nat×Nat×Array C3):Option (V×List (List V)):=if 1<=x.1∧x.1+1<N∧x.2.1<=900∧x.2.2.size=N then some (.x (.int .i64 ((Go.Sort.medianAdjacent ae x.2.2 x.1 x.2.1).1:Int)),[[.x (.int .i64 ((Go.Sort.medianAdjacent ae x.2.2 x.1 x.2.1).2:Int))],aC x.2.2]) else none
def GE (N:Nat) (x:Nat×Nat×Array C3):Option (V×List (List V)):=if x.1<x.2.1∧x.2.1<=N∧x.2.2.size=N then some (.tup [.x (.int .i64 ((Go.Sort.choosePivot ae x.2.2 x.1 x.2.1).1:Int)),.x (.int .i64 (Go.Sort.hintCode (Go.Sort.choosePivot ae x.2.2 x.1 x.2.1).2))],[aC x.2.2]) else none
section
variable {g sf:FuncId} {gl gs:Array Value} {N:Nat}
theorem GF (a b s:Nat) (d:Array C3) (h1:a<N) (h2:b<N) (h3:s<=1000) (h4:d.size=N):FE (x9 g sf gl gs) (Sy N) [dK g sf gl gs,.x (.int .i64 (a:Int)),.x (.int .i64 (b:Int)),.bx [.x (.int .i64 (s:Int))],.bx (aC d)]=some (.tup [.x (.int .i64 ((Go.Sort.order2 ae d a b s).1:Int)),.x (.int .i64 ((Go.Sort.order2 ae d a b s).2.1:Int))],[[.x (.int .i64 ((Go.Sort.order2 ae d a b s).2.2:Int))],aC d]):=
 (cq Gw (Sy N) (a,b,s,d)).trans (YG ⟨h1,h2,h3,h4⟩)
theorem yd (a b c s:Nat) (d:Array C3) (h1:a<N) (h2:b<N) (h0:c<N) (h3:s<=900) (h4:d.size=N):FE (uj g sf gl gs) (CY N) [dK g sf gl gs,.x (.int .i64 (a:Int)),.x (.int .i64 (b:Int)),.x (.int .i64 (c:Int)),.bx [.x (.int .i64 (s:Int))],.bx (aC d)]=some (.x (.int .i64 ((Go.Sort.median ae d a b c s).1:Int)),[[.x (.int .i64 ((Go.Sort.median ae d a b c s).2:Int))],aC d]):=
 (cq Gy (CY N) (a,b,c,s,d)).trans (YG ⟨h1,h2,h0,h3,h4⟩)
theorem GG (a s:Nat) (d:Array C3) (h1:1<=a) (h2:a+1<N) (h3:s<=900) (h4:d.size=N):FE (yb g sf gl gs) (Sz N) [dK g sf gl gs,.x (.int .i64 (a:Int)),.bx [.x (.int .i64 (s:Int))],.bx (aC d)]=some (.x (.int .i64 ((Go.Sort.medianAdjacent ae d a s).1:Int)),[[.x (.int .i64 ((Go.Sort.medianAdjacent ae d a s).2:Int))],aC d]):=
 (cq Gx (Sz N) (a,s,d)).trans (YG ⟨h1,h2,h3,h4⟩)
end
theorem Xs (hS:SoOK G bk N g sf gl gs):FunXV G bk 111 [] (FE (x9 g sf gl gs) (Sy N)):=by
 obtain⟨X,hX,X1,X2,X3⟩:=iz hS [] trivial;have hN:=hS.N1;unfold MX at hN;refine cf (k:=4) hX Tryz.func111 rfl (fun a w=>Tryz.call111 a w) Tryz.ntmps111 A0c A0c ?_;clear hX;intro us r outs hF;obtain⟨⟨a,b,s,d⟩,hus,hG⟩:=bE hF;clear hF;subst hus;unfold Sy at hG;obtain⟨⟨ha,hb,hs,hd⟩,hG⟩:=bX hG;simp only at ha hb hs hd;cases hG;refine⟨_,rfl,rfl,fun pm m0 w0 hE=>?_⟩;simp only[x9];have w1:aw .i64 ((s:Int)+1)=((s+1:Nat):Int):=by rw[ak A0h];omega
 have l1:=cC (N:=N) b a d hb ha hd;refine Sem.run hE ah A0a ?_;unfold Go.Sort.order2;cases hl:ae d[b]! d[a]! with
 |true=>rw[hl] at l1;simp +decide (maxDischargeDepth:=200) only[go_sem,X1,X2,X3,bt,w1,l1]
 |false=>rw[hl] at l1;simp +decide (maxDischargeDepth:=200) only[go_sem,X1,X2,X3,bt,w1,l1]
theorem L5 (hS:SoOK G bk N g sf gl gs):FunXV G bk 109 [] (FE (uj g sf gl gs) (CY N)):=by obtain⟨X,hX,X1,X2,X3⟩:=iz hS [(111,FE (x9 g sf gl gs) (Sy N))] ⟨Xs hS,trivial⟩;have hN:=hS.N1;unfold MX at hN;refine cf (k:=5) hX Tryz.func109 rfl (fun a w=>Tryz.call109 a w) Tryz.ntmps109 A0c A0c ?_;clear hX;intro us r outs hF;obtain⟨⟨a,b,c,s,d⟩,hus,hG⟩:=bE hF;clear hF;subst hus;unfold CY at hG;obtain⟨⟨ha,hb,hc,hs,hd⟩,hG⟩:=bX hG;simp only at ha hb hc hs hd;cases hG;refine⟨_,rfl,rfl,fun pm m0 w0 hE=>?_⟩;simp only[uj];unfold Go.Sort.median;simp only;have b1:=uo d a b s N ha hb;have e1:=GF (g:=g) (sf:=sf) (gl:=gl) (gs:=gs) (N:=N) a b s d ha hb A0b hd;generalize Go.Sort.order2 ae d a b s=r1 at b1 e1⊢;have b2:=uo d r1.2.1 c r1.2.2 N b1.2.1 hc;have e2:=GF (g:=g) (sf:=sf) (gl:=gl) (gs:=gs) (N:=N) r1.2.1 c r1.2.2 d b1.2.1 hc A0b hd;generalize Go.Sort.order2 ae d r1.2.1 c r1.2.2=r2 at b2 e2⊢;have e3:=GF (g:=g) (sf:=sf) (gl:=gl) (gs:=gs) (N:=N) r1.1 r2.1 r2.2.2 d b1.1 b2.1 A0b hd;generalize Go.Sort.order2 ae d r1.1 r2.1 r2.2.2=r3 at e3⊢;refine Sem.run hE ah A0a ?_;simp +decide (maxDischargeDepth:=200) only[go_sem,X1,X2,X3,bt,e1,e2,e3]
theorem Xt (hS:SoOK G bk N g sf gl gs):FunXV G bk 108 [] (FE (yb g sf gl gs) (Sz N)):=by
 obtain⟨X,hX,X1,X2,X3⟩:=iz hS [(109,FE (uj g sf gl gs) (CY N))] ⟨L5 hS,trivial⟩;have hN:=hS.N1;unfold MX at hN;refine cf (k:=3) hX Tryz.func108 rfl (fun a w=>Tryz.call108 a w) Tryz.ntmps108 A0c A0c ?_;clear hX;intro us r outs hF;obtain⟨⟨a,s,d⟩,hus,hG⟩:=bE hF;clear hF;subst hus;unfold Sz at hG;obtain⟨⟨h1,h2,hs,hd⟩,hG⟩:=bX hG;simp only at h1 h2 hs hd;cases hG;refine⟨_,rfl,rfl,fun pm m0 w0 hE=>?_⟩;simp only[yb];unfold Go.Sort.medianAdjacent;have w1:aw .i64 ((a:Int)+1)=((a+1:Nat):Int):=by rw[ak A0h];omega
 have w2:aw .i64 ((a:Int)-1)=((a-1:Nat):Int):=by rw[ak A0h];omega
 have e1:=yd (g:=g) (sf:=sf) (gl:=gl) (gs:=gs) (N:=N) (a-1) a (a+1) s d A0b A0b A0b hs hd;refine Sem.run hE ah A0a ?_;simp +decide (maxDischargeDepth:=200) only[go_sem,X1,X2,X3,bt,w1,w2,e1]
theorem SA (hS:SoOK G bk N g sf gl gs):FunXV G bk 97 [] (FE (dW g sf gl gs) (GE N)):=by
 obtain⟨X,hX,X1,X2,X3⟩:=iz hS [(108,FE (yb g sf gl gs) (Sz N)),(109,FE (uj g sf gl gs) (CY N))] ⟨Xt hS,L5 hS,trivial⟩;have hN:=hS.N1;unfold MX at hN;refine cf (k:=3) hX Tryz.func97 rfl (fun a w=>Tryz.call97 a w) Tryz.ntmps97 A0c A0c ?_;clear hX;intro us r outs hF;obtain⟨⟨a,b,d⟩,hus,hG⟩:=bE hF;clear hF;subst hus;unfold GE at hG;obtain⟨⟨hab,hbN,hd⟩,hG⟩:=bX hG;simp only at hab hbN hd;cases hG;refine⟨_,rfl,rfl,fun pm m0 w0 hE=>?_⟩;simp only[dW];obtain⟨l,hl⟩:∃l,b-a=l:=⟨_,rfl⟩;obtain⟨i,hi⟩:∃i,a+l/4*1=i:=⟨_,rfl⟩;obtain⟨j,hj⟩:∃j,a+l/4*2=j:=⟨_,rfl⟩;obtain⟨k,hk⟩:∃k,a+l/4*3=k:=⟨_,rfl⟩;have w0:aw .i64 ((b:Int)-(a:Int))=((l:Nat):Int):=by rw[ak A0h];omega
 have q1:aw .i64 ((l:Int).tdiv 4)=((l/4:Nat):Int):=by rw[abe A0b,ak A0h];omega
 have w1:aw .i64 (((l/4:Nat):Int)*1)=((l/4*1:Nat):Int):=by rw[ak A0h];omega
 have w2:aw .i64 (((l/4:Nat):Int)*2)=((l/4*2:Nat):Int):=by rw[ak A0h];omega
 have w3:aw .i64 (((l/4:Nat):Int)*3)=((l/4*3:Nat):Int):=by rw[ak A0h];omega
 have w4:aw .i64 ((a:Int)+((l/4*1:Nat):Int))=((i:Nat):Int):=by rw[ak A0h];omega
 have w5:aw .i64 ((a:Int)+((l/4*2:Nat):Int))=((j:Nat):Int):=by rw[ak A0h];omega
 have w6:aw .i64 ((a:Int)+((l/4*3:Nat):Int))=((k:Nat):Int):=by rw[ak A0h];omega
 obtain⟨r,hr⟩:∃r:Nat×Nat,(if l≥8 then if l≥50 then Go.Sort.median ae d (Go.Sort.medianAdjacent ae d i 0).1 (Go.Sort.medianAdjacent ae d j (Go.Sort.medianAdjacent ae d i 0).2).1 (Go.Sort.medianAdjacent ae d k (Go.Sort.medianAdjacent ae d j (Go.Sort.medianAdjacent ae d i 0).2).2).1 (Go.Sort.medianAdjacent ae d k (Go.Sort.medianAdjacent ae d j (Go.Sort.medianAdjacent ae d i 0).2).2).2 else Go.Sort.median ae d i j k 0 else (j,0))=r:=⟨_,rfl⟩;have hch:Go.Sort.choosePivot ae d a b=(r.1,if r.2=0 then .increasing else if r.2=12 then .decreasing else .unknown):=by unfold Go.Sort.choosePivot;simp only[hl,hi,hj,hk,hr]
 rw[hch];refine Sem.seq [(3,.ptr 3 0),(1,.x (.int .i64 (a:Int))),(2,.x (.int .i64 (b:Int)))] [(3,[.x (.func (.func g) #[] gl),.x (.func (.func sf) #[] gs)]),(1003,aC d)] (Sem.run hE ah A0a A0m) ?_;refine Sem.seq [(3,.ptr 3 0),(1,.x (.int .i64 (a:Int))),(8,.x (.int .i64 ((l:Nat):Int)))] [(3,[.x (.func (.func g) #[] gl),.x (.func (.func sf) #[] gs)]),(1003,aC d)] (Sem.run hE ah A0a (by simp +decide (maxDischargeDepth:=200) only[go_sem,X1,X2,X3,bt,w0])) ?_;refine Sem.seq [(3,.ptr 3 0),(1,.x (.int .i64 (a:Int))),(8,.x (.int .i64 ((l:Nat):Int))),(9,.ptr 9 0)] [(3,[.x (.func (.func g) #[] gl),.x (.func (.func sf) #[] gs)]),(9,[.x (.int .i64 0)]),(1003,aC d)] (Sem.run hE ah A0a A0m) ?_;refine Sem.seq [(3,.ptr 3 0),(1,.x (.int .i64 (a:Int))),(8,.x (.int .i64 ((l:Nat):Int))),(9,.ptr 9 0),(10,.x (.int .i64 ((i:Nat):Int)))] [(3,[.x (.func (.func g) #[] gl),.x (.func (.func sf) #[] gs)]),(9,[.x (.int .i64 0)]),(1003,aC d)] (Sem.run hE ah A0a (by simp +decide (maxDischargeDepth:=200) only[go_sem,X1,X2,X3,bt,q1,w1,w4])) ?_;refine Sem.seq [(3,.ptr 3 0),(1,.x (.int .i64 (a:Int))),(8,.x (.int .i64 ((l:Nat):Int))),(9,.ptr 9 0),(10,.x (.int .i64 ((i:Nat):Int))),(11,.x (.int .i64 ((j:Nat):Int)))] [(3,[.x (.func (.func g) #[] gl),.x (.func (.func sf) #[] gs)]),(9,[.x (.int .i64 0)]),(1003,aC d)] (Sem.run hE ah A0a (by simp +decide (maxDischargeDepth:=200) only[go_sem,X1,X2,X3,bt,q1,w2,w5])) ?_;refine Sem.seq [(3,.ptr 3 0),(8,.x (.int .i64 ((l:Nat):Int))),(9,.ptr 9 0),(10,.x (.int .i64 ((i:Nat):Int))),(11,.x (.int .i64 ((j:Nat):Int))),(12,.x (.int .i64 ((k:Nat):Int)))] [(3,[.x (.func (.func g) #[] gl),.x (.func (.func sf) #[] gs)]),(9,[.x (.int .i64 0)]),(1003,aC d)] (Sem.run hE ah A0a (by simp +decide (maxDischargeDepth:=200) only[go_sem,X1,X2,X3,bt,q1,w3,w6])) ?_;refine Sem.seq [(9,.ptr 9 0),(11,.x (.int .i64 ((r.1:Nat):Int)))] [(3,[.x (.func (.func g) #[] gl),.x (.func (.func sf) #[] gs)]),(9,[.x (.int .i64 ((r.2:Nat):Int))]),(1003,aC d)] (Sem.run hE ah A0a ?_) ?_
 . by_cases h8:l≥8
   . rw[YG h8] at hr;have c1:decide (8<=((l:Nat):Int))=true:=Yz A0b;by_cases h50:l≥50
     . rw[YG h50] at hr;have c2:decide (50<=((l:Nat):Int))=true:=Yz A0b;have e1:=GG (g:=g) (sf:=sf) (gl:=gl) (gs:=gs) (N:=N) i 0 d A0b A0b A0b hd;have b1:=GD d (i-1) i (i+1) 0 N A0b A0b A0b;change (Go.Sort.medianAdjacent ae d i 0).1<N∧(Go.Sort.medianAdjacent ae d i 0).2<=0+3 at b1;generalize Go.Sort.medianAdjacent ae d i 0=r1 at hr e1 b1;have e2:=GG (g:=g) (sf:=sf) (gl:=gl) (gs:=gs) (N:=N) j r1.2 d A0b A0b A0b hd;have b2:=GD d (j-1) j (j+1) r1.2 N A0b A0b A0b;change (Go.Sort.medianAdjacent ae d j r1.2).1<N∧(Go.Sort.medianAdjacent ae d j r1.2).2<=r1.2+3 at b2;generalize Go.Sort.medianAdjacent ae d j r1.2=r2 at hr e2 b2;have e3:=GG (g:=g) (sf:=sf) (gl:=gl) (gs:=gs) (N:=N) k r2.2 d A0b A0b A0b hd;have b3:=GD d (k-1) k (k+1) r2.2 N A0b A0b A0b;change (Go.Sort.medianAdjacent ae d k r2.2).1<N∧(Go.Sort.medianAdjacent ae d k r2.2).2<=r2.2+3 at b3;generalize Go.Sort.medianAdjacent ae d k r2.2=r3 at hr e3 b3;have e4:=yd (g:=g) (sf:=sf) (gl:=gl) (gs:=gs) (N:=N) r1.1 r2.1 r3.1 r3.2 d b1.1 b2.1 b3.1 A0b hd;rw[hr] at e4;rw[show((0:Nat):Int)=0 from rfl] at e1;simp +decide (maxDischargeDepth:=200) only[go_sem,X1,X2,X3,bt,c1,c2,e1,e2,e3,e4]
     . rw[YL h50] at hr;have c2:decide (50<=((l:Nat):Int))=false:=YA A0b;have e4:=yd (g:=g) (sf:=sf) (gl:=gl) (gs:=gs) (N:=N) i j k 0 d A0b A0b A0b A0b hd;rw[hr] at e4;rw[show((0:Nat):Int)=0 from rfl] at e4;simp +decide (maxDischargeDepth:=200) only[go_sem,X1,X2,X3,bt,c1,c2,e4]
   . rw[YL h8] at hr;have c1:decide (8<=((l:Nat):Int))=false:=YA A0b;rw[<-hr];simp +decide (maxDischargeDepth:=200) only[go_sem,X1,X2,X3,bt,c1];rfl
 . refine Sem.run hE ah A0a ?_;by_cases h0:r.2=0
   . rw[YG h0];have c1:decide (((r.2:Nat):Int)=0)=true:=Yz A0b;simp +decide (maxDischargeDepth:=200) only[go_sem,X1,X2,X3,bt,c1,Go.Sort.hintCode]
   . rw[YL h0];have c1:decide (((r.2:Nat):Int)=0)=false:=YA A0b;by_cases h12:r.2=12
     . rw[YG h12];have c2:decide (((r.2:Nat):Int)=12)=true:=Yz A0b;simp +decide (maxDischargeDepth:=200) only[go_sem,X1,X2,X3,bt,c1,c2,Go.Sort.hintCode]
     . rw[YL h12];have c2:decide (((r.2:Nat):Int)=12)=false:=YA A0b;simp +decide (maxDischargeDepth:=200) only[go_sem,X1,X2,X3,bt,c1,c2,Go.Sort.hintCode]
end Go.Proofs.YtmfojhkjbkombaaGreat
