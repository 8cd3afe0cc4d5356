/- Runs, part by part: what is known may be less from part to part. No program is named here. -/
import Derived.Test.YtmfojhkjbkombaaMI
import Derived.Test.YtmfojhkjbkombaaMPO
import Derived.Test.YtmfojhkjbkombaaMG
import Derived.Sort.AssemblyPlain
import Derived.Sort.LotD4
namespace Go.Proofs.Ytmfojhkjbkombaa
set_option linter.unusedSimpArgs false
set_option maxHeartbeats 8000000
set_option maxRecDepth 100000
open Go Go.RowKit
attribute [go_sem] Try.results70 Try.results71 Try.results73 Try.results74 Try.results75 Try.results76 Try.results77 Try.results81 Try.results84 Try.results85 Try.results87
def Sem (E:Env) (n:Nat) (pm:Pm) (m0:Lim) (w0:World) (c:Code) (st:St) (K:Out->St->Prop):Prop:=
 ∀a w m β,Rel E n pm m0 w0 m β st a w->c.wpIn (aX none) 0 E.P (eA E n pm m0 w0 K) a w
def Dk (ts:List (Nat×V)) (bs:List (Nat×List V)) (K:Out->St->Prop):Out->St->Prop
 | .normal,st=>fH st ts∧fX st bs
 | .ret,st=>K .ret st
 | .exit id,st=>K (.exit id) st
def seqQ (Q:Prop) (ts:List (Nat×V)) (bs:List (Nat×List V)) (K:Out->St->Prop):Out->St->Prop
 | .normal,st=>Q∧fH st ts∧fX st bs
 | .ret,st=>K .ret st
 | .exit id,st=>K (.exit id) st
def K0 (K:Out->St->Prop):Out->St->Prop
 | .normal,_=>False
 | .ret,st=>K .ret st
 | .exit id,st=>K (.exit id) st
def lu {X:Type} (T:X->List (Nat×V)) (B:X->List (Nat×List V)) (μ:X->Nat) (n:Nat) (K:Out->St->Prop):Out->St->Prop
 | .normal,st=>pQ T B μ n st
 | .ret,st=>K .ret st
 | .exit id,st=>K (.exit id) st
section
variable {E:Env} {n:Nat} {pm:Pm} {m0:Lim} {w0:World} {st:St} {K:Out->St->Prop}
section
variable (ts:List (Nat×V)) (bs:List (Nat×List V)) (K:Out->St->Prop) (st:St) (id:Nat)
theorem uy:Dk ts bs K .normal st=(fH st ts∧fX st bs):=rfl
theorem GM:Dk ts bs K .ret st=K .ret st:=rfl
theorem uz (Q:Prop):seqQ Q ts bs K .normal st=(Q∧fH st ts∧fX st bs):=rfl
theorem GN (Q:Prop):seqQ Q ts bs K .ret st=K .ret st:=rfl
theorem Dl (Q:Prop):seqQ Q ts bs K (.exit id) st=K (.exit id) st:=rfl
theorem yD (Q:Prop) {o o':Out} (h:o=o'):seqQ Q ts bs K o st=seqQ Q ts bs K o' st:=by rw[h]
variable {o o':Out}
theorem yE (h:o=o'):Dk ts bs K o st=Dk ts bs K o' st:=by rw[h]
theorem uA:K0 K .normal st=False:=rfl
theorem GO:K0 K .ret st=K .ret st:=rfl
theorem Dm:K0 K (.exit id) st=K (.exit id) st:=rfl
theorem Dn:Dk ts bs K (.exit id) st=K (.exit id) st:=rfl
variable {X:Type} (T:X->List (Nat×V)) (B:X->List (Nat×List V)) (μ:X->Nat) (n:Nat)
theorem pf:lu T B μ n K .normal st=pQ T B μ n st:=rfl
theorem yF:lu T B μ n K .ret st=K .ret st:=rfl
theorem rv (h:o=o'):lu T B μ n K o st=lu T B μ n K o' st:=by rw[h]
theorem uB:lu T B μ n K (.exit id) st=K (.exit id) st:=rfl
end
attribute [go_sem] uy GM Dn uA GO Dm pf yF uB fH fX
attribute [go_sem] uz GN Dl
attribute [congr] yD yE rv
theorem Sem.run (hE:EnvX E pm) (hm:E.P.follows .mixedOrders=true) {c:Code} (hok:aZ E.any n c=true) (h:Go.Proofs.Ytmfojhkjbkombaa.run E c st K):Sem E n pm m0 w0 c st K:=fun a w m β hr=>
 wpIn_mono (jP (r:=none) (W:=fun _=>true) hE hm c K st a w m β hok (fT c) hr h) (fun _ _ _ h=>h.1)
variable {c:Code}
theorem Sem.seq {d:Code} (ts:List (Nat×V)) (bs:List (Nat×List V)) (h1:Sem E n pm m0 w0 c st (Dk ts bs K)) (h2:Sem E n pm m0 w0 d (am ts bs) K):Sem E n pm m0 w0 (c.seq d) st K:=fun a w m β hr=>by
 refine wpIn_seq (wpIn_mono (h1 a w m β hr) ?_);intro e a' w' hp;cases e<;>simp only[eA,Exit.then] at hp⊢ <;>first|exact hp.elim|exact hp|skip
 obtain⟨st',m',β',hk,h'⟩:=hp;exact h2 a' w' m' β' (h'.le (aG hk.1 hk.2))
theorem Sem.seqQ {d:Code} (Q:Prop) (ts:List (Nat×V)) (bs:List (Nat×List V)) (h1:Sem E n pm m0 w0 c st (Go.Proofs.Ytmfojhkjbkombaa.seqQ Q ts bs K)) (h2:Q->Sem E n pm m0 w0 d (am ts bs) K):Sem E n pm m0 w0 (c.seq d) st K:=fun a w m β hr=>by
 refine wpIn_seq (wpIn_mono (h1 a w m β hr) ?_);intro e a' w' hp;cases e<;>simp only[eA,Exit.then] at hp⊢ <;>first|exact hp.elim|exact hp|skip
 obtain⟨st',m',β',⟨hq,hk1,hk2⟩,h'⟩:=hp;exact h2 hq a' w' m' β' (h'.le (aG hk1 hk2))
theorem Sem.seq_out {d:Code} (h1:Sem E n pm m0 w0 c st (K0 K)):Sem E n pm m0 w0 (c.seq d) st K:=fun a w m β hr=>by
 refine wpIn_seq (wpIn_mono (h1 a w m β hr) ?_);intro e a' w' hp;cases e<;>simp only[eA,Exit.then] at hp⊢ <;>first|exact hp.elim|exact hp|skip
 obtain⟨st',m',β',hk,h'⟩:=hp;exact hk.elim
theorem Sem.block {id:Nat} (h:Sem E n pm m0 w0 c st (jO id K)):Sem E n pm m0 w0 (.block id c) st K:=fun a w m β hr=>by
 refine wpIn_block (wpIn_mono (h a w m β hr) ?_);intro e a' w' hp;cases e<;>simp only[eA,Exit.inBlock] at hp⊢ <;>first|exact hp.elim|exact hp|skip
 rename_i id';obtain⟨st',m',β',hk,h'⟩:=hp;by_cases hid:id'=id
 . subst hid;rw[iP,Zp rfl] at hk;simp only[ZD];exact⟨st',m',β',hk,h'⟩
 . rw[iP,Zs hid] at hk;simp only[hid,Zz];exact⟨st',m',β',hk,h'⟩
variable {X:Type}
theorem Sem.loop (T:X->List (Nat×V)) (B:X->List (Nat×List V)) (μ:X->Nat) (x0:X) (h0:fH st (T x0)) (h0':fX st (B x0))
 (h:∀x,Sem E n pm m0 w0 c (am (T x) (B x)) (lu T B μ (μ x) K)):Sem E n pm m0 w0 (.loop c) st K:=fun a w m β hr=>by
 refine cm (X:=X) (fun x a w=>∃m β,Rel E n pm m0 w0 m β (am (T x) (B x)) a w) μ x0 ⟨m,β,hr.le (aG h0 h0')⟩ ?_;rintro x a1 w1 ⟨m1,β1,hr1⟩;refine wpIn_mono (h x a1 w1 m1 β1 hr1) ?_;intro e a' w' hp;cases e<;>simp only[eA] at hp⊢ <;>first|exact hp.elim|exact hp|skip
 obtain⟨st',m',β',⟨x',h1,h2,h3⟩,h'⟩:=hp;exact⟨x',⟨m',β',h'.le (aG h1 h2)⟩,h3⟩
theorem Sem.cond {c:Operand} {x y:Code} {t:Bool} (hc:ev E st c= .x (.bool t)) (h1:t=true->Sem E n pm m0 w0 x st K) (h2:t=false->Sem E n pm m0 w0 y st K):Sem E n pm m0 w0 (.cond c x y) st K:=fun a w m β hr=>by have hv:a.eval c= .bool t:=(hc▸aE hr c:Rs m w β (a.eval c) (.x (.bool t))).x;exact wpIn_cond_split hv (fun e=>h1 e a w m β hr) (fun e=>h2 e a w m β hr)
theorem Sem.mono {K':Out->St->Prop} (h:Sem E n pm m0 w0 c st K) (hk:∀o st,K o st->K' o st):Sem E n pm m0 w0 c st K':=fun a w m β hr=>by refine wpIn_mono (h a w m β hr) ?_;intro e a' w' hp;cases e<;>simp only[eA] at hp⊢ <;>first|exact hp.elim|(obtain⟨st',m',β',h1,h2⟩:=hp;exact⟨st',m',β',hk _ _ h1,h2⟩)
theorem yG (hEx:∀pm:Pm,∀bk,pm.b E.xk=bk->(∀f lb F,E.X f lb=some F->FunX E bk f lb F)->EnvX E pm) (hmb:∀s,1000<=s->E.MB s=false) (_hm:E.P.follows .mixedOrders=true) {f:FuncId} {fn:Func} {c:Code} {F:List V->Option (V×List (List V))} {k bk:Nat} (hf:E.P.funcs[f]?=some fn) (hb:fn.body=some c)
 (hcall:∀args w,(callFunc f args).run E.P w= .ok (.enter f args) w) (hn:fn.ntmps=n) (hk:k<n) (hn1:n<=1000) (hxk:E.xk=1000+k) (hX:∀f lb F,E.X f lb=some F->FunX E bk f lb F)
 (hrun:∀us r outs,F us=some (r,outs)->∃cs,us.length=k+1∧us[k]?=some (.bx cs)∧∀pm m0 w0,EnvX E pm->Sem E n pm m0 w0 c ⟨upd (dx us).t k .undef,(dx us).b⟩ (Me E fn.results.toList us r outs)):FunX E bk f [] F:=by
 intro m w vs us bs gs hs r outs hF hargs hnd hhnd hj hg;obtain⟨cs,hl,hcs,hrun⟩:=hrun us r outs hF;have hlen:=hargs.len;simp only[Zr,ZH,ZB,Z5] at hlen;have hargs':ArgsP m w E.K (vs.push (.pointer (some ⟨bk,0,none⟩))).toList us bs gs hs:=by simpa using hargs
 obtain⟨γ,hrel,_,h1,h3,h8⟩:=ny hmb hn1 hargs' hnd hhnd hj hg A0C;have hγ:γ (1000+k)=bk:=by
  obtain⟨q1,_,_⟩:=h1 k cs hcs;have hkv:k=vs.size:=A0c
  subst hkv;simp at q1;exact q1.symm
 subst hn;have hE:EnvX E ⟨bs++(gs++hs),γ,gs,[]⟩:=hEx _ bk (by rw[hxk];exact hγ) hX;have hrel':=Rel.drop (T:=vs++Array.replicate (fn.ntmps-vs.size) Go.undef) hrel A0C k (fun i hi=>by
  have hkv:k=vs.size:=A0c
  subst hkv;simp only[ZF];rcases aac i vs.size with h'|h'
  . rw[aar h',aar A0C,Array.getElem?_push_lt h',ZJ h']
  . rw[abu h',abu A0C];simp only[Array.size_push,aa0];have:i-vs.size<fn.ntmps-vs.size↔i-(vs.size+1)<fn.ntmps-(vs.size+1):=A0c
    by_cases hc:i-vs.size<fn.ntmps-vs.size
    . rw[Zp hc,Zp (this.1 hc)]
    . rw[Zs hc,Zs (fun h=>hc (this.2 h))])
 refine .inl ⟨hcall _ _,?_⟩;rw[show vs++(⟨[]⟩:Array Value)=vs from abT];refine calls_of_wp hf hb (wp_mono (wpIn_wide.1 (hrun _ _ _ hE _ _ _ _ hrel')) ?_);intro e a' w' hp
 have done:∀st' m' β',((nt E st' fn.results.toList=some r∨dW E st' fn.results.toList=some r)∧mf us st'=some outs)->Rel E fn.ntmps ⟨bs++(gs++hs),γ,gs,[]⟩ m w m' β' st' a' w'->a'.defers=[]∧∃v,(results fn a'.tmps).run E.P w'= .ok v w'∧∃v',Ending.returned v= .returned v'∧∃m',Rd m' w' v' r∧Bel (bs++(gs++hs)) w w'∧Ext m w m' w'∧(∀blk,blk<w.heap.size->blk∉gs->m' blk=m blk)∧(∃o1 o2,outs=o1++o2∧OutsP m' w' bs o1∧OutsM m' w' hs o2)∧
  ∀sz es k,r= .sl false sz es (some k)->∃g,RowIs m' w' v' g sz es.length∧(w.heap.size<=g∨g∈gs):=by
  intro st' m' β' h1' h2';obtain⟨q1,v,q2,q3⟩:=nz h3 h8 h1' h2';exact⟨q1,v,q2,v,rfl,m',q3⟩
 cases e with
 |normal=>obtain⟨st',m',β',h1,h2⟩:=hp;exact done st' m' β' h1 h2
 |ret=>obtain⟨st',m',β',h1,h2⟩:=hp;exact done st' m' β' h1 h2
 |exit id=>obtain⟨st',m',β',h1,h2⟩:=hp;exact h1.elim
 |goto l=>exact hp.elim
 |panic ch=>exact hp.elim
 |outgrown=>exact hp.elim
end
open Go.Sort (swp)
def ay (d:Array C3):List V:=d.toList.flatMap fun p=>(aa p).cells
theorem gD {a b:Array C3} (h:ay a=ay b):a=b:=by
 have key:∀l l':List C3,(l.flatMap fun p=>(aa p).cells)=(l'.flatMap fun p=>(aa p).cells)->l=l':=by
  intro l
  induction l with
  | nil=>
    intro l' h;cases l' with
    |nil=>rfl
    |cons p l'=>simp[aa,V.cells] at h
  | cons p l ih=>
    intro l' h;cases l' with
    |nil=>simp[aa,V.cells] at h
    | cons p' l'=>
      simp only[aag] at h;obtain⟨h1,h2⟩:=List.append_inj h (by simp[aa,V.cells]);have e:aa p=aa p':=by obtain⟨x,y,z⟩:=p;obtain⟨x',y',z'⟩:=p';simp only[aa,V.cells] at h1⊢;rw[h1]
      rw[jk _ _ e,ih _ h2]
 exact aae.1 (key _ _ h)
abbrev dB (g sf:FuncId) (gl gs:Array Value):V:= .agg [.x (.func (.func g) #[] gl),.x (.func (.func sf) #[] gs)]
section
variable (g sf:FuncId) (gl gs:Array Value)
def en2 (x:Nat×Nat×Array C3):List V:=[.x (.int .i64 (x.1:Int)),.x (.int .i64 (x.2.1:Int)),.bx (ay x.2.2)]
def dS (x:Nat×Nat×Array C3):List V:=[dB g sf gl gs,.x (.int .i64 (x.1:Int)),.x (.int .i64 (x.2.1:Int)),.bx (ay x.2.2)]
def fI (x:Nat×Nat×Nat×Array C3):List V:=[dB g sf gl gs,.x (.int .i64 (x.1:Int)),.x (.int .i64 (x.2.1:Int)),.x (.int .i64 (x.2.2.1:Int)),.bx (ay x.2.2.2)]
def yH (x:Nat×Nat×Nat×Array C3):List V:=[dB g sf gl gs,.x (.int .i64 (x.1:Int)),.x (.int .i64 (x.2.1:Int)),.bx [.x (.int .i64 (x.2.2.1:Int))],.bx (ay x.2.2.2)]
def yI (x:Nat×Nat×Array C3):List V:=[dB g sf gl gs,.x (.int .i64 (x.1:Int)),.bx [.x (.int .i64 (x.2.1:Int))],.bx (ay x.2.2)]
def uC (x:Nat×Nat×Nat×Nat×Array C3):List V:=[dB g sf gl gs,.x (.int .i64 (x.1:Int)),.x (.int .i64 (x.2.1:Int)),.x (.int .i64 (x.2.2.1:Int)),.bx [.x (.int .i64 (x.2.2.2.1:Int))],.bx (ay x.2.2.2.2)]
end
theorem AP (x y:Nat×Nat×Array C3) (h:en2 x=en2 y):x=y:=by obtain⟨a,b,d⟩:=x;obtain⟨a',b',d'⟩:=y;simp only[en2,Z2,V.x.injEq,Value.int.injEq,V.bx.injEq,abI,aaZ,abY] at h;obtain⟨rfl,rfl,h⟩:=h;rw[gD h]
section
variable {g sf:FuncId} {gl gs:Array Value}
theorem gE (x y:Nat×Nat×Array C3) (h:dS g sf gl gs x=dS g sf gl gs y):x=y:=by obtain⟨a,b,d⟩:=x;obtain⟨a',b',d'⟩:=y;simp only[dS,Z2,V.x.injEq,Value.int.injEq,V.bx.injEq,abI,aaZ,abY] at h;obtain⟨rfl,rfl,h⟩:=h;rw[gD h]
theorem ky (x y:Nat×Nat×Nat×Array C3) (h:fI g sf gl gs x=fI g sf gl gs y):x=y:=by obtain⟨a,b,c,d⟩:=x;obtain⟨a',b',c',d'⟩:=y;simp only[fI,Z2,V.x.injEq,Value.int.injEq,V.bx.injEq,abI,aaZ,abY] at h;obtain⟨rfl,rfl,rfl,h⟩:=h;rw[gD h]
theorem GP (x y:Nat×Nat×Nat×Array C3) (h:yH g sf gl gs x=yH g sf gl gs y):x=y:=by obtain⟨a,b,c,d⟩:=x;obtain⟨a',b',c',d'⟩:=y;simp only[yH,Z2,V.x.injEq,Value.int.injEq,V.bx.injEq,abI,aaZ,abY] at h;obtain⟨rfl,rfl,rfl,h⟩:=h;rw[gD h]
theorem GQ (x y:Nat×Nat×Array C3) (h:yI g sf gl gs x=yI g sf gl gs y):x=y:=by obtain⟨a,c,d⟩:=x;obtain⟨a',c',d'⟩:=y;simp only[yI,Z2,V.x.injEq,Value.int.injEq,V.bx.injEq,abI,aaZ,abY] at h;obtain⟨rfl,rfl,h⟩:=h;rw[gD h]
theorem GR (x y:Nat×Nat×Nat×Nat×Array C3) (h:uC g sf gl gs x=uC g sf gl gs y):x=y:=by obtain⟨a,b,e,c,d⟩:=x;obtain⟨a',b',e',c',d'⟩:=y;simp only[uC,Z2,V.x.injEq,Value.int.injEq,V.bx.injEq,abI,aaZ,abY] at h;obtain⟨rfl,rfl,rfl,rfl,h⟩:=h;rw[gD h]
end
theorem bu (d:Array C3) (i j:Nat):(swp d i j).size=d.size:=by simp[swp]
abbrev MX:Nat:=1000000
def GLess (N:Nat) (x:Nat×Nat×Array C3):Option (V×List (List V)):=if x.1<N∧x.2.1<N∧x.2.2.size=N then some (.x (.bool (ab x.2.2[x.1]! x.2.2[x.2.1]!)),[ay x.2.2]) else none
def GSwp (N:Nat) (x:Nat×Nat×Array C3):Option (V×List (List V)):=if x.1<N∧x.2.1<N∧x.2.2.size=N then some (.tup [],[ay (swp x.2.2 x.1 x.2.1)]) else none
def FunXV (G:Nat->V) (bk:Nat) (f:FuncId) (lb:List Value) (F:List V->Option (V×List (List V))):Prop:=FunX (dy G (fun _ _=>none) 0) bk f lb F
structure SoOK (G:Nat->V) (bk N:Nat) (g sf:FuncId) (gl gs:Array Value):Prop where
 gl0:gl.toList≠[]
 gs0:gs.toList≠[]
 ne:g≠sf
 N1:N<=MX
 less:FunXV G bk g gl.toList (FE en2 (GLess N))
 swap:FunXV G bk sf gs.toList (FE en2 (GSwp N))
def NY (G:Nat->V) (bk:Nat):List (Nat×(List V->Option (V×List (List V))))->Prop
 |[]=>True
 |p::l=>FunXV G bk p.1 [] p.2∧NY G bk l
section
variable {G:Nat->V} {bk N:Nat} {g sf:FuncId} {gl gs:Array Value}
theorem iA (hS:SoOK G bk N g sf gl gs) (l:List (Nat×(List V->Option (V×List (List V))))) (hl:NY G bk l):∃X:FuncId->List Value->Option (List V->Option (V×List (List V))),(∀f lb F,X f lb=some F->FunXV G bk f lb F)∧X g gl.toList=some (FE en2 (GLess N))∧X sf gs.toList=some (FE en2 (GSwp N))∧∀f,X f []=bg l f:=by
 classical
 refine⟨fun f lb=>if lb=[] then bg l f else if f=g∧lb=gl.toList then some (FE en2 (GLess N)) else if f=sf∧lb=gs.toList then some (FE en2 (GSwp N)) else none,fun f lb F h=>?_,?_,?_,fun f=>Zp rfl⟩
 . by_cases h0:lb=[]
   . simp only[h0,ZD] at h⊢;have key:∀l,NY G bk l->bg l f=some F->FunXV G bk f [] F:=by
      intro l
      induction l with
      |nil=>intro _ h;cases h
      | cons p l ih=>
        intro q hF;simp only[bg] at hF;split at hF
        . rename_i e;cases hF;exact e▸q.1
        . exact ih q.2 hF
     exact key l hl h
   . simp only[h0,Zz] at h;split at h
     . rename_i e;cases h;rw[e.1,e.2];exact hS.less
     . split at h
       . rename_i e;cases h;rw[e.1,e.2];exact hS.swap
       . cases h
 . simp only[hS.gl0,Zz,and_self,ZD]
 . simp only[hS.gs0,Zz,and_self,ZD];rw[Zs (fun e=>hS.ne e.1.symm)]
theorem cy (i j:Nat) (d:Array C3) (hi:i<N) (hj:j<N) (hd:d.size=N):FE en2 (GLess N) [.x (.int .i64 (i:Int)),.x (.int .i64 (j:Int)),.bx (ay d)]=some (.x (.bool (ab d[i]! d[j]!)),[ay d]):=
 (cL AP (GLess N) (i,j,d)).trans (Zp ⟨hi,hj,hd⟩)
theorem dz (i j:Nat) (d:Array C3) (hi:i<N) (hj:j<N) (hd:d.size=N):FE en2 (GSwp N) [.x (.int .i64 (i:Int)),.x (.int .i64 (j:Int)),.bx (ay d)]=some (.tup [],[ay (swp d i j)]):=
 (cL AP (GSwp N) (i,j,d)).trans (Zp ⟨hi,hj,hd⟩)
end
variable {G:Nat->V} {f:FuncId} {fn:Func} {c:Code} {F:List V->Option (V×List (List V))} {k n bk:Nat}
theorem ig {X:FuncId->List Value->Option (List V->Option (V×List (List V)))} (hX:∀f lb F,X f lb=some F->FunXV G bk f lb F) (hf:Try.prog.funcs[f]?=some fn) (hb:fn.body=some c)
 (hcall:∀args w,(callFunc f args).run Try.prog w= .ok (.enter f args) w) (hn:fn.ntmps=n) (hok:aZ (fun _=>false) n c=true) (hk:k<n) (hn1:n<=1000)
 (hrun:∀us r outs,F us=some (r,outs)->∃cs,us.length=k+1∧us[k]?=some (.bx cs)∧run (dy G X (1000+k)) c ⟨upd (dx us).t k .undef,(dx us).b⟩ (Fc (dy G X (1000+k)) fn.results.toList us r outs)):FunXV G bk f [] F:=by
 refine tD (E:=dy G X (1000+k)) (n:=n) (fun pm bk' h1 h2=>AA G X (1000+k) A0c pm bk' h1 h2) (fun _ _=>rfl) A0a hf hb hcall hn hok hk hn1 rfl hX (fun us r outs hF=>?_);obtain⟨cs,h1,h2,h3⟩:=hrun us r outs hF;refine⟨cs,h1,h2,_,Le.refl _,tz (fun o st hk=>?_) h3⟩;cases o with
 |exit id=>exact hk
 |normal=>exact⟨.inr hk.1,hk.2⟩
 |ret=>exact⟨.inr hk.1,hk.2⟩
theorem cd {X:FuncId->List Value->Option (List V->Option (V×List (List V)))} (hX:∀f lb F,X f lb=some F->FunXV G bk f lb F) (hf:Try.prog.funcs[f]?=some fn) (hb:fn.body=some c)
 (hcall:∀args w,(callFunc f args).run Try.prog w= .ok (.enter f args) w) (hn:fn.ntmps=n) (hk:k<n) (hn1:n<=1000)
 (hrun:∀us r outs,F us=some (r,outs)->∃cs,us.length=k+1∧us[k]?=some (.bx cs)∧∀pm m0 w0,EnvX (dy G X (1000+k)) pm->Sem (dy G X (1000+k)) n pm m0 w0 c ⟨upd (dx us).t k .undef,(dx us).b⟩ (Fc (dy G X (1000+k)) fn.results.toList us r outs)):FunXV G bk f [] F:=by
 refine yG (E:=dy G X (1000+k)) (n:=n) (fun pm bk' h1 h2=>AA G X (1000+k) A0c pm bk' h1 h2) (fun _ _=>rfl) A0a hf hb hcall hn hk hn1 rfl hX (fun us r outs hF=>?_);obtain⟨cs,h1,h2,h3⟩:=hrun us r outs hF;refine⟨cs,h1,h2,fun pm m0 w0 hE=>Sem.mono (h3 pm m0 w0 hE) (fun o st hk=>?_)⟩;cases o with
 |exit id=>exact hk
 |normal=>exact⟨.inr hk.1,hk.2⟩
 |ret=>exact⟨.inr hk.1,hk.2⟩
theorem ah:Try.prog.follows .mixedOrders=true:=A0a
def GS (N:Nat) (x:Nat×Nat×Array C3):Option (V×List (List V)):=if x.1<=x.2.1∧x.2.1<=N∧x.2.2.size=N then some (.tup [],[ay (Go.Sort.insertionSort ab x.2.2 x.1 x.2.1)]) else none
variable {a:Nat} {d:Array C3}
theorem pg {j:Nat} (h: ¬a<j):Go.Sort.insInner ab a j d=d:=by
 cases j with
 |zero=>rfl
 |succ j=>rw[Go.Sort.insInner];simp;intro h1;omega
variable {N:Nat} {g sf:FuncId} {gl gs:Array Value}
theorem SW (hS:SoOK G bk N g sf gl gs):FunXV G bk 70 [] (FE (dS g sf gl gs) (GS N)):=by
 obtain⟨X,hX,X1,X2,X3⟩:=iA hS [] trivial;have hN:=hS.N1;unfold MX at hN;refine ig (k:=3) hX Try.func70 rfl (fun a w=>Try.call70 a w) Try.ntmps70 A0a A0b A0b ?_;clear hX;intro us r outs hF;obtain⟨⟨a,b,d⟩,hus,hG⟩:=bL hF;clear hF;subst hus;unfold GS at hG;obtain⟨⟨hab,hbN,hd⟩,hG⟩:=bP hG;simp only at hab hbN hd;cases hG;refine⟨_,rfl,rfl,?_⟩;simp only[dS];have w1:aw .i64 ((a:Int)+1)=((a+1:Nat):Int):=by rw[aj A0j];omega
 simp +decide (maxDischargeDepth:=200) only[go_sem,X1,X2,X3,bg,w1];refine dt (X:={x:Nat×Array C3//a+1<=x.1∧x.1<=N+1∧x.2.size=N∧Go.Sort.insOuter ab a b x.1 x.2=Go.Sort.insertionSort ab d a b}) (fun x=>[(1,.x (.int .i64 (a:Int))),(2,.x (.int .i64 (b:Int))),(3,.ptr 3 0),(6,.x (.int .i64 (x.1.1:Int)))]) (fun x=>[(3,[.x (.func (.func g) #[] gl),.x (.func (.func sf) #[] gs)]),(1003,ay x.1.2)]) (fun x=>b-x.1.1) ⟨(a+1,d),A0c,A0c,hd,rfl⟩ A0h A0h (fun⟨⟨i,dk⟩,hi1,hi2,hdk,heq⟩=>?_);simp only at hi1 hi2 hdk heq;by_cases hi:i<b
 . have c1:decide ((i:Int)<(b:Int))=true:=Zk A0c;rw[Go.Sort.insOuter,Zp hi] at heq;have w2:aw .i64 ((i:Int)+1)=((i+1:Nat):Int):=by rw[aj A0j];omega
   simp +decide (maxDischargeDepth:=200) only[go_sem,X1,X2,X3,bg,c1];refine dt (X:={y:Nat×Array C3//a<=y.1∧y.1<=i∧y.2.size=N∧Go.Sort.insInner ab a y.1 y.2=Go.Sort.insInner ab a i dk}) (fun y=>[(1,.x (.int .i64 (a:Int))),(2,.x (.int .i64 (b:Int))),(3,.ptr 3 0),(6,.x (.int .i64 (i:Int))),(7,.x (.int .i64 (y.1.1:Int)))]) (fun y=>[(3,[.x (.func (.func g) #[] gl),.x (.func (.func sf) #[] gs)]),(1003,ay y.1.2)]) (fun y=>y.1.1) ⟨(i,dk),A0c,A0c,hdk,rfl⟩ A0h A0h (fun⟨⟨j,dj⟩,hj1,hj2,hdj,hej⟩=>?_);simp only at hj1 hj2 hdj hej;by_cases hj:a<j
   . obtain⟨k,rfl⟩:∃k,j=k+1:=⟨j-1,A0c⟩;have q1:decide ((a:Int)<((k+1:Nat):Int))=true:=Zk A0c;have q2:aw .i64 (((k+1:Nat):Int)-1)=((k:Nat):Int):=by rw[aj A0j];omega
     have l1:=cy (N:=N) (k+1) k dj A0c A0c hdj;have s1:=dz (N:=N) (k+1) k dj A0c A0c hdj;rw[Go.Sort.insInner] at hej;cases hl:ab dj[k+1]! dj[k]! with
     |false=>rw[hl] at l1 hej;simp only[Bool.and_false,ZK,Zz] at hej;simp +decide (maxDischargeDepth:=200) only[go_sem,X1,X2,X3,bg,q1,q2,w2,l1];refine⟨⟨(i+1,dj),A0c,A0c,hdj,by rw[hej];exact heq⟩,?_,?_,by simp only;omega⟩<;>simp +decide only[go_sem]<;>(repeat' first|rfl|constructor)
     |true=>rw[hl] at l1 hej;simp only[abe,ZV,acw,hj,ZD] at hej;simp +decide (maxDischargeDepth:=200) only[go_sem,X1,X2,X3,bg,q1,q2,w2,l1,s1];refine⟨⟨(k,swp dj (k+1) k),A0c,A0c,by rw[bu];exact hdj,hej⟩,?_,?_,by simp only;omega⟩<;>simp +decide only[go_sem]<;>(repeat' first|rfl|constructor)
   . have q1:decide ((a:Int)<((j:Nat):Int))=false:=Zl A0c;rw[pg hj] at hej;simp +decide (maxDischargeDepth:=200) only[go_sem,X1,X2,X3,bg,q1,w2];refine⟨⟨(i+1,dj),A0c,A0c,hdj,by rw[hej];exact heq⟩,?_,?_,by simp only;omega⟩<;>simp +decide only[go_sem]<;>(repeat' first|rfl|constructor)
 . have c1:decide ((i:Int)<(b:Int))=false:=Zl A0c;rw[Go.Sort.insOuter,Zs hi] at heq;subst heq;simp +decide (maxDischargeDepth:=200) only[go_sem,X1,X2,X3,bg,c1]
def qa (N:Nat) (x:Nat×Nat×Nat×Array C3):Option (V×List (List V)):=if x.1<=N∧x.2.2.1+x.2.1<=N∧x.2.2.2.size=N then some (.tup [],[ay (Go.Sort.siftDown ab x.2.1 x.2.2.1 x.1 x.2.2.2)]) else none
def uD (N:Nat) (x:Nat×Nat×Array C3):Option (V×List (List V)):=if x.1<=x.2.1∧x.2.1<=N∧x.2.2.size=N then some (.tup [],[ay (Go.Sort.heapSort ab x.2.2 x.1 x.2.1)]) else none
section
variable {hi F r:Nat} {d:Array C3}
theorem rx (h: ¬2*r+1<hi):Go.Sort.siftDown ab hi F r d=d:=by rw[Go.Sort.siftDown,dif_pos A0c]
theorem SX (h:2*r+2<hi) (h1:ab d[F+(2*r+1)]! d[F+(2*r+1)+1]! =true):Go.Sort.siftDown ab hi F r d=if ab d[F+r]! d[F+(2*r+2)]! =true then Go.Sort.siftDown ab hi F (2*r+2) (swp d (F+r) (F+(2*r+2))) else d:=by
 rw[Go.Sort.siftDown,dif_neg A0c];have e:(decide (2*r+1+1<hi)&&ab d[F+(2*r+1)]! d[F+(2*r+1)+1]!)=true:=by rw[h1,abe];exact Zk A0c
 rw[Zp e];cases ab d[F+r]! d[F+(2*r+2)]! <;>simp[h]
theorem NZ (h0:2*r+1<hi) (h1: ¬(2*r+2<hi∧ab d[F+(2*r+1)]! d[F+(2*r+1)+1]! =true)):Go.Sort.siftDown ab hi F r d=if ab d[F+r]! d[F+(2*r+1)]! =true then Go.Sort.siftDown ab hi F (2*r+1) (swp d (F+r) (F+(2*r+1))) else d:=by
 rw[Go.Sort.siftDown,dif_neg A0c];have e: ¬(decide (2*r+1+1<hi)&&ab d[F+(2*r+1)]! d[F+(2*r+1)+1]!)=true:=by intro e;rw[Zq,ZV] at e;exact h1 ⟨A0c,e.2⟩
 rw[Zs e];cases ab d[F+r]! d[F+(2*r+1)]! <;>simp
end
theorem AQ (hi F:Nat):∀(n r:Nat) (d:Array C3),hi-r<=n->(Go.Sort.siftDown ab hi F r d).size=d.size:=by
 intro n
 induction n with
 |zero=>intro r d h;rw[rx A0c]
 | succ n ih=>
   intro r d h;by_cases h0:2*r+1<hi
   . by_cases h1:2*r+2<hi∧ab d[F+(2*r+1)]! d[F+(2*r+1)+1]! =true
     . rw[SX h1.1 h1.2];split
       . rw[ih _ _ A0c,bu]
       . rfl
     . rw[NZ h0 h1];split
       . rw[ih _ _ A0c,bu]
       . rfl
   . rw[rx h0]
theorem N0 (hS:SoOK G bk N g sf gl gs):FunXV G bk 81 [] (FE (fI g sf gl gs) (qa N)):=by
 obtain⟨X,hX,X1,X2,X3⟩:=iA hS [] trivial;have hN:=hS.N1;unfold MX at hN;refine ig (k:=4) hX Try.func81 rfl (fun a w=>Try.call81 a w) Try.ntmps81 A0a A0b A0b ?_;clear hX;intro us r outs hF;obtain⟨⟨lo,hi,F,d⟩,hus,hG⟩:=bL hF;clear hF;subst hus;unfold qa at hG;obtain⟨⟨hlo,hFh,hd⟩,hG⟩:=bP hG;simp only at hlo hFh hd;cases hG;refine⟨_,rfl,rfl,?_⟩;simp only[fI];simp +decide (maxDischargeDepth:=200) only[go_sem,X1,X2,X3,bg];refine dt (X:={x:Nat×Array C3//x.1<=N∧x.2.size=N∧Go.Sort.siftDown ab hi F x.1 x.2=Go.Sort.siftDown ab hi F lo d}) (fun x=>[(1,.x (.int .i64 (lo:Int))),(2,.x (.int .i64 (hi:Int))),(3,.x (.int .i64 (F:Int))),(4,.ptr 4 0),(8,.x (.int .i64 (x.1.1:Int)))]) (fun x=>[(4,[.x (.func (.func g) #[] gl),.x (.func (.func sf) #[] gs)]),(1004,ay x.1.2)]) (fun x=>hi-x.1.1) ⟨(lo,d),A0c,hd,rfl⟩ A0h A0h (fun⟨⟨r,dk⟩,hr,hdk,heq⟩=>?_);simp only at hr hdk heq;have p1:aw .i64 (2*((r:Nat):Int))=((2*r:Nat):Int):=by rw[aj A0j];omega
 have p2:aw .i64 (((2*r:Nat):Int)+1)=((2*r+1:Nat):Int):=by rw[aj A0j];omega
 by_cases h0:2*r+1<hi
 . have c1:decide (((hi:Nat):Int)<=((2*r+1:Nat):Int))=false:=Zl A0c;have p3:aw .i64 (((2*r+1:Nat):Int)+1)=((2*r+2:Nat):Int):=by rw[aj A0j];omega
   by_cases h1:2*r+2<hi
   . have c2:decide (((2*r+2:Nat):Int)<((hi:Nat):Int))=true:=Zk A0c;have p4:aw .i64 ((F:Int)+((2*r+1:Nat):Int))=((F+(2*r+1):Nat):Int):=by rw[aj A0j];omega
     have p5:aw .i64 (((F+(2*r+1):Nat):Int)+1)=((F+(2*r+1)+1:Nat):Int):=by rw[aj A0j];omega
     have l1:=cy (N:=N) (F+(2*r+1)) (F+(2*r+1)+1) dk A0c A0c hdk;cases hl:ab dk[F+(2*r+1)]! dk[F+(2*r+1)+1]! with
     | true=>
       rw[SX h1 hl] at heq;rw[hl] at l1;have p6:aw .i64 ((F:Int)+((r:Nat):Int))=((F+r:Nat):Int):=by rw[aj A0j];omega
       have p7:aw .i64 ((F:Int)+((2*r+2:Nat):Int))=((F+(2*r+2):Nat):Int):=by rw[aj A0j];omega
       have l2:=cy (N:=N) (F+r) (F+(2*r+2)) dk A0c A0c hdk;have s2:=dz (N:=N) (F+r) (F+(2*r+2)) dk A0c A0c hdk;cases hl2:ab dk[F+r]! dk[F+(2*r+2)]! with
       |false=>rw[hl2] at l2 heq;simp only[ZK,Zz] at heq;subst heq;simp +decide (maxDischargeDepth:=200) only[go_sem,X1,X2,X3,bg,p1,p2,c1,p3,p4,p5,c2,l1,p6,p7,l2]
       |true=>rw[hl2] at l2 heq;simp only[ZD] at heq;simp +decide (maxDischargeDepth:=200) only[go_sem,X1,X2,X3,bg,p1,p2,c1,p3,p4,p5,c2,l1,p6,p7,l2,s2];refine⟨⟨(2*r+2,swp dk (F+r) (F+(2*r+2))),A0c,by rw[bu];exact hdk,heq⟩,?_,?_,by simp only;omega⟩<;>simp +decide only[go_sem]<;>(repeat' first|rfl|constructor)
     | false=>
       rw[NZ h0 (by rw[hl];simp)] at heq;rw[hl] at l1;have p6:aw .i64 ((F:Int)+((r:Nat):Int))=((F+r:Nat):Int):=by rw[aj A0j];omega
       have p7:aw .i64 ((F:Int)+((2*r+1:Nat):Int))=((F+(2*r+1):Nat):Int):=by rw[aj A0j];omega
       have l2:=cy (N:=N) (F+r) (F+(2*r+1)) dk A0c A0c hdk;have s2:=dz (N:=N) (F+r) (F+(2*r+1)) dk A0c A0c hdk;cases hl2:ab dk[F+r]! dk[F+(2*r+1)]! with
       |false=>rw[hl2] at l2 heq;simp only[ZK,Zz] at heq;subst heq;simp +decide (maxDischargeDepth:=200) only[go_sem,X1,X2,X3,bg,p1,p2,c1,p3,p4,p5,c2,l1,p6,p7,l2]
       |true=>rw[hl2] at l2 heq;simp only[ZD] at heq;simp +decide (maxDischargeDepth:=200) only[go_sem,X1,X2,X3,bg,p1,p2,c1,p3,p4,p5,c2,l1,p6,p7,l2,s2];refine⟨⟨(2*r+1,swp dk (F+r) (F+(2*r+1))),A0c,by rw[bu];exact hdk,heq⟩,?_,?_,by simp only;omega⟩<;>simp +decide only[go_sem]<;>(repeat' first|rfl|constructor)
   . have c2:decide (((2*r+2:Nat):Int)<((hi:Nat):Int))=false:=Zl A0c;rw[NZ h0 A0c] at heq;have p6:aw .i64 ((F:Int)+((r:Nat):Int))=((F+r:Nat):Int):=by rw[aj A0j];omega
     have p7:aw .i64 ((F:Int)+((2*r+1:Nat):Int))=((F+(2*r+1):Nat):Int):=by rw[aj A0j];omega
     have l2:=cy (N:=N) (F+r) (F+(2*r+1)) dk A0c A0c hdk;have s2:=dz (N:=N) (F+r) (F+(2*r+1)) dk A0c A0c hdk;cases hl2:ab dk[F+r]! dk[F+(2*r+1)]! with
     |false=>rw[hl2] at l2 heq;simp only[ZK,Zz] at heq;subst heq;simp +decide (maxDischargeDepth:=200) only[go_sem,X1,X2,X3,bg,p1,p2,c1,p3,c2,p6,p7,l2]
     |true=>rw[hl2] at l2 heq;simp only[ZD] at heq;simp +decide (maxDischargeDepth:=200) only[go_sem,X1,X2,X3,bg,p1,p2,c1,p3,c2,p6,p7,l2,s2];refine⟨⟨(2*r+1,swp dk (F+r) (F+(2*r+1))),A0c,by rw[bu];exact hdk,heq⟩,?_,?_,by simp only;omega⟩<;>simp +decide only[go_sem]<;>(repeat' first|rfl|constructor)
 . have c1:decide (((hi:Nat):Int)<=((2*r+1:Nat):Int))=true:=Zk A0c;rw[rx h0] at heq;subst heq;simp +decide (maxDischargeDepth:=200) only[go_sem,X1,X2,X3,bg,p1,p2,c1]
theorem AR (lo hi F:Nat) (d:Array C3) (h1:lo<=N) (h2:F+hi<=N) (h3:d.size=N):FE (fI g sf gl gs) (qa N) [dB g sf gl gs,.x (.int .i64 (lo:Int)),.x (.int .i64 (hi:Int)),.x (.int .i64 (F:Int)),.bx (ay d)]=some (.tup [],[ay (Go.Sort.siftDown ab hi F lo d)]):=
 (cL ky (qa N) (lo,hi,F,d)).trans (Zp ⟨h1,h2,h3⟩)
theorem GT (hi F:Nat) (d:Array C3) (h2:F+hi<=N) (h3:d.size=N):FE (fI g sf gl gs) (qa N) [dB g sf gl gs,.x (.int .i64 0),.x (.int .i64 (hi:Int)),.x (.int .i64 (F:Int)),.bx (ay d)]=some (.tup [],[ay (Go.Sort.siftDown ab hi F 0 d)]):=AR 0 hi F d (Z0 _) h2 h3
theorem N2 (n:Nat) (h:n<=1000000):aw .i64 (aw .i64 ((n:Int)-1)|>.tdiv 2)=((((n-1)/2+1:Nat)):Int)-1:=by
 have e0:aw .i64 ((n:Int)-1)=(n:Int)-1:=aj A0j;rw[e0];have e:((n:Int)-1).tdiv 2=((((n-1)/2+1:Nat)):Int)-1:=by
  cases n with
  |zero=>decide
  |succ n=>rw[show((n+1:Nat):Int)-1=((n:Nat):Int) from by omega,ab4 A0c];omega
 rw[e];exact aj A0j
theorem N3 (hS:SoOK G bk N g sf gl gs):FunXV G bk 71 [] (FE (dS g sf gl gs) (uD N)):=by
 obtain⟨X,hX,X1,X2,X3⟩:=iA hS [(81,FE (fI g sf gl gs) (qa N))] ⟨N0 hS,trivial⟩;have hN:=hS.N1;unfold MX at hN;refine ig (k:=3) hX Try.func71 rfl (fun a w=>Try.call71 a w) Try.ntmps71 A0a A0b A0b ?_;clear hX;intro us r outs hF;obtain⟨⟨a,b,d⟩,hus,hG⟩:=bL hF;clear hF;subst hus;unfold uD at hG;obtain⟨⟨hab,hbN,hd⟩,hG⟩:=bP hG;simp only at hab hbN hd;cases hG;refine⟨_,rfl,rfl,?_⟩;simp only[dS];have w1:aw .i64 ((b:Int)-(a:Int))=((b-a:Nat):Int):=by rw[aj A0j];omega
 have w2:=N2 (b-a) A0c;simp +decide (maxDischargeDepth:=200) only[go_sem,X1,X2,X3,bg,w1,w2];refine dt (X:={x:Nat×Array C3//x.1<=N+1∧x.2.size=N∧Go.Sort.heapPop ab a (b-a) (Go.Sort.heapBuild ab (b-a) a x.1 x.2)=Go.Sort.heapSort ab d a b}) (fun x=>[(1,.x (.int .i64 (a:Int))),(2,.x (.int .i64 (b:Int))),(3,.ptr 3 0),(6,.x (.int .i64 (a:Int))),(7,.x (.int .i64 0)),(8,.x (.int .i64 ((b-a:Nat):Int))),(9,.x (.int .i64 ((x.1.1:Int)-1)))]) (fun x=>[(3,[.x (.func (.func g) #[] gl),.x (.func (.func sf) #[] gs)]),(1003,ay x.1.2)]) (fun x=>x.1.1) ⟨((b-a-1)/2+1,d),by simp only;omega,hd,rfl⟩ A0h A0h (fun⟨⟨k,dk⟩,hk,hdk,heq⟩=>?_);simp only at hk hdk heq;cases k with
 | succ k=>
   have c1:decide ((0:Int)<=((k+1:Nat):Int)-1)=true:=Zk A0c;have e1:((k+1:Nat):Int)-1=((k:Nat):Int):=A0c
   have e2:aw .i64 ((k:Int)-1)=(k:Int)-1:=aj A0j;have s1:=AR (g:=g) (sf:=sf) (gl:=gl) (gs:=gs) (N:=N) k (b-a) a dk A0c A0c hdk;rw[Go.Sort.heapBuild] at heq;rw[e1] at c1⊢;simp +decide (maxDischargeDepth:=200) only[go_sem,X1,X2,X3,bg,c1,e2,s1];refine⟨⟨(k,Go.Sort.siftDown ab (b-a) a k dk),by simp only;omega,by rw[AQ _ _ _ _ _ (Zt _)];exact hdk,heq⟩,?_,?_,by simp only;omega⟩<;>simp +decide only[go_sem]<;>(repeat' first|rfl|constructor)
 | zero=>
   have c1:decide ((0:Int)<=((0:Nat):Int)-1)=false:=Zl A0c;rw[Go.Sort.heapBuild] at heq;have e2:aw .i64 (((b-a:Nat):Int)-1)=((b-a:Nat):Int)-1:=aj A0j;simp +decide (maxDischargeDepth:=200) only[go_sem,X1,X2,X3,bg,c1,e2];refine dt (X:={x:Nat×Array C3//x.1<=b-a∧x.2.size=N∧Go.Sort.heapPop ab a x.1 x.2=Go.Sort.heapSort ab d a b}) (fun x=>[(1,.x (.int .i64 (a:Int))),(2,.x (.int .i64 (b:Int))),(3,.ptr 3 0),(6,.x (.int .i64 (a:Int))),(7,.x (.int .i64 0)),(8,.x (.int .i64 ((b-a:Nat):Int))),(10,.x (.int .i64 ((x.1.1:Int)-1)))]) (fun x=>[(3,[.x (.func (.func g) #[] gl),.x (.func (.func sf) #[] gs)]),(1003,ay x.1.2)]) (fun x=>x.1.1) ⟨(b-a,dk),by simp only;omega,hdk,heq⟩ A0h A0h (fun⟨⟨k,dk⟩,hk,hdk,heq⟩=>?_);simp only at hk hdk heq;clear c1;cases k with
   | succ k=>
     have c1:decide ((0:Int)<=((k+1:Nat):Int)-1)=true:=Zk A0c;have e1:((k+1:Nat):Int)-1=((k:Nat):Int):=A0c
     have e3:aw .i64 ((k:Int)-1)=(k:Int)-1:=aj A0j;have e4:aw .i64 ((a:Int)+(k:Int))=((a+k:Nat):Int):=by rw[aj A0j];omega
     have t1:=dz (N:=N) a (a+k) dk A0c A0c hdk;have s1:=GT (g:=g) (sf:=sf) (gl:=gl) (gs:=gs) (N:=N) k a (swp dk a (a+k)) A0c (by rw[bu];exact hdk);rw[Go.Sort.heapPop] at heq;rw[e1] at c1⊢;simp +decide (maxDischargeDepth:=200) only[go_sem,X1,X2,X3,bg,c1,e3,e4,t1,s1];refine⟨⟨(k,Go.Sort.siftDown ab k a 0 (swp dk a (a+k))),by simp only;omega,by rw[AQ _ _ _ _ _ (Zt _),bu];exact hdk,heq⟩,?_,?_,by simp only;omega⟩<;>simp +decide only[go_sem]<;>(repeat' first|rfl|constructor)
   |zero=>have c1:decide ((0:Int)<=((0:Nat):Int)-1)=false:=Zl A0c;rw[Go.Sort.heapPop] at heq;subst heq;simp +decide (maxDischargeDepth:=200) only[go_sem,X1,X2,X3,bg,c1]
section
variable {p:C3->Bool} {d:Array C3}
theorem mG {i j:Nat} (h:i<=j) (hp:p d[i]! =true):Go.Sort.scanUp p d j i=Go.Sort.scanUp p d j (i+1):=by rw[Go.Sort.scanUp,Zp (by rw[hp,abe];exact Zk h)]
theorem eY {i j:Nat} (h: ¬(i<=j∧p d[i]! =true)):Go.Sort.scanUp p d j i=i:=by rw[Go.Sort.scanUp,Zs (by rw[Zq,ZV];exact h)]
theorem AS {j:Nat}:∀(n i:Nat),j+1-i<=n->i<=Go.Sort.scanUp p d j i∧(Go.Sort.scanUp p d j i<=j+1∨Go.Sort.scanUp p d j i=i):=by
 intro n
 induction n with
 |zero=>intro i h;rw[eY A0c];omega
 | succ n ih=>
   intro i h;by_cases h0:i<=j∧p d[i]! =true
   . rw[mG h0.1 h0.2];have:=ih (i+1) A0c;omega
   . rw[eY h0];omega
theorem mH {i j:Nat} (h:i<=j+1) (hp:p d[j+1]! =true):Go.Sort.scanDown p d i (j+1)=Go.Sort.scanDown p d i j:=by rw[Go.Sort.scanDown,Zp (by rw[hp,abe];exact Zk h)]
theorem eZ {i j:Nat} (h: ¬(i<=j∧p d[j]! =true)):Go.Sort.scanDown p d i j=j:=by
 cases j with
 |zero=>rfl
 |succ j=>rw[Go.Sort.scanDown,Zs (by rw[Zq,ZV];exact h)]
theorem AT {i:Nat} (hi:1<=i):∀j:Nat,Go.Sort.scanDown p d i j<=j∧(i<=Go.Sort.scanDown p d i j+1∨Go.Sort.scanDown p d i j=j):=by
 intro j
 induction j with
 |zero=>rw[eZ A0c];omega
 | succ j ih=>
   by_cases h0:i<=j+1∧p d[j+1]! =true
   . rw[mH h0.1 h0.2];omega
   . rw[eZ h0];omega
end
variable {I:Nat}
theorem ry {i j J:Nat} (hI:Go.Sort.scanUp (fun x=>ab x d[a]!) d j i=I) (hJ:Go.Sort.scanDown (fun x=> !ab x d[a]!) d I j=J) (h:J<I):Go.Sort.partLoop ab a i j d=(J,d):=by rw[Go.Sort.partLoop];simp only[hI,hJ,acw,h,ZD]
theorem AU {i j J:Nat} (hI:Go.Sort.scanUp (fun x=>ab x d[a]!) d j i=I) (hJ:Go.Sort.scanDown (fun x=> !ab x d[a]!) d I j=J) (h: ¬J<I) (h2:J-1+1-(I+1)<j+1-i):Go.Sort.partLoop ab a i j d=Go.Sort.partLoop ab a (I+1) (J-1) (swp d I J):=by rw[Go.Sort.partLoop];simp only[hI,hJ,acw,h,Zz,h2,dif_pos]
theorem SY:∀(n i j:Nat) (d:Array C3),j+1-i<=n->1<=i->i<=j+2->(Go.Sort.partLoop ab a i j d).1<=j∧(Go.Sort.partLoop ab a i j d).2.size=d.size:=by
 intro n
 induction n with
 |zero=>intro i j d h h1 h3;have hI:=eY (p:=fun x=>ab x d[a]!) (d:=d) (i:=i) (j:=j) A0c;have hJ:=eZ (p:=fun x=> !ab x d[a]!) (d:=d) (i:=i) (j:=j) A0c;rw[ry hI hJ A0c];exact⟨by simp only;omega,rfl⟩
 | succ n ih=>
   intro i j d h h1 h3;obtain⟨I,hI⟩:∃I,Go.Sort.scanUp (fun x=>ab x d[a]!) d j i=I:=⟨_,rfl⟩;obtain⟨J,hJ⟩:∃J,Go.Sort.scanDown (fun x=> !ab x d[a]!) d I j=J:=⟨_,rfl⟩;have b1:=AS (p:=fun x=>ab x d[a]!) (d:=d) (j:=j) _ i (Zt _);rw[hI] at b1;have b2:=AT (p:=fun x=> !ab x d[a]!) (d:=d) (i:=I) A0c j;rw[hJ] at b2;by_cases hc:J<I
   . rw[ry hI hJ hc];exact⟨by simp only;omega,rfl⟩
   . rw[AU hI hJ hc A0c];have:=ih (I+1) (J-1) (swp d I J) A0c A0c A0c;rw[bu] at this;exact⟨A0c,this.2⟩
theorem K1 {i j J:Nat} (hI:Go.Sort.scanUp (fun x=> !ab d[a]! x) d j i=I) (hJ:Go.Sort.scanDown (fun x=>ab d[a]! x) d I j=J) (h:J<I):Go.Sort.partEqLoop ab a i j d=(I,d):=by rw[Go.Sort.partEqLoop];simp only[hI,hJ,acw,h,ZD]
theorem K2 {i j J:Nat} (hI:Go.Sort.scanUp (fun x=> !ab d[a]! x) d j i=I) (hJ:Go.Sort.scanDown (fun x=>ab d[a]! x) d I j=J) (h: ¬J<I) (h2:J-1+1-(I+1)<j+1-i):Go.Sort.partEqLoop ab a i j d=Go.Sort.partEqLoop ab a (I+1) (J-1) (swp d I J):=by rw[Go.Sort.partEqLoop];simp only[hI,hJ,acw,h,Zz,h2,dif_pos]
def uE (N:Nat) (x:Nat×Nat×Nat×Array C3):Option (V×List (List V)):=if x.1<=x.2.2.1∧x.2.2.1<x.2.1∧x.2.1<=N∧x.2.2.2.size=N then some (.tup [.x (.int .i64 ((Go.Sort.partition ab x.2.2.2 x.1 x.2.1 x.2.2.1).1:Int)),.x (.bool (Go.Sort.partition ab x.2.2.2 x.1 x.2.1 x.2.2.1).2.1)],[ay (Go.Sort.partition ab x.2.2.2 x.1 x.2.1 x.2.2.1).2.2]) else none
def nY (N:Nat) (x:Nat×Nat×Nat×Array C3):Option (V×List (List V)):=if x.1<=x.2.2.1∧x.2.2.1<x.2.1∧x.2.1<=N∧x.2.2.2.size=N then some (.x (.int .i64 ((Go.Sort.partitionEqual ab x.2.2.2 x.1 x.2.1 x.2.2.1).1:Int)),[ay (Go.Sort.partitionEqual ab x.2.2.2 x.1 x.2.1 x.2.2.1).2]) else none
variable {b pv:Nat}
theorem Do {J:Nat} {d1:Array C3} (h1:swp d a pv=d1) (hI:Go.Sort.scanUp (fun x=>ab x d1[a]!) d1 (b-1) (a+1)=I) (hJ:Go.Sort.scanDown (fun x=> !ab x d1[a]!) d1 I (b-1)=J) (h:J<I):Go.Sort.partition ab d a b pv=(J,true,swp d1 J a):=by unfold Go.Sort.partition;simp only[h1,hI,hJ,acw,h,ZD]
theorem K3 {J:Nat} {d1:Array C3} (h1:swp d a pv=d1) (hI:Go.Sort.scanUp (fun x=>ab x d1[a]!) d1 (b-1) (a+1)=I) (hJ:Go.Sort.scanDown (fun x=> !ab x d1[a]!) d1 I (b-1)=J) (h: ¬J<I):Go.Sort.partition ab d a b pv=((Go.Sort.partLoop ab a (I+1) (J-1) (swp d1 I J)).1,false,swp (Go.Sort.partLoop ab a (I+1) (J-1) (swp d1 I J)).2 (Go.Sort.partLoop ab a (I+1) (J-1) (swp d1 I J)).1 a):=by unfold Go.Sort.partition;simp only[h1,hI,hJ,acw,h,Zz]
theorem N4 (hS:SoOK G bk N g sf gl gs):FunXV G bk 77 [] (FE (fI g sf gl gs) (uE N)):=by
 obtain⟨X,hX,X1,X2,X3⟩:=iA hS [] trivial;have hN:=hS.N1;unfold MX at hN;refine cd (k:=4) hX Try.func77 rfl (fun a w=>Try.call77 a w) Try.ntmps77 A0b A0b ?_;clear hX;intro us r outs hF;obtain⟨⟨a,b,pv,d⟩,hus,hG⟩:=bL hF;clear hF;subst hus;unfold uE at hG;obtain⟨⟨hap,hpb,hbN,hd⟩,hG⟩:=bP hG;simp only at hap hpb hbN hd;cases hG;refine⟨_,rfl,rfl,fun pm m0 w0 hE=>?_⟩;simp only[fI];have s0:=dz (N:=N) a pv d A0c A0c hd;obtain⟨d1,hd1⟩:∃d1,swp d a pv=d1:=⟨_,rfl⟩;have hz1:d1.size=N:=by rw[<-hd1,bu];exact hd
 rw[hd1] at s0;have w1:aw .i64 ((a:Int)+1)=((a+1:Nat):Int):=by rw[aj A0j];omega
 have w2:aw .i64 ((b:Int)-1)=((b-1:Nat):Int):=by rw[aj A0j];omega
 refine Sem.seq [(1,.x (.int .i64 (a:Int))),(2,.x (.int .i64 (b:Int))),(3,.x (.int .i64 (pv:Int))),(4,.ptr 4 0)] [(4,[.x (.func (.func g) #[] gl),.x (.func (.func sf) #[] gs)]),(1004,ay d)] (Sem.run hE ah A0a A0o) ?_;refine Sem.seq [(1,.x (.int .i64 (a:Int))),(2,.x (.int .i64 (b:Int))),(3,.x (.int .i64 (pv:Int))),(4,.ptr 4 0)] [(4,[.x (.func (.func g) #[] gl),.x (.func (.func sf) #[] gs)]),(1004,ay d1)] (Sem.run hE ah A0a A03) ?_;refine Sem.seq [(1,.x (.int .i64 (a:Int))),(4,.ptr 4 0),(10,.x (.int .i64 ((a+1:Nat):Int))),(11,.x (.int .i64 ((b-1:Nat):Int)))] [(4,[.x (.func (.func g) #[] gl),.x (.func (.func sf) #[] gs)]),(1004,ay d1)] (Sem.run hE ah A0a A01) ?_;obtain⟨IF,hIF⟩:∃I,Go.Sort.scanUp (fun x=>ab x d1[a]!) d1 (b-1) (a+1)=I:=⟨_,rfl⟩;obtain⟨JF,hJF⟩:∃J,Go.Sort.scanDown (fun x=> !ab x d1[a]!) d1 IF (b-1)=J:=⟨_,rfl⟩;have buF:=AS (p:=fun x=>ab x d1[a]!) (d:=d1) (j:=b-1) _ (a+1) (Zt _);rw[hIF] at buF;have bdF:=AT (p:=fun x=> !ab x d1[a]!) (d:=d1) (i:=IF) A0c (b-1);rw[hJF] at bdF;refine Sem.seq [(1,.x (.int .i64 (a:Int))),(4,.ptr 4 0),(10,.x (.int .i64 ((IF:Nat):Int))),(11,.x (.int .i64 ((b-1:Nat):Int)))] [(4,[.x (.func (.func g) #[] gl),.x (.func (.func sf) #[] gs)]),(1004,ay d1)] (Sem.block (Sem.loop (X:={i:Nat//a+1<=i∧(i<=b-1+1∨i=a+1)∧Go.Sort.scanUp (fun x=>ab x d1[a]!) d1 (b-1) i=IF}) (fun x=>[(1,.x (.int .i64 (a:Int))),(4,.ptr 4 0),(10,.x (.int .i64 ((x.1:Nat):Int))),(11,.x (.int .i64 ((b-1:Nat):Int)))]) (fun _=>[(4,[.x (.func (.func g) #[] gl),.x (.func (.func sf) #[] gs)]),(1004,ay d1)]) (fun x=>b-1+1-x.1) ⟨a+1,A0c,A0c,hIF⟩ A0h A0h (fun⟨i,hi1,hi2,hi3⟩=>Sem.run hE ah A0a ?_))) ?_
 . simp only;by_cases hc:i<=b-1
   . have c1:decide (((i:Nat):Int)<=((b-1:Nat):Int))=true:=Zk A0c;have c2:aw .i64 (((i:Nat):Int)+1)=((i+1:Nat):Int):=by rw[aj A0j];omega
     have l1:=cy (N:=N) i a d1 A0c A0c hz1;cases hl:ab d1[i]! d1[a]! with
     |true=>rw[mG hc A0T] at hi3;rw[hl] at l1;simp +decide (maxDischargeDepth:=200) only[go_sem,X1,X2,X3,bg,c1,c2,l1];refine⟨⟨i+1,A0c,A0c,hi3⟩,?_,?_,by simp only;omega⟩<;>simp +decide only[go_sem]<;>(repeat' first|rfl|constructor)
     |false=>rw[eY A0T] at hi3;rw[hl] at l1;rw[<-hi3];simp +decide (maxDischargeDepth:=200) only[go_sem,X1,X2,X3,bg,c1,c2,l1]
   . have c1:decide (((i:Nat):Int)<=((b-1:Nat):Int))=false:=Zl A0c;rw[eY (fun h=>hc h.1)] at hi3;rw[<-hi3];simp +decide (maxDischargeDepth:=200) only[go_sem,X1,X2,X3,bg,c1]
 refine Sem.seq [(1,.x (.int .i64 (a:Int))),(4,.ptr 4 0),(10,.x (.int .i64 ((IF:Nat):Int))),(11,.x (.int .i64 ((JF:Nat):Int)))] [(4,[.x (.func (.func g) #[] gl),.x (.func (.func sf) #[] gs)]),(1004,ay d1)] (Sem.block (Sem.loop (X:={j:Nat//j<=b-1∧(IF<=j+1∨j=b-1)∧Go.Sort.scanDown (fun x=> !ab x d1[a]!) d1 IF j=JF}) (fun x=>[(1,.x (.int .i64 (a:Int))),(4,.ptr 4 0),(10,.x (.int .i64 ((IF:Nat):Int))),(11,.x (.int .i64 ((x.1:Nat):Int)))]) (fun _=>[(4,[.x (.func (.func g) #[] gl),.x (.func (.func sf) #[] gs)]),(1004,ay d1)]) (fun x=>x.1) ⟨b-1,A0c,A0c,hJF⟩ A0h A0h (fun⟨j,hj1,hj2,hj3⟩=>Sem.run hE ah A0a ?_))) ?_
 . simp only;by_cases hc:IF<=j
   . obtain⟨k,rfl⟩:∃k,j=k+1:=⟨j-1,A0c⟩;have c1:decide (((IF:Nat):Int)<=((k+1:Nat):Int))=true:=Zk A0c;have c2:aw .i64 (((k+1:Nat):Int)-1)=((k:Nat):Int):=by rw[aj A0j];omega
     have l1:=cy (N:=N) (k+1) a d1 A0c A0c hz1;cases hl:ab d1[k+1]! d1[a]! with
     |false=>rw[mH hc A0T] at hj3;rw[hl] at l1;simp +decide (maxDischargeDepth:=200) only[go_sem,X1,X2,X3,bg,c1,c2,l1];refine⟨⟨k,A0c,A0c,hj3⟩,?_,?_,by simp only;omega⟩<;>simp +decide only[go_sem]<;>(repeat' first|rfl|constructor)
     |true=>rw[eZ A0T] at hj3;rw[hl] at l1;rw[<-hj3];simp +decide (maxDischargeDepth:=200) only[go_sem,X1,X2,X3,bg,c1,c2,l1]
   . have c1:decide (((IF:Nat):Int)<=((j:Nat):Int))=false:=Zl A0c;rw[eZ (fun h=>hc h.1)] at hj3;rw[<-hj3];simp +decide (maxDischargeDepth:=200) only[go_sem,X1,X2,X3,bg,c1]
 by_cases hc:JF<IF
 . rw[Do hd1 hIF hJF hc];have c1:decide (((JF:Nat):Int)<((IF:Nat):Int))=true:=Zk A0c;have s1:=dz (N:=N) JF a d1 A0c A0c hz1;refine Sem.seq_out (Sem.run hE ah A0a ?_);simp +decide (maxDischargeDepth:=200) only[go_sem,X1,X2,X3,bg,c1,s1]
 . rw [K3 hd1 hIF hJF hc];have c1:decide (((JF:Nat):Int)<((IF:Nat):Int))=false:=Zl A0c;have c2:aw .i64 (((IF:Nat):Int)+1)=((IF+1:Nat):Int):=by rw[aj A0j];omega
   have c3:aw .i64 (((JF:Nat):Int)-1)=((JF-1:Nat):Int):=by rw[aj A0j];omega
   have s1:=dz (N:=N) IF JF d1 A0c A0c hz1;obtain⟨d2,hd2⟩:∃d2,swp d1 IF JF=d2:=⟨_,rfl⟩;have hz2:d2.size=N:=by rw[<-hd2,bu];exact hz1
   rw[hd2] at s1⊢;obtain⟨PL,hPL⟩:∃PL,Go.Sort.partLoop ab a (IF+1) (JF-1) d2=PL:=⟨_,rfl⟩;have bPL:=SY (a:=a) _ (IF+1) (JF-1) d2 (Zt _) A0c A0c;rw[hPL] at bPL⊢;refine Sem.seq [(1,.x (.int .i64 (a:Int))),(4,.ptr 4 0),(10,.x (.int .i64 ((IF:Nat):Int))),(11,.x (.int .i64 ((JF:Nat):Int)))] [(4,[.x (.func (.func g) #[] gl),.x (.func (.func sf) #[] gs)]),(1004,ay d1)] (Sem.run hE ah A0a A0I) ?_;refine Sem.seq [(1,.x (.int .i64 (a:Int))),(4,.ptr 4 0),(10,.x (.int .i64 ((IF:Nat):Int))),(11,.x (.int .i64 ((JF:Nat):Int)))] [(4,[.x (.func (.func g) #[] gl),.x (.func (.func sf) #[] gs)]),(1004,ay d2)] (Sem.run hE ah A0a (by simp +decide (maxDischargeDepth:=200) only[go_sem,X1,X2,X3,bg,s1])) ?_;refine Sem.seq [(1,.x (.int .i64 (a:Int))),(4,.ptr 4 0),(10,.x (.int .i64 ((IF+1:Nat):Int))),(11,.x (.int .i64 ((JF:Nat):Int)))] [(4,[.x (.func (.func g) #[] gl),.x (.func (.func sf) #[] gs)]),(1004,ay d2)] (Sem.run hE ah A0a A04) ?_;refine Sem.seq [(1,.x (.int .i64 (a:Int))),(4,.ptr 4 0),(10,.x (.int .i64 ((IF+1:Nat):Int))),(11,.x (.int .i64 ((JF-1:Nat):Int)))] [(4,[.x (.func (.func g) #[] gl),.x (.func (.func sf) #[] gs)]),(1004,ay d2)] (Sem.run hE ah A0a (by simp +decide (maxDischargeDepth:=200) only[go_sem,X1,X2,X3,bg,c3])) ?_;refine Sem.seq [(1,.x (.int .i64 (a:Int))),(4,.ptr 4 0),(11,.x (.int .i64 ((PL.1:Nat):Int)))] [(4,[.x (.func (.func g) #[] gl),.x (.func (.func sf) #[] gs)]),(1004,ay PL.2)] (Sem.block (Sem.loop (X:={x:Nat×Nat×Array C3//a+1<=x.1∧x.1<=x.2.1+2∧x.2.1<b∧x.2.2.size=N∧Go.Sort.partLoop ab a x.1 x.2.1 x.2.2=PL}) (fun x=>[(1,.x (.int .i64 (a:Int))),(4,.ptr 4 0),(10,.x (.int .i64 ((x.1.1:Nat):Int))),(11,.x (.int .i64 ((x.1.2.1:Nat):Int)))]) (fun x=>[(4,[.x (.func (.func g) #[] gl),.x (.func (.func sf) #[] gs)]),(1004,ay x.1.2.2)]) (fun x=>x.1.2.1+1-x.1.1) ⟨(IF+1,JF-1,d2),by simp only;omega,by simp only;omega,by simp only;omega,hz2,hPL⟩ A0h A0h (fun⟨⟨i0,j0,dk⟩,hx1,hx2,hx3,hdk,heq⟩=>?_))) ?_
   . simp only at hx1 hx2 hx3 hdk heq⊢;refine Sem.block ?_;obtain⟨IL,hIL⟩:∃I,Go.Sort.scanUp (fun x=>ab x dk[a]!) dk (j0) (i0)=I:=⟨_,rfl⟩;obtain⟨JL,hJL⟩:∃J,Go.Sort.scanDown (fun x=> !ab x dk[a]!) dk IL (j0)=J:=⟨_,rfl⟩;have buL:=AS (p:=fun x=>ab x dk[a]!) (d:=dk) (j:=j0) _ (i0) (Zt _);rw[hIL] at buL;have bdL:=AT (p:=fun x=> !ab x dk[a]!) (d:=dk) (i:=IL) A0c (j0);rw[hJL] at bdL;refine Sem.seq [(1,.x (.int .i64 (a:Int))),(4,.ptr 4 0),(10,.x (.int .i64 ((IL:Nat):Int))),(11,.x (.int .i64 ((j0:Nat):Int)))] [(4,[.x (.func (.func g) #[] gl),.x (.func (.func sf) #[] gs)]),(1004,ay dk)] (Sem.block (Sem.loop (X:={i:Nat//i0<=i∧(i<=j0+1∨i=i0)∧Go.Sort.scanUp (fun x=>ab x dk[a]!) dk (j0) i=IL}) (fun x=>[(1,.x (.int .i64 (a:Int))),(4,.ptr 4 0),(10,.x (.int .i64 ((x.1:Nat):Int))),(11,.x (.int .i64 ((j0:Nat):Int)))]) (fun _=>[(4,[.x (.func (.func g) #[] gl),.x (.func (.func sf) #[] gs)]),(1004,ay dk)]) (fun x=>j0+1-x.1) ⟨i0,A0c,A0c,hIL⟩ A0h A0h (fun⟨i,hi1,hi2,hi3⟩=>Sem.run hE ah A0a ?_))) ?_
     . simp only;by_cases hc:i<=j0
       . have c1:decide (((i:Nat):Int)<=((j0:Nat):Int))=true:=Zk A0c;have c2:aw .i64 (((i:Nat):Int)+1)=((i+1:Nat):Int):=by rw[aj A0j];omega
         have l1:=cy (N:=N) i a dk A0c A0c hdk;cases hl:ab dk[i]! dk[a]! with
         |true=>rw[mG hc A0T] at hi3;rw[hl] at l1;simp +decide (maxDischargeDepth:=200) only[go_sem,X1,X2,X3,bg,c1,c2,l1];refine⟨⟨i+1,A0c,A0c,hi3⟩,?_,?_,by simp only;omega⟩<;>simp +decide only[go_sem]<;>(repeat' first|rfl|constructor)
         |false=>rw[eY A0T] at hi3;rw[hl] at l1;rw[<-hi3];simp +decide (maxDischargeDepth:=200) only[go_sem,X1,X2,X3,bg,c1,c2,l1]
       . have c1:decide (((i:Nat):Int)<=((j0:Nat):Int))=false:=Zl A0c;rw[eY (fun h=>hc h.1)] at hi3;rw[<-hi3];simp +decide (maxDischargeDepth:=200) only[go_sem,X1,X2,X3,bg,c1]
     refine Sem.seq [(1,.x (.int .i64 (a:Int))),(4,.ptr 4 0),(10,.x (.int .i64 ((IL:Nat):Int))),(11,.x (.int .i64 ((JL:Nat):Int)))] [(4,[.x (.func (.func g) #[] gl),.x (.func (.func sf) #[] gs)]),(1004,ay dk)] (Sem.block (Sem.loop (X:={j:Nat//j<=j0∧(IL<=j+1∨j=j0)∧Go.Sort.scanDown (fun x=> !ab x dk[a]!) dk IL j=JL}) (fun x=>[(1,.x (.int .i64 (a:Int))),(4,.ptr 4 0),(10,.x (.int .i64 ((IL:Nat):Int))),(11,.x (.int .i64 ((x.1:Nat):Int)))]) (fun _=>[(4,[.x (.func (.func g) #[] gl),.x (.func (.func sf) #[] gs)]),(1004,ay dk)]) (fun x=>x.1) ⟨j0,A0c,A0c,hJL⟩ A0h A0h (fun⟨j,hj1,hj2,hj3⟩=>Sem.run hE ah A0a ?_))) ?_
     . simp only;by_cases hc:IL<=j
       . obtain⟨k,rfl⟩:∃k,j=k+1:=⟨j-1,A0c⟩;have c1:decide (((IL:Nat):Int)<=((k+1:Nat):Int))=true:=Zk A0c;have c2:aw .i64 (((k+1:Nat):Int)-1)=((k:Nat):Int):=by rw[aj A0j];omega
         have l1:=cy (N:=N) (k+1) a dk A0c A0c hdk;cases hl:ab dk[k+1]! dk[a]! with
         |false=>rw[mH hc A0T] at hj3;rw[hl] at l1;simp +decide (maxDischargeDepth:=200) only[go_sem,X1,X2,X3,bg,c1,c2,l1];refine⟨⟨k,A0c,A0c,hj3⟩,?_,?_,by simp only;omega⟩<;>simp +decide only[go_sem]<;>(repeat' first|rfl|constructor)
         |true=>rw[eZ A0T] at hj3;rw[hl] at l1;rw[<-hj3];simp +decide (maxDischargeDepth:=200) only[go_sem,X1,X2,X3,bg,c1,c2,l1]
       . have c1:decide (((IL:Nat):Int)<=((j:Nat):Int))=false:=Zl A0c;rw[eZ (fun h=>hc h.1)] at hj3;rw[<-hj3];simp +decide (maxDischargeDepth:=200) only[go_sem,X1,X2,X3,bg,c1]
     by_cases hc:JL<IL
     . rw[ry hIL hJL hc] at heq;have c1:decide (((JL:Nat):Int)<((IL:Nat):Int))=true:=Zk A0c;rw[<-heq];refine Sem.seq_out (Sem.run hE ah A0a ?_);simp +decide (maxDischargeDepth:=200) only[go_sem,X1,X2,X3,bg,c1]
     . rw[AU hIL hJL hc A0c] at heq;have c1:decide (((JL:Nat):Int)<((IL:Nat):Int))=false:=Zl A0c;have c2:aw .i64 (((IL:Nat):Int)+1)=((IL+1:Nat):Int):=by rw[aj A0j];omega
       have c3:aw .i64 (((JL:Nat):Int)-1)=((JL-1:Nat):Int):=by rw[aj A0j];omega
       have s1:=dz (N:=N) IL JL dk A0c A0c hdk;refine Sem.run hE ah A0a ?_;simp +decide (maxDischargeDepth:=200) only[go_sem,X1,X2,X3,bg,c1,c2,c3,s1];refine⟨⟨(IL+1,JL-1,swp dk IL JL),by simp only;omega,by simp only;omega,by simp only;omega,by rw[bu];exact hdk,heq⟩,?_,?_,by simp only;omega⟩<;>simp +decide only[go_sem]<;>(repeat' first|rfl|constructor)
   have s3:=dz (N:=N) PL.1 a PL.2 A0c A0c A0c;refine Sem.run hE ah A0a ?_;simp +decide (maxDischargeDepth:=200) only[go_sem,X1,X2,X3,bg,s3]
theorem K4 (hS:SoOK G bk N g sf gl gs):FunXV G bk 76 [] (FE (fI g sf gl gs) (nY N)):=by
 obtain⟨X,hX,X1,X2,X3⟩:=iA hS [] trivial;have hN:=hS.N1;unfold MX at hN;refine cd (k:=4) hX Try.func76 rfl (fun a w=>Try.call76 a w) Try.ntmps76 A0b A0b ?_;clear hX;intro us r outs hF;obtain⟨⟨a,b,pv,d⟩,hus,hG⟩:=bL hF;clear hF;subst hus;unfold nY at hG;obtain⟨⟨hap,hpb,hbN,hd⟩,hG⟩:=bP hG;simp only at hap hpb hbN hd;cases hG;refine⟨_,rfl,rfl,fun pm m0 w0 hE=>?_⟩;simp only[fI];have s0:=dz (N:=N) a pv d A0c A0c hd;obtain⟨d1,hd1⟩:∃d1,swp d a pv=d1:=⟨_,rfl⟩;have hz1:d1.size=N:=by rw[<-hd1,bu];exact hd
 rw[hd1] at s0;have w1:aw .i64 ((a:Int)+1)=((a+1:Nat):Int):=by rw[aj A0j];omega
 have w2:aw .i64 ((b:Int)-1)=((b-1:Nat):Int):=by rw[aj A0j];omega
 unfold Go.Sort.partitionEqual;rw[hd1];obtain⟨PL,hPL⟩:∃PL,Go.Sort.partEqLoop ab a (a+1) (b-1) d1=PL:=⟨_,rfl⟩;rw[hPL];refine Sem.seq [(1,.x (.int .i64 (a:Int))),(2,.x (.int .i64 (b:Int))),(3,.x (.int .i64 (pv:Int))),(4,.ptr 4 0)] [(4,[.x (.func (.func g) #[] gl),.x (.func (.func sf) #[] gs)]),(1004,ay d)] (Sem.run hE ah A0a A0o) ?_;refine Sem.seq [(1,.x (.int .i64 (a:Int))),(2,.x (.int .i64 (b:Int))),(3,.x (.int .i64 (pv:Int))),(4,.ptr 4 0)] [(4,[.x (.func (.func g) #[] gl),.x (.func (.func sf) #[] gs)]),(1004,ay d1)] (Sem.run hE ah A0a A03) ?_;refine Sem.seq [(1,.x (.int .i64 (a:Int))),(4,.ptr 4 0),(9,.x (.int .i64 ((a+1:Nat):Int))),(10,.x (.int .i64 ((b-1:Nat):Int)))] [(4,[.x (.func (.func g) #[] gl),.x (.func (.func sf) #[] gs)]),(1004,ay d1)] (Sem.run hE ah A0a A01) ?_;refine Sem.seq [(9,.x (.int .i64 ((PL.1:Nat):Int)))] [(4,[.x (.func (.func g) #[] gl),.x (.func (.func sf) #[] gs)]),(1004,ay PL.2)] (Sem.block (Sem.loop (X:={x:Nat×Nat×Array C3//a+1<=x.1∧x.1<=x.2.1+2∧x.2.1<b∧x.2.2.size=N∧Go.Sort.partEqLoop ab a x.1 x.2.1 x.2.2=PL}) (fun x=>[(1,.x (.int .i64 (a:Int))),(4,.ptr 4 0),(9,.x (.int .i64 ((x.1.1:Nat):Int))),(10,.x (.int .i64 ((x.1.2.1:Nat):Int)))]) (fun x=>[(4,[.x (.func (.func g) #[] gl),.x (.func (.func sf) #[] gs)]),(1004,ay x.1.2.2)]) (fun x=>x.1.2.1+1-x.1.1) ⟨(a+1,b-1,d1),by simp only;omega,by simp only;omega,by simp only;omega,hz1,hPL⟩ A0h A0h (fun⟨⟨i0,j0,dk⟩,hx1,hx2,hx3,hdk,heq⟩=>?_))) ?_
 . simp only at hx1 hx2 hx3 hdk heq⊢;refine Sem.block ?_;obtain⟨IL,hIL⟩:∃I,Go.Sort.scanUp (fun x=> !ab dk[a]! x) dk (j0) (i0)=I:=⟨_,rfl⟩;obtain⟨JL,hJL⟩:∃J,Go.Sort.scanDown (fun x=>ab dk[a]! x) dk IL (j0)=J:=⟨_,rfl⟩;have buL:=AS (p:=fun x=> !ab dk[a]! x) (d:=dk) (j:=j0) _ (i0) (Zt _);rw[hIL] at buL;have bdL:=AT (p:=fun x=>ab dk[a]! x) (d:=dk) (i:=IL) A0c (j0);rw[hJL] at bdL;refine Sem.seq [(1,.x (.int .i64 (a:Int))),(4,.ptr 4 0),(9,.x (.int .i64 ((IL:Nat):Int))),(10,.x (.int .i64 ((j0:Nat):Int)))] [(4,[.x (.func (.func g) #[] gl),.x (.func (.func sf) #[] gs)]),(1004,ay dk)] (Sem.block (Sem.loop (X:={i:Nat//i0<=i∧(i<=j0+1∨i=i0)∧Go.Sort.scanUp (fun x=> !ab dk[a]! x) dk (j0) i=IL}) (fun x=>[(1,.x (.int .i64 (a:Int))),(4,.ptr 4 0),(9,.x (.int .i64 ((x.1:Nat):Int))),(10,.x (.int .i64 ((j0:Nat):Int)))]) (fun _=>[(4,[.x (.func (.func g) #[] gl),.x (.func (.func sf) #[] gs)]),(1004,ay dk)]) (fun x=>j0+1-x.1) ⟨i0,A0c,A0c,hIL⟩ A0h A0h (fun⟨i,hi1,hi2,hi3⟩=>Sem.run hE ah A0a ?_))) ?_
   . simp only;by_cases hc:i<=j0
     . have c1:decide (((i:Nat):Int)<=((j0:Nat):Int))=true:=Zk A0c;have c2:aw .i64 (((i:Nat):Int)+1)=((i+1:Nat):Int):=by rw[aj A0j];omega
       have l1:=cy (N:=N) a i dk A0c A0c hdk;cases hl:ab dk[a]! dk[i]! with
       |false=>rw[mG hc A0T] at hi3;rw[hl] at l1;simp +decide (maxDischargeDepth:=200) only[go_sem,X1,X2,X3,bg,c1,c2,l1];refine⟨⟨i+1,A0c,A0c,hi3⟩,?_,?_,by simp only;omega⟩<;>simp +decide only[go_sem]<;>(repeat' first|rfl|constructor)
       |true=>rw[eY A0T] at hi3;rw[hl] at l1;rw[<-hi3];simp +decide (maxDischargeDepth:=200) only[go_sem,X1,X2,X3,bg,c1,c2,l1]
     . have c1:decide (((i:Nat):Int)<=((j0:Nat):Int))=false:=Zl A0c;rw[eY (fun h=>hc h.1)] at hi3;rw[<-hi3];simp +decide (maxDischargeDepth:=200) only[go_sem,X1,X2,X3,bg,c1]
   refine Sem.seq [(1,.x (.int .i64 (a:Int))),(4,.ptr 4 0),(9,.x (.int .i64 ((IL:Nat):Int))),(10,.x (.int .i64 ((JL:Nat):Int)))] [(4,[.x (.func (.func g) #[] gl),.x (.func (.func sf) #[] gs)]),(1004,ay dk)] (Sem.block (Sem.loop (X:={j:Nat//j<=j0∧(IL<=j+1∨j=j0)∧Go.Sort.scanDown (fun x=>ab dk[a]! x) dk IL j=JL}) (fun x=>[(1,.x (.int .i64 (a:Int))),(4,.ptr 4 0),(9,.x (.int .i64 ((IL:Nat):Int))),(10,.x (.int .i64 ((x.1:Nat):Int)))]) (fun _=>[(4,[.x (.func (.func g) #[] gl),.x (.func (.func sf) #[] gs)]),(1004,ay dk)]) (fun x=>x.1) ⟨j0,A0c,A0c,hJL⟩ A0h A0h (fun⟨j,hj1,hj2,hj3⟩=>Sem.run hE ah A0a ?_))) ?_
   . simp only;by_cases hc:IL<=j
     . obtain⟨k,rfl⟩:∃k,j=k+1:=⟨j-1,A0c⟩;have c1:decide (((IL:Nat):Int)<=((k+1:Nat):Int))=true:=Zk A0c;have c2:aw .i64 (((k+1:Nat):Int)-1)=((k:Nat):Int):=by rw[aj A0j];omega
       have l1:=cy (N:=N) a (k+1) dk A0c A0c hdk;cases hl:ab dk[a]! dk[k+1]! with
       |true=>rw[mH hc A0T] at hj3;rw[hl] at l1;simp +decide (maxDischargeDepth:=200) only[go_sem,X1,X2,X3,bg,c1,c2,l1];refine⟨⟨k,A0c,A0c,hj3⟩,?_,?_,by simp only;omega⟩<;>simp +decide only[go_sem]<;>(repeat' first|rfl|constructor)
       |false=>rw[eZ A0T] at hj3;rw[hl] at l1;rw[<-hj3];simp +decide (maxDischargeDepth:=200) only[go_sem,X1,X2,X3,bg,c1,c2,l1]
     . have c1:decide (((IL:Nat):Int)<=((j:Nat):Int))=false:=Zl A0c;rw[eZ (fun h=>hc h.1)] at hj3;rw[<-hj3];simp +decide (maxDischargeDepth:=200) only[go_sem,X1,X2,X3,bg,c1]
   by_cases hc:JL<IL
   . rw[K1 hIL hJL hc] at heq;have c1:decide (((JL:Nat):Int)<((IL:Nat):Int))=true:=Zk A0c;rw[<-heq];refine Sem.seq_out (Sem.run hE ah A0a ?_);simp +decide (maxDischargeDepth:=200) only[go_sem,X1,X2,X3,bg,c1]
   . rw[K2 hIL hJL hc A0c] at heq;have c1:decide (((JL:Nat):Int)<((IL:Nat):Int))=false:=Zl A0c;have c2:aw .i64 (((IL:Nat):Int)+1)=((IL+1:Nat):Int):=by rw[aj A0j];omega
     have c3:aw .i64 (((JL:Nat):Int)-1)=((JL-1:Nat):Int):=by rw[aj A0j];omega
     have s1:=dz (N:=N) IL JL dk A0c A0c hdk;refine Sem.run hE ah A0a ?_;simp +decide (maxDischargeDepth:=200) only[go_sem,X1,X2,X3,bg,c1,c2,c3,s1];refine⟨⟨(IL+1,JL-1,swp dk IL JL),by simp only;omega,by simp only;omega,by simp only;omega,by rw[bu];exact hdk,heq⟩,?_,?_,by simp only;omega⟩<;>simp +decide only[go_sem]<;>(repeat' first|rfl|constructor)
 refine Sem.run hE ah A0a ?_;simp +decide (maxDischargeDepth:=200) only[go_sem,X1,X2,X3,bg]
theorem AV {i:Nat} (h:i<b) (hl:ab d[i]! d[i-1]! =false):Go.Sort.scanSorted ab d b i=Go.Sort.scanSorted ab d b (i+1):=by rw[Go.Sort.scanSorted,Zp (by rw[hl];simpa using h)]
theorem mI {i:Nat} (h: ¬(i<b∧ab d[i]! d[i-1]! =false)):Go.Sort.scanSorted ab d b i=i:=by rw[Go.Sort.scanSorted,Zs (by simpa using h)]
theorem SZ:∀(n i:Nat),b-i<=n->i<=b->i<=Go.Sort.scanSorted ab d b i∧Go.Sort.scanSorted ab d b i<=b:=by
 intro n
 induction n with
 |zero=>intro i h hi;rw[mI A0c];omega
 | succ n ih=>
   intro i h hi;by_cases h0:i<b∧ab d[i]! d[i-1]! =false
   . rw[AV h0.1 h0.2];have:=ih (i+1) A0c A0c;omega
   . rw[mI h0];omega
theorem uF:∀(j:Nat) (d:Array C3),(Go.Sort.shiftDown ab j d).size=d.size
 |0,d=>rfl
 | j+1,d=>by
   rw[Go.Sort.shiftDown];split
   . rfl
   . rw[uF j,bu]
theorem GU (b:Nat):∀(n j:Nat) (d:Array C3),b-j<=n->(Go.Sort.shiftUp ab b j d).size=d.size:=by
 intro n
 induction n with
 |zero=>intro j d h;rw[Go.Sort.shiftUp,Zs A0c]
 | succ n ih=>
   intro j d h;rw[Go.Sort.shiftUp];split
   . split
     . rfl
     . rw[ih _ _ A0c,bu]
   . rfl
section
variable {a b s i I:Nat} {d:Array C3}
theorem Yg (hI:Go.Sort.scanSorted ab d b i=I) (h:I=b):Go.Sort.partialIns ab a b (s+1) i d=(d,true):=by rw[Go.Sort.partialIns];simp only[hI,h,ZD]
theorem Yh (hI:Go.Sort.scanSorted ab d b i=I) (h: ¬I=b) (h2:b-a<50):Go.Sort.partialIns ab a b (s+1) i d=(d,false):=by rw[Go.Sort.partialIns];simp only[hI,h,Zz,h2,ZD]
theorem Yi (hI:Go.Sort.scanSorted ab d b i=I) (h: ¬I=b) (h2: ¬b-a<50):Go.Sort.partialIns ab a b (s+1) i d=Go.Sort.partialIns ab a b s I (if b-I≥2 then Go.Sort.shiftUp ab b (I+1) (if I-a≥2 then Go.Sort.shiftDown ab (I-1) (swp d I (I-1)) else swp d I (I-1)) else (if I-a≥2 then Go.Sort.shiftDown ab (I-1) (swp d I (I-1)) else swp d I (I-1))):=by rw[Go.Sort.partialIns];simp only[hI,h,Zz,h2]
end
def uG (N:Nat) (x:Nat×Nat×Array C3):Option (V×List (List V)):=if x.1<x.2.1∧x.2.1<=N∧x.2.2.size=N then some (.x (.bool (Go.Sort.partialInsertionSort ab x.2.2 x.1 x.2.1).2),[ay (Go.Sort.partialInsertionSort ab x.2.2 x.1 x.2.1).1]) else none
def GV (N:Nat) (x:Nat×Nat×Array C3):Option (V×List (List V)):=if x.1<x.2.1∧x.2.1<=N∧x.2.2.size=N then some (.tup [],[ay (Go.Sort.reverseRange x.2.2 x.1 x.2.1)]) else none
theorem N5 (hS:SoOK G bk N g sf gl gs):FunXV G bk 75 [] (FE (dS g sf gl gs) (uG N)):=by
 obtain⟨X,hX,X1,X2,X3⟩:=iA hS [] trivial;have hN:=hS.N1;unfold MX at hN;refine cd (k:=3) hX Try.func75 rfl (fun a w=>Try.call75 a w) Try.ntmps75 A0b A0b ?_;clear hX;intro us r outs hF;obtain⟨⟨a,b,d⟩,hus,hG⟩:=bL hF;clear hF;subst hus;unfold uG at hG;obtain⟨⟨hab,hbN,hd⟩,hG⟩:=bP hG;simp only at hab hbN hd;cases hG;refine⟨_,rfl,rfl,fun pm m0 w0 hE=>?_⟩;simp only[dS];have w1:aw .i64 ((a:Int)+1)=((a+1:Nat):Int):=by rw[aj A0j];omega
 unfold Go.Sort.partialInsertionSort;obtain⟨PI,hPI⟩:∃PI,Go.Sort.partialIns ab a b 5 (a+1) d=PI:=⟨_,rfl⟩;rw[hPI];refine Sem.seq [(1,.x (.int .i64 (a:Int))),(2,.x (.int .i64 (b:Int))),(3,.ptr 3 0)] [(3,[.x (.func (.func g) #[] gl),.x (.func (.func sf) #[] gs)]),(1003,ay d)] (Sem.run hE ah A0a A0o) ?_;refine Sem.seq [(1,.x (.int .i64 (a:Int))),(2,.x (.int .i64 (b:Int))),(3,.ptr 3 0),(7,.x (.int .i64 ((a+1:Nat):Int)))] [(3,[.x (.func (.func g) #[] gl),.x (.func (.func sf) #[] gs)]),(1003,ay d)] (Sem.run hE ah A0a A02) ?_;refine Sem.seqQ (PI.2=false) [] [(3,[.x (.func (.func g) #[] gl),.x (.func (.func sf) #[] gs)]),(1003,ay PI.1)] ?_ (fun hf=>?_)
 rotate_left
 . refine Sem.run hE ah A0a ?_;simp +decide (maxDischargeDepth:=200) only[go_sem,X1,X2,X3,bg,hf]
 refine Sem.seq [(1,.x (.int .i64 (a:Int))),(2,.x (.int .i64 (b:Int))),(3,.ptr 3 0),(7,.x (.int .i64 ((a+1:Nat):Int))),(8,.x (.int .i64 (0)))] [(3,[.x (.func (.func g) #[] gl),.x (.func (.func sf) #[] gs)]),(1003,ay d)] (Sem.run hE ah A0a A0o) ?_;refine Sem.block (Sem.loop (X:={x:Nat×Nat×Array C3//x.1<=5∧a+1<=x.2.1∧x.2.1<=b∧x.2.2.size=N∧Go.Sort.partialIns ab a b x.1 x.2.1 x.2.2=PI}) (fun x=>[(1,.x (.int .i64 (a:Int))),(2,.x (.int .i64 (b:Int))),(3,.ptr 3 0),(7,.x (.int .i64 ((x.1.2.1:Nat):Int))),(8,.x (.int .i64 (5-(x.1.1:Int))))]) (fun x=>[(3,[.x (.func (.func g) #[] gl),.x (.func (.func sf) #[] gs)]),(1003,ay x.1.2.2)]) (fun x=>x.1.1) ⟨(5,a+1,d),by simp only;omega,by simp only;omega,by simp only;omega,hd,hPI⟩ A0h A0h (fun⟨⟨s,i0,d0⟩,hs,hi1,hi2,hd0,heq⟩=>?_));simp only at hs hi1 hi2 hd0 heq⊢;cases s with
 |zero=>have c0:decide (5-((0:Nat):Int)<5)=false:=Zl A0c;rw[Go.Sort.partialIns] at heq;rw[<-heq];refine Sem.seq_out (Sem.run hE ah A0a ?_);simp +decide (maxDischargeDepth:=200) only[go_sem,X1,X2,X3,bg,c0]
 | succ s=>
   have c0:decide (5-((s+1:Nat):Int)<5)=true:=Zk A0c;have e0:aw .i64 (5-((s+1:Nat):Int)+1)=5-((s:Nat):Int):=by rw[aj A0j];omega
   refine Sem.seq [(1,.x (.int .i64 (a:Int))),(2,.x (.int .i64 (b:Int))),(3,.ptr 3 0),(7,.x (.int .i64 ((i0:Nat):Int))),(8,.x (.int .i64 (5-((s+1:Nat):Int))))] [(3,[.x (.func (.func g) #[] gl),.x (.func (.func sf) #[] gs)]),(1003,ay d0)] (Sem.run hE ah A0a (by simp +decide (maxDischargeDepth:=200) only[go_sem,X1,X2,X3,bg,c0])) ?_;obtain⟨I,hI⟩:∃I,Go.Sort.scanSorted ab d0 b i0=I:=⟨_,rfl⟩;have bI:=SZ (d:=d0) (b:=b) _ i0 (Zt _) hi2;rw[hI] at bI;obtain⟨D0,hD0⟩:∃D0,swp d0 I (I-1)=D0:=⟨_,rfl⟩;obtain⟨D1,hD1⟩:∃D1,(if I-a≥2 then Go.Sort.shiftDown ab (I-1) D0 else D0)=D1:=⟨_,rfl⟩;obtain⟨D2,hD2⟩:∃D2,(if b-I≥2 then Go.Sort.shiftUp ab b (I+1) D1 else D1)=D2:=⟨_,rfl⟩;have z0:D0.size=N:=by rw[<-hD0,bu];exact hd0
   have z1:D1.size=N:=by
    rw[<-hD1];split
    . rw[uF];exact z0
    . exact z0
   have z2:D2.size=N:=by
    rw[<-hD2];split
    . rw[GU _ _ _ _ (Zt _)];exact z1
    . exact z1
   obtain⟨Q,hQ1,hQ2⟩:∃Q:Prop,(Q-> ¬I=b∧ ¬b-a<50)∧(¬I=b-> ¬b-a<50->Q):=⟨_,id,fun h1 h2=>⟨h1,h2⟩⟩;refine Sem.seqQ Q [(1,.x (.int .i64 (a:Int))),(2,.x (.int .i64 (b:Int))),(3,.ptr 3 0),(7,.x (.int .i64 ((I:Nat):Int))),(8,.x (.int .i64 (5-((s+1:Nat):Int))))] [(3,[.x (.func (.func g) #[] gl),.x (.func (.func sf) #[] gs)]),(1003,ay D2)] (Sem.block ?_) (fun hQ=>?_)
   rotate_left
   . have hQ:=hQ1 hQ;rw[Yi hI hQ.1 hQ.2,hD0,hD1,hD2] at heq;refine Sem.run hE ah A0a ?_;simp +decide (maxDischargeDepth:=200) only[go_sem,X1,X2,X3,bg,e0];refine⟨⟨(s,I,D2),by simp only;omega,by simp only;omega,by simp only;omega,z2,heq⟩,?_,?_,by simp only;omega⟩<;>simp +decide only[go_sem]<;>(repeat' first|rfl|constructor)
   refine Sem.seq [(1,.x (.int .i64 (a:Int))),(2,.x (.int .i64 (b:Int))),(3,.ptr 3 0),(7,.x (.int .i64 ((I:Nat):Int))),(8,.x (.int .i64 (5-((s+1:Nat):Int))))] [(3,[.x (.func (.func g) #[] gl),.x (.func (.func sf) #[] gs)]),(1003,ay d0)] (Sem.block (Sem.loop (X:={i:Nat//i0<=i∧i<=b∧Go.Sort.scanSorted ab d0 b i=I}) (fun x=>[(1,.x (.int .i64 (a:Int))),(2,.x (.int .i64 (b:Int))),(3,.ptr 3 0),(7,.x (.int .i64 ((x.1:Nat):Int))),(8,.x (.int .i64 (5-((s+1:Nat):Int))))]) (fun _=>[(3,[.x (.func (.func g) #[] gl),.x (.func (.func sf) #[] gs)]),(1003,ay d0)]) (fun x=>b-x.1) ⟨i0,A0c,A0c,hI⟩ A0h A0h (fun⟨i,hi1,hi2,hi3⟩=>Sem.run hE ah A0a ?_))) ?_
   . simp only;by_cases hc:i<b
     . have c1:decide (((i:Nat):Int)<((b:Nat):Int))=true:=Zk A0c;have c2:aw .i64 (((i:Nat):Int)+1)=((i+1:Nat):Int):=by rw[aj A0j];omega
       have c3:aw .i64 (((i:Nat):Int)-1)=((i-1:Nat):Int):=by rw[aj A0j];omega
       have l1:=cy (N:=N) i (i-1) d0 A0c A0c hd0;cases hl:ab d0[i]! d0[i-1]! with
       |false=>rw[AV hc hl] at hi3;rw[hl] at l1;simp +decide (maxDischargeDepth:=200) only[go_sem,X1,X2,X3,bg,c1,c2,c3,l1];refine⟨⟨i+1,A0c,A0c,hi3⟩,?_,?_,by simp only;omega⟩<;>simp +decide only[go_sem]<;>(repeat' first|rfl|constructor)
       |true=>rw[mI (by rw[hl];simp)] at hi3;rw[hl] at l1;rw[<-hi3];simp +decide (maxDischargeDepth:=200) only[go_sem,X1,X2,X3,bg,c1,c2,c3,l1]
     . have c1:decide (((i:Nat):Int)<((b:Nat):Int))=false:=Zl A0c;rw[mI (fun h=>hc h.1)] at hi3;rw[<-hi3];simp +decide (maxDischargeDepth:=200) only[go_sem,X1,X2,X3,bg,c1]
   by_cases hIb:I=b
   . rw[Yg hI hIb] at heq;have c1:decide (((I:Nat):Int)=((b:Nat):Int))=true:=Zk A0c;rw[<-heq];refine Sem.seq_out (Sem.run hE ah A0a ?_);simp +decide (maxDischargeDepth:=200) only[go_sem,X1,X2,X3,bg,c1]
   have c1:decide (((I:Nat):Int)=((b:Nat):Int))=false:=Zl A0c;have w2:aw .i64 ((b:Int)-(a:Int))=((b-a:Nat):Int):=by rw[aj A0j];omega
   refine Sem.seq [(1,.x (.int .i64 (a:Int))),(2,.x (.int .i64 (b:Int))),(3,.ptr 3 0),(7,.x (.int .i64 ((I:Nat):Int))),(8,.x (.int .i64 (5-((s+1:Nat):Int))))] [(3,[.x (.func (.func g) #[] gl),.x (.func (.func sf) #[] gs)]),(1003,ay d0)] (Sem.run hE ah A0a A0I) ?_;by_cases h50:b-a<50
   . rw[Yh hI hIb h50] at heq;have c2:decide (((b-a:Nat):Int)<50)=true:=Zk A0c;rw[<-heq];refine Sem.seq_out (Sem.run hE ah A0a ?_);simp +decide (maxDischargeDepth:=200) only[go_sem,X1,X2,X3,bg,w2,c2]
   have c2:decide (((b-a:Nat):Int)<50)=false:=Zl A0c;have q:=hQ2 hIb h50;have w3:aw .i64 ((I:Int)-1)=((I-1:Nat):Int):=by rw[aj A0j];omega
   have w4:aw .i64 ((I:Int)-(a:Int))=((I-a:Nat):Int):=by rw[aj A0j];omega
   have w5:aw .i64 ((b:Int)-(I:Int))=((b-I:Nat):Int):=by rw[aj A0j];omega
   have w6:aw .i64 ((I:Int)+1)=((I+1:Nat):Int):=by rw[aj A0j];omega
   have s1:=dz (N:=N) I (I-1) d0 A0c A0c hd0;rw[hD0] at s1;refine Sem.seq [(1,.x (.int .i64 (a:Int))),(2,.x (.int .i64 (b:Int))),(3,.ptr 3 0),(7,.x (.int .i64 ((I:Nat):Int))),(8,.x (.int .i64 (5-((s+1:Nat):Int))))] [(3,[.x (.func (.func g) #[] gl),.x (.func (.func sf) #[] gs)]),(1003,ay d0)] (Sem.run hE ah A0a (by simp +decide (maxDischargeDepth:=200) only[go_sem,X1,X2,X3,bg,w2,c2])) ?_;refine Sem.seq [(1,.x (.int .i64 (a:Int))),(2,.x (.int .i64 (b:Int))),(3,.ptr 3 0),(7,.x (.int .i64 ((I:Nat):Int))),(8,.x (.int .i64 (5-((s+1:Nat):Int))))] [(3,[.x (.func (.func g) #[] gl),.x (.func (.func sf) #[] gs)]),(1003,ay D0)] (Sem.run hE ah A0a (by simp +decide (maxDischargeDepth:=200) only[go_sem,X1,X2,X3,bg,w3,s1])) ?_;refine Sem.seq [(1,.x (.int .i64 (a:Int))),(2,.x (.int .i64 (b:Int))),(3,.ptr 3 0),(7,.x (.int .i64 ((I:Nat):Int))),(8,.x (.int .i64 (5-((s+1:Nat):Int))))] [(3,[.x (.func (.func g) #[] gl),.x (.func (.func sf) #[] gs)]),(1003,ay D1)] ?_ ?_
   . by_cases h2:I-a≥2
     . rw[Zp h2] at hD1;have c3:decide (2<=((I-a:Nat):Int))=true:=Zk A0c;refine Sem.seq [(1,.x (.int .i64 (a:Int))),(2,.x (.int .i64 (b:Int))),(3,.ptr 3 0),(7,.x (.int .i64 ((I:Nat):Int))),(8,.x (.int .i64 (5-((s+1:Nat):Int)))),(47,.x (.bool true))] [(3,[.x (.func (.func g) #[] gl),.x (.func (.func sf) #[] gs)]),(1003,ay D0)] (Sem.run hE ah A0a (by simp +decide (maxDischargeDepth:=200) only[go_sem,X1,X2,X3,bg,w4,c3])) ?_;refine Sem.cond (t:=true) A0o (fun _=>?_) (fun h=>by cases h);refine Sem.seq [(1,.x (.int .i64 (a:Int))),(2,.x (.int .i64 (b:Int))),(3,.ptr 3 0),(7,.x (.int .i64 ((I:Nat):Int))),(8,.x (.int .i64 (5-((s+1:Nat):Int)))),(9,.x (.int .i64 ((I-1:Nat):Int)))] [(3,[.x (.func (.func g) #[] gl),.x (.func (.func sf) #[] gs)]),(1003,ay D0)] (Sem.run hE ah A0a (by simp +decide (maxDischargeDepth:=200) only[go_sem,X1,X2,X3,bg,w3])) ?_;refine Sem.block (Sem.loop (X:={x:Nat×Array C3//x.1<=I-1∧x.2.size=N∧Go.Sort.shiftDown ab x.1 x.2=D1}) (fun x=>[(1,.x (.int .i64 (a:Int))),(2,.x (.int .i64 (b:Int))),(3,.ptr 3 0),(7,.x (.int .i64 ((I:Nat):Int))),(8,.x (.int .i64 (5-((s+1:Nat):Int)))),(9,.x (.int .i64 ((x.1.1:Nat):Int)))]) (fun x=>[(3,[.x (.func (.func g) #[] gl),.x (.func (.func sf) #[] gs)]),(1003,ay x.1.2)]) (fun x=>x.1.1) ⟨(I-1,D0),by simp only;omega,z0,hD1⟩ A0h A0h (fun⟨⟨j,dj⟩,hj1,hj2,hj3⟩=>Sem.run hE ah A0a ?_));simp only at hj1 hj2 hj3⊢;cases j with
       |zero=>have c4:decide (1<=((0:Nat):Int))=false:=Zl A0c;rw[Go.Sort.shiftDown] at hj3;rw[<-hj3];simp +decide (maxDischargeDepth:=200) only[go_sem,X1,X2,X3,bg,c4]
       | succ j=>
         have c4:decide (1<=((j+1:Nat):Int))=true:=Zk A0c;have c5:aw .i64 (((j+1:Nat):Int)-1)=((j:Nat):Int):=by rw[aj A0j];omega
         have l1:=cy (N:=N) (j+1) j dj A0c A0c hj2;have s2:=dz (N:=N) (j+1) j dj A0c A0c hj2;rw[Go.Sort.shiftDown] at hj3;cases hl:ab dj[j+1]! dj[j]! with
         |false=>rw[hl] at l1 hj3;simp only[abR,ZD] at hj3;rw[<-hj3];simp +decide (maxDischargeDepth:=200) only[go_sem,X1,X2,X3,bg,c4,c5,l1]
         |true=>rw[hl] at l1 hj3;simp only[abd,ZK,Zz] at hj3;simp +decide (maxDischargeDepth:=200) only[go_sem,X1,X2,X3,bg,c4,c5,l1,s2];refine⟨⟨(j,swp dj (j+1) j),by simp only;omega,by rw[bu];exact hj2,hj3⟩,?_,?_,by simp only;omega⟩<;>simp +decide only[go_sem]<;>(repeat' first|rfl|constructor)
     . rw[Zs h2] at hD1;have c3:decide (2<=((I-a:Nat):Int))=false:=Zl A0c;rw[<-hD1];refine Sem.run hE ah A0a ?_;simp +decide (maxDischargeDepth:=200) only[go_sem,X1,X2,X3,bg,w4,c3]
   by_cases h2:b-I≥2
   . rw[Zp h2] at hD2;have c3:decide (2<=((b-I:Nat):Int))=true:=Zk A0c;refine Sem.seq [(1,.x (.int .i64 (a:Int))),(2,.x (.int .i64 (b:Int))),(3,.ptr 3 0),(7,.x (.int .i64 ((I:Nat):Int))),(8,.x (.int .i64 (5-((s+1:Nat):Int)))),(70,.x (.bool true))] [(3,[.x (.func (.func g) #[] gl),.x (.func (.func sf) #[] gs)]),(1003,ay D1)] (Sem.run hE ah A0a (by simp +decide (maxDischargeDepth:=200) only[go_sem,X1,X2,X3,bg,w5,c3])) ?_;refine Sem.cond (t:=true) A0o (fun _=>?_) (fun h=>by cases h);refine Sem.seq [(1,.x (.int .i64 (a:Int))),(2,.x (.int .i64 (b:Int))),(3,.ptr 3 0),(7,.x (.int .i64 ((I:Nat):Int))),(8,.x (.int .i64 (5-((s+1:Nat):Int)))),(10,.x (.int .i64 ((I+1:Nat):Int)))] [(3,[.x (.func (.func g) #[] gl),.x (.func (.func sf) #[] gs)]),(1003,ay D1)] (Sem.run hE ah A0a (by simp +decide (maxDischargeDepth:=200) only[go_sem,X1,X2,X3,bg,w6])) ?_;refine Sem.block (Sem.loop (X:={x:Nat×Array C3//I+1<=x.1∧x.1<=b∧x.2.size=N∧Go.Sort.shiftUp ab b x.1 x.2=D2}) (fun x=>[(1,.x (.int .i64 (a:Int))),(2,.x (.int .i64 (b:Int))),(3,.ptr 3 0),(7,.x (.int .i64 ((I:Nat):Int))),(8,.x (.int .i64 (5-((s+1:Nat):Int)))),(10,.x (.int .i64 ((x.1.1:Nat):Int)))]) (fun x=>[(3,[.x (.func (.func g) #[] gl),.x (.func (.func sf) #[] gs)]),(1003,ay x.1.2)]) (fun x=>b-x.1.1) ⟨(I+1,D1),by simp only;omega,by simp only;omega,z1,hD2⟩ A0h A0h (fun⟨⟨j,dj⟩,hj0,hj1,hj2,hj3⟩=>Sem.run hE ah A0a ?_));simp only at hj0 hj1 hj2 hj3⊢;rw[Go.Sort.shiftUp] at hj3;by_cases hjb:j<b
     . have c4:decide (((j:Nat):Int)<((b:Nat):Int))=true:=Zk A0c;have c5:aw .i64 (((j:Nat):Int)-1)=((j-1:Nat):Int):=by rw[aj A0j];omega
       have c6:aw .i64 (((j:Nat):Int)+1)=((j+1:Nat):Int):=by rw[aj A0j];omega
       have l1:=cy (N:=N) j (j-1) dj A0c A0c hj2;have s2:=dz (N:=N) j (j-1) dj A0c A0c hj2;rw[Zp hjb] at hj3;cases hl:ab dj[j]! dj[j-1]! with
       |false=>rw[hl] at l1 hj3;simp only[abR,ZD] at hj3;rw[<-hj3];simp +decide (maxDischargeDepth:=200) only[go_sem,X1,X2,X3,bg,c4,c5,l1,q]
       |true=>rw[hl] at l1 hj3;simp only[abd,ZK,Zz] at hj3;simp +decide (maxDischargeDepth:=200) only[go_sem,X1,X2,X3,bg,c4,c5,c6,l1,s2];refine⟨⟨(j+1,swp dj j (j-1)),by simp only;omega,by simp only;omega,by rw[bu];exact hj2,hj3⟩,?_,?_,by simp only;omega⟩<;>simp +decide only[go_sem]<;>(repeat' first|rfl|constructor)
     . have c4:decide (((j:Nat):Int)<((b:Nat):Int))=false:=Zl A0c;rw[Zs hjb] at hj3;rw[<-hj3];simp +decide (maxDischargeDepth:=200) only[go_sem,X1,X2,X3,bg,c4,q]
   . rw[Zs h2] at hD2;have c3:decide (2<=((b-I:Nat):Int))=false:=Zl A0c;rw[<-hD2];refine Sem.run hE ah A0a ?_;simp +decide (maxDischargeDepth:=200) only[go_sem,X1,X2,X3,bg,w5,c3,q]
theorem S4 (hS:SoOK G bk N g sf gl gs):FunXV G bk 74 [] (FE (dS g sf gl gs) (GV N)):=by
 obtain⟨X,hX,X1,X2,X3⟩:=iA hS [] trivial;have hN:=hS.N1;unfold MX at hN;refine cd (k:=3) hX Try.func74 rfl (fun a w=>Try.call74 a w) Try.ntmps74 A0b A0b ?_;clear hX;intro us r outs hF;obtain⟨⟨a,b,d⟩,hus,hG⟩:=bL hF;clear hF;subst hus;unfold GV at hG;obtain⟨⟨hab,hbN,hd⟩,hG⟩:=bP hG;simp only at hab hbN hd;cases hG;refine⟨_,rfl,rfl,fun pm m0 w0 hE=>?_⟩;simp only[dS];have w1:aw .i64 ((b:Int)-1)=((b-1:Nat):Int):=by rw[aj A0j];omega
 refine Sem.run hE ah A0a ?_;simp +decide (maxDischargeDepth:=200) only[go_sem,X1,X2,X3,bg,w1];refine dt (X:={x:Nat×Nat×Array C3//x.1<=N∧x.2.1<N∧x.2.2.size=N∧Go.Sort.reverseLoop x.1 x.2.1 x.2.2=Go.Sort.reverseRange d a b}) (fun x=>[(3,.ptr 3 0),(6,.x (.int .i64 ((x.1.1:Nat):Int))),(7,.x (.int .i64 ((x.1.2.1:Nat):Int)))]) (fun x=>[(3,[.x (.func (.func g) #[] gl),.x (.func (.func sf) #[] gs)]),(1003,ay x.1.2.2)]) (fun x=>x.1.2.1-x.1.1) ⟨(a,b-1,d),by simp only;omega,by simp only;omega,hd,rfl⟩ A0h A0h (fun⟨⟨i,j,dk⟩,hi,hj,hdk,heq⟩=>?_);simp only at hi hj hdk heq;by_cases hc:i<j
 . have c1:decide (((i:Nat):Int)<((j:Nat):Int))=true:=Zk A0c;have c2:aw .i64 (((i:Nat):Int)+1)=((i+1:Nat):Int):=by rw[aj A0j];omega
   have c3:aw .i64 (((j:Nat):Int)-1)=((j-1:Nat):Int):=by rw[aj A0j];omega
   have s1:=dz (N:=N) i j dk A0c A0c hdk;rw[Go.Sort.reverseLoop,Zp hc] at heq;simp +decide (maxDischargeDepth:=200) only[go_sem,X1,X2,X3,bg,c1,c2,c3,s1];refine⟨⟨(i+1,j-1,swp dk i j),by simp only;omega,by simp only;omega,by rw[bu];exact hdk,heq⟩,?_,?_,by simp only;omega⟩<;>simp +decide only[go_sem]<;>(repeat' first|rfl|constructor)
 . have c1:decide (((i:Nat):Int)<((j:Nat):Int))=false:=Zl A0c;rw[Go.Sort.reverseLoop,Zs hc] at heq;subst heq;simp +decide (maxDischargeDepth:=200) only[go_sem,X1,X2,X3,bg,c1]
theorem uH (d:Array C3) (a b s M:Nat) (ha:a<M) (hb:b<M):(Go.Sort.order2 ab d a b s).1<M∧(Go.Sort.order2 ab d a b s).2.1<M∧(Go.Sort.order2 ab d a b s).2.2<=s+1:=by unfold Go.Sort.order2;split<;>exact⟨by assumption,by assumption,by simp only;omega⟩
theorem GW (d:Array C3) (a b c s M:Nat) (ha:a<M) (hb:b<M) (hc:c<M):(Go.Sort.median ab d a b c s).1<M∧(Go.Sort.median ab d a b c s).2<=s+3:=by unfold Go.Sort.median;simp only;have h1:=uH d a b s M ha hb;have h2:=uH d _ c (Go.Sort.order2 ab d a b s).2.2 M h1.2.1 hc;have h3:=uH d _ _ (Go.Sort.order2 ab d (Go.Sort.order2 ab d a b s).2.1 c (Go.Sort.order2 ab d a b s).2.2).2.2 M h1.1 h2.1;exact⟨h3.2.1,A0c⟩
def S5 (N:Nat) (x:Nat×Nat×Nat×Array C3):Option (V×List (List V)):=if x.1<N∧x.2.1<N∧x.2.2.1<=1000∧x.2.2.2.size=N then some (.tup [.x (.int .i64 ((Go.Sort.order2 ab x.2.2.2 x.1 x.2.1 x.2.2.1).1:Int)),.x (.int .i64 ((Go.Sort.order2 ab x.2.2.2 x.1 x.2.1 x.2.2.1).2.1:Int))],[[.x (.int .i64 ((Go.Sort.order2 ab x.2.2.2 x.1 x.2.1 x.2.2.1).2.2:Int))],ay x.2.2.2]) else none
def Dp (N:Nat) (x:Nat×Nat×Nat×Nat×Array C3):Option (V×List (List V)):=if x.1<N∧x.2.1<N∧x.2.2.1<N∧x.2.2.2.1<=900∧x.2.2.2.2.size=N then some (.x (.int .i64 ((Go.Sort.median ab x.2.2.2.2 x.1 x.2.1 x.2.2.1 x.2.2.2.1).1:Int)),[[.x (.int .i64 ((Go.Sort.median ab x.2.2.2.2 x.1 x.2.1 x.2.2.1 x.2.2.2.1).2:Int))],ay x.2.2.2.2]) else none
def S6 (N:Nat) (x:Nat×Nat×Array C3):Option (V×List (List V)):=if 1<=x.1∧x.1+1<N∧x.2.1<=900∧x.2.2.size=N then some (.x (.int .i64 ((Go.Sort.medianAdjacent ab x.2.2 x.1 x.2.1).1:Int)),[[.x (.int .i64 ((Go.Sort.medianAdjacent ab x.2.2 x.1 x.2.1).2:Int))],ay x.2.2]) else none
def GX (N:Nat) (x:Nat×Nat×Array C3):Option (V×List (List V)):=if x.1<x.2.1∧x.2.1<=N∧x.2.2.size=N then some (.tup [.x (.int .i64 ((Go.Sort.choosePivot ab x.2.2 x.1 x.2.1).1:Int)),.x (.int .i64 (Go.Sort.hintCode (Go.Sort.choosePivot ab x.2.2 x.1 x.2.1).2))],[ay x.2.2]) else none
section
variable {g sf:FuncId} {gl gs:Array Value} {N:Nat}
theorem GY (a b s:Nat) (d:Array C3) (h1:a<N) (h2:b<N) (h3:s<=1000) (h4:d.size=N):FE (yH g sf gl gs) (S5 N) [dB g sf gl gs,.x (.int .i64 (a:Int)),.x (.int .i64 (b:Int)),.bx [.x (.int .i64 (s:Int))],.bx (ay d)]=some (.tup [.x (.int .i64 ((Go.Sort.order2 ab d a b s).1:Int)),.x (.int .i64 ((Go.Sort.order2 ab d a b s).2.1:Int))],[[.x (.int .i64 ((Go.Sort.order2 ab d a b s).2.2:Int))],ay d]):=
 (cL GP (S5 N) (a,b,s,d)).trans (Zp ⟨h1,h2,h3,h4⟩)
theorem yJ (a b c s:Nat) (d:Array C3) (h1:a<N) (h2:b<N) (h0:c<N) (h3:s<=900) (h4:d.size=N):FE (uC g sf gl gs) (Dp N) [dB g sf gl gs,.x (.int .i64 (a:Int)),.x (.int .i64 (b:Int)),.x (.int .i64 (c:Int)),.bx [.x (.int .i64 (s:Int))],.bx (ay d)]=some (.x (.int .i64 ((Go.Sort.median ab d a b c s).1:Int)),[[.x (.int .i64 ((Go.Sort.median ab d a b c s).2:Int))],ay d]):=
 (cL GR (Dp N) (a,b,c,s,d)).trans (Zp ⟨h1,h2,h0,h3,h4⟩)
theorem GZ (a s:Nat) (d:Array C3) (h1:1<=a) (h2:a+1<N) (h3:s<=900) (h4:d.size=N):FE (yI g sf gl gs) (S6 N) [dB g sf gl gs,.x (.int .i64 (a:Int)),.bx [.x (.int .i64 (s:Int))],.bx (ay d)]=some (.x (.int .i64 ((Go.Sort.medianAdjacent ab d a s).1:Int)),[[.x (.int .i64 ((Go.Sort.medianAdjacent ab d a s).2:Int))],ay d]):=
 (cL GQ (S6 N) (a,s,d)).trans (Zp ⟨h1,h2,h3,h4⟩)
end
theorem Yj (hS:SoOK G bk N g sf gl gs):FunXV G bk 87 [] (FE (yH g sf gl gs) (S5 N)):=by
 obtain⟨X,hX,X1,X2,X3⟩:=iA hS [] trivial;have hN:=hS.N1;unfold MX at hN;refine cd (k:=4) hX Try.func87 rfl (fun a w=>Try.call87 a w) Try.ntmps87 A0b A0b ?_;clear hX;intro us r outs hF;obtain⟨⟨a,b,s,d⟩,hus,hG⟩:=bL hF;clear hF;subst hus;unfold S5 at hG;obtain⟨⟨ha,hb,hs,hd⟩,hG⟩:=bP hG;simp only at ha hb hs hd;cases hG;refine⟨_,rfl,rfl,fun pm m0 w0 hE=>?_⟩;simp only[yH];have w1:aw .i64 ((s:Int)+1)=((s+1:Nat):Int):=by rw[aj A0j];omega
 have l1:=cy (N:=N) b a d hb ha hd;refine Sem.run hE ah A0a ?_;unfold Go.Sort.order2;cases hl:ab d[b]! d[a]! with
 |true=>rw[hl] at l1;simp +decide (maxDischargeDepth:=200) only[go_sem,X1,X2,X3,bg,w1,l1]
 |false=>rw[hl] at l1;simp +decide (maxDischargeDepth:=200) only[go_sem,X1,X2,X3,bg,w1,l1]
theorem Mn (hS:SoOK G bk N g sf gl gs):FunXV G bk 85 [] (FE (uC g sf gl gs) (Dp N)):=by obtain⟨X,hX,X1,X2,X3⟩:=iA hS [(87,FE (yH g sf gl gs) (S5 N))] ⟨Yj hS,trivial⟩;have hN:=hS.N1;unfold MX at hN;refine cd (k:=5) hX Try.func85 rfl (fun a w=>Try.call85 a w) Try.ntmps85 A0b A0b ?_;clear hX;intro us r outs hF;obtain⟨⟨a,b,c,s,d⟩,hus,hG⟩:=bL hF;clear hF;subst hus;unfold Dp at hG;obtain⟨⟨ha,hb,hc,hs,hd⟩,hG⟩:=bP hG;simp only at ha hb hc hs hd;cases hG;refine⟨_,rfl,rfl,fun pm m0 w0 hE=>?_⟩;simp only[uC];unfold Go.Sort.median;simp only;have b1:=uH d a b s N ha hb;have e1:=GY (g:=g) (sf:=sf) (gl:=gl) (gs:=gs) (N:=N) a b s d ha hb A0c hd;generalize Go.Sort.order2 ab d a b s=r1 at b1 e1⊢;have b2:=uH d r1.2.1 c r1.2.2 N b1.2.1 hc;have e2:=GY (g:=g) (sf:=sf) (gl:=gl) (gs:=gs) (N:=N) r1.2.1 c r1.2.2 d b1.2.1 hc A0c hd;generalize Go.Sort.order2 ab d r1.2.1 c r1.2.2=r2 at b2 e2⊢;have e3:=GY (g:=g) (sf:=sf) (gl:=gl) (gs:=gs) (N:=N) r1.1 r2.1 r2.2.2 d b1.1 b2.1 A0c hd;generalize Go.Sort.order2 ab d r1.1 r2.1 r2.2.2=r3 at e3⊢;refine Sem.run hE ah A0a ?_;simp +decide (maxDischargeDepth:=200) only[go_sem,X1,X2,X3,bg,e1,e2,e3]
theorem Yk (hS:SoOK G bk N g sf gl gs):FunXV G bk 84 [] (FE (yI g sf gl gs) (S6 N)):=by
 obtain⟨X,hX,X1,X2,X3⟩:=iA hS [(85,FE (uC g sf gl gs) (Dp N))] ⟨Mn hS,trivial⟩;have hN:=hS.N1;unfold MX at hN;refine cd (k:=3) hX Try.func84 rfl (fun a w=>Try.call84 a w) Try.ntmps84 A0b A0b ?_;clear hX;intro us r outs hF;obtain⟨⟨a,s,d⟩,hus,hG⟩:=bL hF;clear hF;subst hus;unfold S6 at hG;obtain⟨⟨h1,h2,hs,hd⟩,hG⟩:=bP hG;simp only at h1 h2 hs hd;cases hG;refine⟨_,rfl,rfl,fun pm m0 w0 hE=>?_⟩;simp only[yI];unfold Go.Sort.medianAdjacent;have w1:aw .i64 ((a:Int)+1)=((a+1:Nat):Int):=by rw[aj A0j];omega
 have w2:aw .i64 ((a:Int)-1)=((a-1:Nat):Int):=by rw[aj A0j];omega
 have e1:=yJ (g:=g) (sf:=sf) (gl:=gl) (gs:=gs) (N:=N) (a-1) a (a+1) s d A0c A0c A0c hs hd;refine Sem.run hE ah A0a ?_;simp +decide (maxDischargeDepth:=200) only[go_sem,X1,X2,X3,bg,w1,w2,e1]
theorem S7 (hS:SoOK G bk N g sf gl gs):FunXV G bk 73 [] (FE (dS g sf gl gs) (GX N)):=by
 obtain⟨X,hX,X1,X2,X3⟩:=iA hS [(84,FE (yI g sf gl gs) (S6 N)),(85,FE (uC g sf gl gs) (Dp N))] ⟨Yk hS,Mn hS,trivial⟩;have hN:=hS.N1;unfold MX at hN;refine cd (k:=3) hX Try.func73 rfl (fun a w=>Try.call73 a w) Try.ntmps73 A0b A0b ?_;clear hX;intro us r outs hF;obtain⟨⟨a,b,d⟩,hus,hG⟩:=bL hF;clear hF;subst hus;unfold GX at hG;obtain⟨⟨hab,hbN,hd⟩,hG⟩:=bP hG;simp only at hab hbN hd;cases hG;refine⟨_,rfl,rfl,fun pm m0 w0 hE=>?_⟩;simp only[dS];obtain⟨l,hl⟩:∃l,b-a=l:=⟨_,rfl⟩;obtain⟨i,hi⟩:∃i,a+l/4*1=i:=⟨_,rfl⟩;obtain⟨j,hj⟩:∃j,a+l/4*2=j:=⟨_,rfl⟩;obtain⟨k,hk⟩:∃k,a+l/4*3=k:=⟨_,rfl⟩;have w0:aw .i64 ((b:Int)-(a:Int))=((l:Nat):Int):=by rw[aj A0j];omega
 have q1:aw .i64 ((l:Int).tdiv 4)=((l/4:Nat):Int):=by rw[ab4 A0c,aj A0j];omega
 have w1:aw .i64 (((l/4:Nat):Int)*1)=((l/4*1:Nat):Int):=by rw[aj A0j];omega
 have w2:aw .i64 (((l/4:Nat):Int)*2)=((l/4*2:Nat):Int):=by rw[aj A0j];omega
 have w3:aw .i64 (((l/4:Nat):Int)*3)=((l/4*3:Nat):Int):=by rw[aj A0j];omega
 have w4:aw .i64 ((a:Int)+((l/4*1:Nat):Int))=((i:Nat):Int):=by rw[aj A0j];omega
 have w5:aw .i64 ((a:Int)+((l/4*2:Nat):Int))=((j:Nat):Int):=by rw[aj A0j];omega
 have w6:aw .i64 ((a:Int)+((l/4*3:Nat):Int))=((k:Nat):Int):=by rw[aj A0j];omega
 obtain⟨r,hr⟩:∃r:Nat×Nat,(if l≥8 then if l≥50 then Go.Sort.median ab d (Go.Sort.medianAdjacent ab d i 0).1 (Go.Sort.medianAdjacent ab d j (Go.Sort.medianAdjacent ab d i 0).2).1 (Go.Sort.medianAdjacent ab d k (Go.Sort.medianAdjacent ab d j (Go.Sort.medianAdjacent ab d i 0).2).2).1 (Go.Sort.medianAdjacent ab d k (Go.Sort.medianAdjacent ab d j (Go.Sort.medianAdjacent ab d i 0).2).2).2 else Go.Sort.median ab d i j k 0 else (j,0))=r:=⟨_,rfl⟩;have hch:Go.Sort.choosePivot ab d a b=(r.1,if r.2=0 then .increasing else if r.2=12 then .decreasing else .unknown):=by unfold Go.Sort.choosePivot;simp only[hl,hi,hj,hk,hr]
 rw[hch];refine Sem.seq [(3,.ptr 3 0),(1,.x (.int .i64 (a:Int))),(2,.x (.int .i64 (b:Int)))] [(3,[.x (.func (.func g) #[] gl),.x (.func (.func sf) #[] gs)]),(1003,ay d)] (Sem.run hE ah A0a A0o) ?_;refine Sem.seq [(3,.ptr 3 0),(1,.x (.int .i64 (a:Int))),(8,.x (.int .i64 ((l:Nat):Int)))] [(3,[.x (.func (.func g) #[] gl),.x (.func (.func sf) #[] gs)]),(1003,ay d)] (Sem.run hE ah A0a (by simp +decide (maxDischargeDepth:=200) only[go_sem,X1,X2,X3,bg,w0])) ?_;refine Sem.seq [(3,.ptr 3 0),(1,.x (.int .i64 (a:Int))),(8,.x (.int .i64 ((l:Nat):Int))),(9,.ptr 9 0)] [(3,[.x (.func (.func g) #[] gl),.x (.func (.func sf) #[] gs)]),(9,[.x (.int .i64 0)]),(1003,ay d)] (Sem.run hE ah A0a A0o) ?_;refine Sem.seq [(3,.ptr 3 0),(1,.x (.int .i64 (a:Int))),(8,.x (.int .i64 ((l:Nat):Int))),(9,.ptr 9 0),(10,.x (.int .i64 ((i:Nat):Int)))] [(3,[.x (.func (.func g) #[] gl),.x (.func (.func sf) #[] gs)]),(9,[.x (.int .i64 0)]),(1003,ay d)] (Sem.run hE ah A0a (by simp +decide (maxDischargeDepth:=200) only[go_sem,X1,X2,X3,bg,q1,w1,w4])) ?_;refine Sem.seq [(3,.ptr 3 0),(1,.x (.int .i64 (a:Int))),(8,.x (.int .i64 ((l:Nat):Int))),(9,.ptr 9 0),(10,.x (.int .i64 ((i:Nat):Int))),(11,.x (.int .i64 ((j:Nat):Int)))] [(3,[.x (.func (.func g) #[] gl),.x (.func (.func sf) #[] gs)]),(9,[.x (.int .i64 0)]),(1003,ay d)] (Sem.run hE ah A0a (by simp +decide (maxDischargeDepth:=200) only[go_sem,X1,X2,X3,bg,q1,w2,w5])) ?_;refine Sem.seq [(3,.ptr 3 0),(8,.x (.int .i64 ((l:Nat):Int))),(9,.ptr 9 0),(10,.x (.int .i64 ((i:Nat):Int))),(11,.x (.int .i64 ((j:Nat):Int))),(12,.x (.int .i64 ((k:Nat):Int)))] [(3,[.x (.func (.func g) #[] gl),.x (.func (.func sf) #[] gs)]),(9,[.x (.int .i64 0)]),(1003,ay d)] (Sem.run hE ah A0a (by simp +decide (maxDischargeDepth:=200) only[go_sem,X1,X2,X3,bg,q1,w3,w6])) ?_;refine Sem.seq [(9,.ptr 9 0),(11,.x (.int .i64 ((r.1:Nat):Int)))] [(3,[.x (.func (.func g) #[] gl),.x (.func (.func sf) #[] gs)]),(9,[.x (.int .i64 ((r.2:Nat):Int))]),(1003,ay d)] (Sem.run hE ah A0a ?_) ?_
 . by_cases h8:l≥8
   . rw[Zp h8] at hr;have c1:decide (8<=((l:Nat):Int))=true:=Zk A0c;by_cases h50:l≥50
     . rw[Zp h50] at hr;have c2:decide (50<=((l:Nat):Int))=true:=Zk A0c;have e1:=GZ (g:=g) (sf:=sf) (gl:=gl) (gs:=gs) (N:=N) i 0 d A0c A0c A0c hd;have b1:=GW d (i-1) i (i+1) 0 N A0c A0c A0c;change (Go.Sort.medianAdjacent ab d i 0).1<N∧(Go.Sort.medianAdjacent ab d i 0).2<=0+3 at b1;generalize Go.Sort.medianAdjacent ab d i 0=r1 at hr e1 b1;have e2:=GZ (g:=g) (sf:=sf) (gl:=gl) (gs:=gs) (N:=N) j r1.2 d A0c A0c A0c hd;have b2:=GW d (j-1) j (j+1) r1.2 N A0c A0c A0c;change (Go.Sort.medianAdjacent ab d j r1.2).1<N∧(Go.Sort.medianAdjacent ab d j r1.2).2<=r1.2+3 at b2;generalize Go.Sort.medianAdjacent ab d j r1.2=r2 at hr e2 b2;have e3:=GZ (g:=g) (sf:=sf) (gl:=gl) (gs:=gs) (N:=N) k r2.2 d A0c A0c A0c hd;have b3:=GW d (k-1) k (k+1) r2.2 N A0c A0c A0c;change (Go.Sort.medianAdjacent ab d k r2.2).1<N∧(Go.Sort.medianAdjacent ab d k r2.2).2<=r2.2+3 at b3;generalize Go.Sort.medianAdjacent ab d k r2.2=r3 at hr e3 b3;have e4:=yJ (g:=g) (sf:=sf) (gl:=gl) (gs:=gs) (N:=N) r1.1 r2.1 r3.1 r3.2 d b1.1 b2.1 b3.1 A0c hd;rw[hr] at e4;rw[show((0:Nat):Int)=0 from rfl] at e1;simp +decide (maxDischargeDepth:=200) only[go_sem,X1,X2,X3,bg,c1,c2,e1,e2,e3,e4]
     . rw[Zs h50] at hr;have c2:decide (50<=((l:Nat):Int))=false:=Zl A0c;have e4:=yJ (g:=g) (sf:=sf) (gl:=gl) (gs:=gs) (N:=N) i j k 0 d A0c A0c A0c A0c hd;rw[hr] at e4;rw[show((0:Nat):Int)=0 from rfl] at e4;simp +decide (maxDischargeDepth:=200) only[go_sem,X1,X2,X3,bg,c1,c2,e4]
   . rw[Zs h8] at hr;have c1:decide (8<=((l:Nat):Int))=false:=Zl A0c;rw[<-hr];simp +decide (maxDischargeDepth:=200) only[go_sem,X1,X2,X3,bg,c1];rfl
 . refine Sem.run hE ah A0a ?_;by_cases h0:r.2=0
   . rw[Zp h0];have c1:decide (((r.2:Nat):Int)=0)=true:=Zk A0c;simp +decide (maxDischargeDepth:=200) only[go_sem,X1,X2,X3,bg,c1,Go.Sort.hintCode]
   . rw[Zs h0];have c1:decide (((r.2:Nat):Int)=0)=false:=Zl A0c;by_cases h12:r.2=12
     . rw[Zp h12];have c2:decide (((r.2:Nat):Int)=12)=true:=Zk A0c;simp +decide (maxDischargeDepth:=200) only[go_sem,X1,X2,X3,bg,c1,c2,Go.Sort.hintCode]
     . rw[Zs h12];have c2:decide (((r.2:Nat):Int)=12)=false:=Zl A0c;simp +decide (maxDischargeDepth:=200) only[go_sem,X1,X2,X3,bg,c1,c2,Go.Sort.hintCode]
end Go.Proofs.Ytmfojhkjbkombaa
