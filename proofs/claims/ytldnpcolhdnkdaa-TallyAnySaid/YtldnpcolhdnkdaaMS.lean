/- Runs, part by part: what is known may be less from part to part. No program is named here. -/
import Derived.Test.YtldnpcolhdnkdaaMI
import Derived.Test.YtldnpcolhdnkdaaMPO
import Derived.Test.YtldnpcolhdnkdaaMG
import Derived.Sort.AssemblyPlain
import Derived.Sort.LotD4
namespace Go.Proofs.Ytldnpcolhdnkdaa
set_option linter.unusedSimpArgs false
open Go Go.RowKit
def Sem (E:Env) (n:Nat) (pm:Pm) (m0:Lim) (w0:World) (c:Code) (st:St) (K:Out->St->Prop):Prop:=
 ∀a w m β,Rel E n pm m0 w0 m β st a w->c.wpIn (fK none) 0 E.P (dZ E n pm m0 w0 K) a w
def yc (ts:List (Nat×V)) (bs:List (Nat×List V)) (K:Out->St->Prop):Out->St->Prop
 | .normal,st=>jk st ts∧jl st bs
 | .ret,st=>K .ret st
 | .exit id,st=>K (.exit id) st
def seqQ (Q:Prop) (ts:List (Nat×V)) (bs:List (Nat×List V)) (K:Out->St->Prop):Out->St->Prop
 | .normal,st=>Q∧jk st ts∧jl st bs
 | .ret,st=>K .ret st
 | .exit id,st=>K (.exit id) st
def E9 (K:Out->St->Prop):Out->St->Prop
 | .normal,_=>False
 | .ret,st=>K .ret st
 | .exit id,st=>K (.exit id) st
def jU {X:Type} (T:X->List (Nat×V)) (B:X->List (Nat×List V)) (μ:X->Nat) (n:Nat) (K:Out->St->Prop):Out->St->Prop
 | .normal,st=>nK T B μ n st
 | .ret,st=>K .ret st
 | .exit id,st=>K (.exit id) st
section
variable {E:Env} {n:Nat} {pm:Pm} {m0:Lim} {w0:World} {st:St} {K:Out->St->Prop}
section
variable (ts:List (Nat×V)) (bs:List (Nat×List V)) (K:Out->St->Prop) (st:St) (id:Nat)
theorem qQ:yc ts bs K .normal st=(jk st ts∧jl st bs):=rfl
theorem Bu:yc ts bs K .ret st=K .ret st:=rfl
theorem qR (Q:Prop):seqQ Q ts bs K .normal st=(Q∧jk st ts∧jl st bs):=rfl
theorem Bv (Q:Prop):seqQ Q ts bs K .ret st=K .ret st:=rfl
theorem yd (Q:Prop):seqQ Q ts bs K (.exit id) st=K (.exit id) st:=rfl
theorem t7 (Q:Prop) {o o':Out} (h:o=o'):seqQ Q ts bs K o st=seqQ Q ts bs K o' st:=by rw[h]
variable {o o':Out}
theorem t8 (h:o=o'):yc ts bs K o st=yc ts bs K o' st:=by rw[h]
theorem qS:E9 K .normal st=False:=rfl
theorem Bw:E9 K .ret st=K .ret st:=rfl
theorem ye:E9 K (.exit id) st=K (.exit id) st:=rfl
theorem yf:yc ts bs K (.exit id) st=K (.exit id) st:=rfl
variable {X:Type} (T:X->List (Nat×V)) (B:X->List (Nat×List V)) (μ:X->Nat) (n:Nat)
theorem m6:jU T B μ n K .normal st=nK T B μ n st:=rfl
theorem ua:jU T B μ n K .ret st=K .ret st:=rfl
theorem oX (h:o=o'):jU T B μ n K o st=jU T B μ n K o' st:=by rw[h]
theorem qT:jU T B μ n K (.exit id) st=K (.exit id) st:=rfl
end
attribute [go_sem] qQ Bu yf qS Bw ye m6 ua qT jk jl
attribute [go_sem] qR Bv yd
attribute [congr] t7 t8 oX
theorem Sem.run (hE:EnvX E pm) (hm:E.P.follows .mixedOrders=true) {c:Code} (hok:cz E.any n c=true) (h:Go.Proofs.Ytldnpcolhdnkdaa.run E c st K):Sem E n pm m0 w0 c st K:=fun a w m β hr=>
 wpIn_mono (iG (r:=none) (W:=fun _=>true) hE hm c K st a w m β hok (oM c) hr h) (fun _ _ _ h=>h.1)
variable {c:Code}
theorem Sem.le {st':St} (hl:Le st' st) (h:Sem E n pm m0 w0 c st' K):Sem E n pm m0 w0 c st K:=fun a w m β hr=>h a w m β (hr.le hl)
variable {d:Code}
theorem Sem.seq (ts:List (Nat×V)) (bs:List (Nat×List V)) (h1:Sem E n pm m0 w0 c st (yc ts bs K)) (h2:Sem E n pm m0 w0 d (fC ts bs) K):Sem E n pm m0 w0 (c.seq d) st K:=fun a w m β hr=>by
 refine wpIn_seq (wpIn_mono (h1 a w m β hr) ?_);intro e a' w' hp;cases e<;>simp only[dZ,Exit.then] at hp⊢ <;>first|exact hp.elim|exact hp|skip
 obtain⟨st',m',β',hk,h'⟩:=hp;exact h2 a' w' m' β' (h'.le (ez hk.1 hk.2))
theorem Sem.seqQ (Q:Prop) (ts:List (Nat×V)) (bs:List (Nat×List V)) (h1:Sem E n pm m0 w0 c st (Go.Proofs.Ytldnpcolhdnkdaa.seqQ Q ts bs K)) (h2:Q->Sem E n pm m0 w0 d (fC ts bs) K):Sem E n pm m0 w0 (c.seq d) st K:=fun a w m β hr=>by
 refine wpIn_seq (wpIn_mono (h1 a w m β hr) ?_);intro e a' w' hp;cases e<;>simp only[dZ,Exit.then] at hp⊢ <;>first|exact hp.elim|exact hp|skip
 obtain⟨st',m',β',⟨hq,hk1,hk2⟩,h'⟩:=hp;exact h2 hq a' w' m' β' (h'.le (ez hk1 hk2))
theorem Sem.seq_out (h1:Sem E n pm m0 w0 c st (E9 K)):Sem E n pm m0 w0 (c.seq d) st K:=fun a w m β hr=>by
 refine wpIn_seq (wpIn_mono (h1 a w m β hr) ?_);intro e a' w' hp;cases e<;>simp only[dZ,Exit.then] at hp⊢ <;>first|exact hp.elim|exact hp|skip
 obtain⟨st',m',β',hk,h'⟩:=hp;exact hk.elim
theorem Sem.block {id:Nat} (h:Sem E n pm m0 w0 c st (iF id K)):Sem E n pm m0 w0 (.block id c) st K:=fun a w m β hr=>by
 refine wpIn_block (wpIn_mono (h a w m β hr) ?_);intro e a' w' hp;cases e<;>simp only[dZ,Exit.inBlock] at hp⊢ <;>first|exact hp.elim|exact hp|skip
 rename_i id';obtain⟨st',m',β',hk,h'⟩:=hp;by_cases hid:id'=id
 . subst hid;rw[gE,PO rfl] at hk;simp only[Qt];exact⟨st',m',β',hk,h'⟩
 . rw[gE,PS hid] at hk;simp only[hid,Qr];exact⟨st',m',β',hk,h'⟩
variable {X:Type}
theorem Sem.loop (T:X->List (Nat×V)) (B:X->List (Nat×List V)) (μ:X->Nat) (x0:X) (h0:jk st (T x0)) (h0':jl st (B x0))
 (h:∀x,Sem E n pm m0 w0 c (fC (T x) (B x)) (jU T B μ (μ x) K)):Sem E n pm m0 w0 (.loop c) st K:=fun a w m β hr=>by
 refine tT (X:=X) (fun x a w=>∃m β,Rel E n pm m0 w0 m β (fC (T x) (B x)) a w) μ x0 ⟨m,β,hr.le (ez h0 h0')⟩ ?_;rintro x a1 w1 ⟨m1,β1,hr1⟩;refine wpIn_mono (h x a1 w1 m1 β1 hr1) ?_;intro e a' w' hp;cases e<;>simp only[dZ] at hp⊢ <;>first|exact hp.elim|exact hp|skip
 obtain⟨st',m',β',⟨x',h1,h2,h3⟩,h'⟩:=hp;exact⟨x',⟨m',β',h'.le (ez h1 h2)⟩,h3⟩
theorem Sem.cond {c:Operand} {x y:Code} {t:Bool} (hc:ev E st c= .x (.bool t)) (h1:t=true->Sem E n pm m0 w0 x st K) (h2:t=false->Sem E n pm m0 w0 y st K):Sem E n pm m0 w0 (.cond c x y) st K:=fun a w m β hr=>by have hv:a.eval c= .bool t:=(hc▸aA hr c:Rs m w β (a.eval c) (.x (.bool t))).x;exact wpIn_cond_split hv (fun e=>h1 e a w m β hr) (fun e=>h2 e a w m β hr)
theorem Sem.mono {K':Out->St->Prop} (h:Sem E n pm m0 w0 c st K) (hk:∀o st,K o st->K' o st):Sem E n pm m0 w0 c st K':=fun a w m β hr=>by refine wpIn_mono (h a w m β hr) ?_;intro e a' w' hp;cases e<;>simp only[dZ] at hp⊢ <;>first|exact hp.elim|(obtain⟨st',m',β',h1,h2⟩:=hp;exact⟨st',m',β',hk _ _ h1,h2⟩)
theorem lW (hEx:∀pm:Pm,∀bk,pm.b E.xk=bk->(∀f lb F,E.X f lb=some F->FunX E bk f lb F)->EnvX E pm) (hmb:∀s,1000<=s->E.MB s=false) (_hm:E.P.follows .mixedOrders=true) {f:FuncId} {fn:Func} {c:Code} {F:List V->Option (V×List (List V))} {k bk:Nat} (hf:E.P.funcs[f]?=some fn) (hb:fn.body=some c)
 (hcall:∀args w,(callFunc f args).run E.P w= .ok (.enter f args) w) (hn:fn.ntmps=n) (hk:k<n) (hn1:n<=1000) (hxk:E.xk=1000+k) (hX:∀f lb F,E.X f lb=some F->FunX E bk f lb F)
 (hrun:∀us r outs,F us=some (r,outs)->∃cs,us.length=k+1∧us[k]?=some (.bx cs)∧∀pm m0 w0,EnvX E pm->Sem E n pm m0 w0 c ⟨aw (cA us).t k .undef,(cA us).b⟩ (Gb E fn.results.toList us r outs)):FunX E bk f [] F:=by
 intro m w vs us bs gs hs r outs hF hargs hnd hhnd hj hg;obtain⟨cs,hl,hcs,hrun⟩:=hrun us r outs hF;have hlen:=hargs.len;simp only[PP,PR,P5,Qk] at hlen;have hargs':ArgsP m w E.K (vs.push (.pointer (some ⟨bk,0,none⟩))).toList us bs gs hs:=by simpa using hargs
 obtain⟨γ,hrel,_,h1,h3,h8⟩:=lP hmb hn1 hargs' hnd hhnd hj hg (by simp;omega);have hγ:γ (1000+k)=bk:=by
  obtain⟨q1,_,_⟩:=h1 k cs hcs;have hkv:k=vs.size:=by omega
  subst hkv;simp at q1;exact q1.symm
 subst hn;have hE:EnvX E ⟨bs++(gs++hs),γ,gs,[]⟩:=hEx _ bk (by rw[hxk];exact hγ) hX;have hrel':=Rel.drop (T:=vs++Array.replicate (fn.ntmps-vs.size) Go.undef) hrel (by simp;omega) k (fun i hi=>by
  have hkv:k=vs.size:=by omega
  subst hkv;simp only[P0];rcases Ql i vs.size with h'|h'
  . rw[Qz h',Qz (by simp;omega),Array.getElem?_push_lt h',PW h']
  . rw[RD h',RD (by simp;omega)];simp only[Array.size_push,Rk];have:i-vs.size<fn.ntmps-vs.size↔i-(vs.size+1)<fn.ntmps-(vs.size+1):=by omega
    by_cases hc:i-vs.size<fn.ntmps-vs.size
    . rw[PO hc,PO (this.1 hc)]
    . rw[PS hc,PS (fun h=>hc (this.2 h))])
 refine .inl ⟨hcall _ _,?_⟩;rw[show vs++(⟨[]⟩:Array Value)=vs from RH];refine calls_of_wp hf hb (wp_mono (wpIn_wide.1 (hrun _ _ _ hE _ _ _ _ hrel')) ?_);intro e a' w' hp
 have done:∀st' m' β',((qn E st' fn.results.toList=some r∨fv E st' fn.results.toList=some r)∧kJ us st'=some outs)->Rel E fn.ntmps ⟨bs++(gs++hs),γ,gs,[]⟩ m w m' β' st' a' w'->a'.defers=[]∧∃v,(results fn a'.tmps).run E.P w'= .ok v w'∧∃v',Ending.returned v= .returned v'∧∃m',Rd m' w' v' r∧Bel (bs++(gs++hs)) w w'∧Ext m w m' w'∧(∀blk,blk<w.heap.size->blk∉gs->m' blk=m blk)∧(∃o1 o2,outs=o1++o2∧OutsP m' w' bs o1∧OutsM m' w' hs o2)∧
  ∀sz es k,r= .sl false sz es (some k)->∃g,RowIs m' w' v' g sz es.length∧(w.heap.size<=g∨g∈gs):=by
  intro st' m' β' h1' h2';obtain⟨q1,v,q2,q3⟩:=lQ h3 h8 h1' h2';exact⟨q1,v,q2,v,rfl,m',q3⟩
 cases e with
 |normal=>obtain⟨st',m',β',h1,h2⟩:=hp;exact done st' m' β' h1 h2
 |ret=>obtain⟨st',m',β',h1,h2⟩:=hp;exact done st' m' β' h1 h2
 |exit id=>obtain⟨st',m',β',h1,h2⟩:=hp;exact h1.elim
 |goto l=>exact hp.elim
 |panic ch=>exact hp.elim
 |outgrown=>exact hp.elim
end
open Go.Sort (swp)
section
variable (g sf:FuncId) (gl gs:Array Value)
end
section
variable {g sf:FuncId} {gl gs:Array Value}
end
section
variable {G:Nat->V} {bk N:Nat} {g sf:FuncId} {gl gs:Array Value}
end
section
variable {hi F r:Nat} {d:Array C3}
end
section
variable {p:C3->Bool} {d:Array C3}
end
section
variable {a b s i I:Nat} {d:Array C3}
end
section
variable {g sf:FuncId} {gl gs:Array Value} {N:Nat}
end
end Go.Proofs.Ytldnpcolhdnkdaa
