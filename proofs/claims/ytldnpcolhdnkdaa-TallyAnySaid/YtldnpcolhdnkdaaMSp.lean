/- Sorting by a function value: what the calls lean on, and what they are told. -/
import Derived.Test.YtldnpcolhdnkdaaMFr
import Derived.Test.YtldnpcolhdnkdaaMG
import Derived.Test.YtldnpcolhdnkdaaMS
import Derived.Sort.AssemblyPlain
import Derived.Sort.LotD4
import Derived.Sort.Walk13a
import Derived.Sort.LotD3
namespace Go.Proofs.Ytldnpcolhdnkdaa
set_option linter.unusedSimpArgs false
set_option maxHeartbeats 8000000
set_option maxRecDepth 100000
open Go Go.RowKit
open Go.Sort (swp)
attribute [go_sem] Try.results27 Try.results44 Try.results45 Try.results47 Try.results48 Try.results49 Try.results50 Try.results51 Try.results53 Try.results56 Try.results57 Try.results58
def an (d:Array aK):List V:=d.toList.flatMap fun p=>(aJ p).cells
theorem rY:Tot ac:=⟨cP,fun _ _ _ h k=>jr h k,fun a b h k=>QH fun n=>by have:=g4 h n;rw[k] at this;cases this⟩
theorem dP {a b:Array aK} (h:an a=an b):a=b:=by
 have key:∀l l':List aK,(l.flatMap fun p=>(aJ p).cells)=(l'.flatMap fun p=>(aJ p).cells)->l=l':=by
  intro l
  induction l with
  | nil=>
    intro l' h;cases l' with
    |nil=>rfl
    |cons p l'=>simp[aJ,V.cells] at h
  | cons p l ih=>
    intro l' h;cases l' with
    |nil=>simp[aJ,V.cells] at h
    | cons p' l'=>
      simp only[Qq] at h;obtain⟨h1,h2⟩:=List.append_inj h (by simp[aJ,V.cells]);have e:aJ p=aJ p':=by obtain⟨x,y,z⟩:=p;obtain⟨x',y',z'⟩:=p';simp only[aJ,V.cells] at h1⊢;rw[h1]
      rw[rI e,ih _ h2]
 exact Qe.1 (key _ _ h)
abbrev bL (g sf:FuncId) (gl gs:Array Value):V:= .agg [.x (.func (.func g) #[] gl),.x (.func (.func sf) #[] gs)]
section
variable (g sf:FuncId) (gl gs:Array Value)
def en2S3 (x:Nat×Nat×Array aK):List V:=[.x (.int .i64 (x.1:Int)),.x (.int .i64 (x.2.1:Int)),.bx (an x.2.2)]
def bw (x:Nat×Nat×Array aK):List V:=[bL g sf gl gs,.x (.int .i64 (x.1:Int)),.x (.int .i64 (x.2.1:Int)),.bx (an x.2.2)]
def cd (x:Nat×Nat×Nat×Array aK):List V:=[bL g sf gl gs,.x (.int .i64 (x.1:Int)),.x (.int .i64 (x.2.1:Int)),.x (.int .i64 (x.2.2.1:Int)),.bx (an x.2.2.2)]
def iU (x:Nat×Nat×Nat×Array aK):List V:=[bL g sf gl gs,.x (.int .i64 (x.1:Int)),.x (.int .i64 (x.2.1:Int)),.bx [.x (.int .i64 (x.2.2.1:Int))],.bx (an x.2.2.2)]
def iV (x:Nat×Nat×Array aK):List V:=[bL g sf gl gs,.x (.int .i64 (x.1:Int)),.bx [.x (.int .i64 (x.2.1:Int))],.bx (an x.2.2)]
def gP (x:Nat×Nat×Nat×Nat×Array aK):List V:=[bL g sf gl gs,.x (.int .i64 (x.1:Int)),.x (.int .i64 (x.2.1:Int)),.x (.int .i64 (x.2.2.1:Int)),.bx [.x (.int .i64 (x.2.2.2.1:Int))],.bx (an x.2.2.2.2)]
end
theorem og (x y:Nat×Nat×Array aK) (h:en2S3 x=en2S3 y):x=y:=by obtain⟨a,b,d⟩:=x;obtain⟨a',b',d'⟩:=y;simp only[en2S3,QN,V.x.injEq,Value.int.injEq,V.bx.injEq,RU,RE,Q9] at h;obtain⟨rfl,rfl,h⟩:=h;rw[dP h]
section
variable {g sf:FuncId} {gl gs:Array Value}
theorem dQ (x y:Nat×Nat×Array aK) (h:bw g sf gl gs x=bw g sf gl gs y):x=y:=by obtain⟨a,b,d⟩:=x;obtain⟨a',b',d'⟩:=y;simp only[bw,QN,V.x.injEq,Value.int.injEq,V.bx.injEq,RU,RE,Q9] at h;obtain⟨rfl,rfl,h⟩:=h;rw[dP h]
theorem f7 (x y:Nat×Nat×Nat×Array aK) (h:cd g sf gl gs x=cd g sf gl gs y):x=y:=by obtain⟨a,b,c,d⟩:=x;obtain⟨a',b',c',d'⟩:=y;simp only[cd,QN,V.x.injEq,Value.int.injEq,V.bx.injEq,RU,RE,Q9] at h;obtain⟨rfl,rfl,rfl,h⟩:=h;rw[dP h]
theorem uW (x y:Nat×Nat×Nat×Array aK) (h:iU g sf gl gs x=iU g sf gl gs y):x=y:=by obtain⟨a,b,c,d⟩:=x;obtain⟨a',b',c',d'⟩:=y;simp only[iU,QN,V.x.injEq,Value.int.injEq,V.bx.injEq,RU,RE,Q9] at h;obtain⟨rfl,rfl,rfl,h⟩:=h;rw[dP h]
theorem uX (x y:Nat×Nat×Array aK) (h:iV g sf gl gs x=iV g sf gl gs y):x=y:=by obtain⟨a,c,d⟩:=x;obtain⟨a',c',d'⟩:=y;simp only[iV,QN,V.x.injEq,Value.int.injEq,V.bx.injEq,RU,RE,Q9] at h;obtain⟨rfl,rfl,h⟩:=h;rw[dP h]
theorem uY (x y:Nat×Nat×Nat×Nat×Array aK) (h:gP g sf gl gs x=gP g sf gl gs y):x=y:=by obtain⟨a,b,e,c,d⟩:=x;obtain⟨a',b',e',c',d'⟩:=y;simp only[gP,QN,V.x.injEq,Value.int.injEq,V.bx.injEq,RU,RE,Q9] at h;obtain⟨rfl,rfl,rfl,rfl,h⟩:=h;rw[dP h]
end
theorem aO (d:Array aK) (i j:Nat):(swp d i j).size=d.size:=by simp[swp]
abbrev MXS3:Nat:=1000000
def GLessS3 (N:Nat) (x:Nat×Nat×Array aK):Option (V×List (List V)):=if x.1<N∧x.2.1<N∧x.2.2.size=N then some (.x (.bool (ac x.2.2[x.1]! x.2.2[x.2.1]!)),[an x.2.2]) else none
def GSwpS3 (N:Nat) (x:Nat×Nat×Array aK):Option (V×List (List V)):=if x.1<N∧x.2.1<N∧x.2.2.size=N then some (.tup [],[an (swp x.2.2 x.1 x.2.1)]) else none
def FunXVS3 (G:Nat->V) (bk:Nat) (f:FuncId) (lb:List Value) (F:List V->Option (V×List (List V))):Prop:=FunX (cB G (fun _ _=>none) 0) bk f lb F
structure SoOKS3 (G:Nat->V) (bk N:Nat) (g sf:FuncId) (gl gs:Array Value):Prop where
 gl0:gl.toList≠[]
 gs0:gs.toList≠[]
 ne:g≠sf
 N1:N<=MXS3
 less:FunXVS3 G bk g gl.toList (FE en2S3 (GLessS3 N))
 swap:FunXVS3 G bk sf gs.toList (FE en2S3 (GSwpS3 N))
def uZ (G:Nat->V) (bk:Nat):List (Nat×(List V->Option (V×List (List V))))->Prop
 |[]=>True
 |p::l=>FunXVS3 G bk p.1 [] p.2∧uZ G bk l
section
variable {G:Nat->V} {bk N:Nat} {g sf:FuncId} {gl gs:Array Value}
theorem dt (hS:SoOKS3 G bk N g sf gl gs) (l:List (Nat×(List V->Option (V×List (List V))))) (hl:uZ G bk l):∃X:FuncId->List Value->Option (List V->Option (V×List (List V))),(∀f lb F,X f lb=some F->FunXVS3 G bk f lb F)∧X g gl.toList=some (FE en2S3 (GLessS3 N))∧X sf gs.toList=some (FE en2S3 (GSwpS3 N))∧∀f,X f []=ay l f:=by
 classical
 refine⟨fun f lb=>if lb=[] then ay l f else if f=g∧lb=gl.toList then some (FE en2S3 (GLessS3 N)) else if f=sf∧lb=gs.toList then some (FE en2S3 (GSwpS3 N)) else none,fun f lb F h=>?_,?_,?_,fun f=>PO rfl⟩
 . by_cases h0:lb=[]
   . simp only[h0,Qt] at h⊢;have key:∀l,uZ G bk l->ay l f=some F->FunXVS3 G bk f [] F:=by
      intro l
      induction l with
      |nil=>intro _ h;cases h
      | cons p l ih=>
        intro q hF;simp only[ay] at hF;split at hF
        . rename_i e;cases hF;exact e▸q.1
        . exact ih q.2 hF
     exact key l hl h
   . simp only[h0,Qr] at h;split at h
     . rename_i e;cases h;rw[e.1,e.2];exact hS.less
     . split at h
       . rename_i e;cases h;rw[e.1,e.2];exact hS.swap
       . cases h
 . simp only[hS.gl0,Qr,and_self,Qt]
 . simp only[hS.gs0,Qr,and_self,Qt];rw[PS (fun e=>hS.ne e.1.symm)]
theorem bj (i j:Nat) (d:Array aK) (hi:i<N) (hj:j<N) (hd:d.size=N):FE en2S3 (GLessS3 N) [.x (.int .i64 (i:Int)),.x (.int .i64 (j:Int)),.bx (an d)]=some (.x (.bool (ac d[i]! d[j]!)),[an d]):=
 (bA og (GLessS3 N) (i,j,d)).trans (PO ⟨hi,hj,hd⟩)
theorem bS (i j:Nat) (d:Array aK) (hi:i<N) (hj:j<N) (hd:d.size=N):FE en2S3 (GSwpS3 N) [.x (.int .i64 (i:Int)),.x (.int .i64 (j:Int)),.bx (an d)]=some (.tup [],[an (swp d i j)]):=
 (bA og (GSwpS3 N) (i,j,d)).trans (PO ⟨hi,hj,hd⟩)
end
variable {G:Nat->V} {X:FuncId->List Value->Option (List V->Option (V×List (List V)))} {f:FuncId} {fn:Func} {c:Code} {F:List V->Option (V×List (List V))} {k n bk:Nat}
theorem eU (hX:∀f lb F,X f lb=some F->FunXVS3 G bk f lb F) (hf:Try.prog.funcs[f]?=some fn) (hb:fn.body=some c)
 (hcall:∀args w,(callFunc f args).run Try.prog w= .ok (.enter f args) w) (hn:fn.ntmps=n) (hok:cz (fun _=>false) n c=true) (hk:k<n) (hn1:n<=1000)
 (hrun:∀us r outs,F us=some (r,outs)->∃cs,us.length=k+1∧us[k]?=some (.bx cs)∧run (cB G X (1000+k)) c ⟨aw (cA us).t k .undef,(cA us).b⟩ (ql (cB G X (1000+k)) fn.results.toList us r outs)):FunXVS3 G bk f [] F:=by
 refine kK (E:=cB G X (1000+k)) (n:=n) (fun pm bk' h1 h2=>kY G X (1000+k) (by omega) pm bk' h1 h2) (fun _ _=>rfl) (by kernel_rfl) hf hb hcall hn hok hk hn1 rfl hX (fun us r outs hF=>?_);obtain⟨cs,h1,h2,h3⟩:=hrun us r outs hF;refine⟨cs,h1,h2,_,Le.refl _,lM (fun o st hk=>?_) h3⟩;cases o with
 |exit id=>exact hk
 |normal=>exact⟨.inr hk.1,hk.2⟩
 |ret=>exact⟨.inr hk.1,hk.2⟩
theorem bz (hX:∀f lb F,X f lb=some F->FunXVS3 G bk f lb F) (hf:Try.prog.funcs[f]?=some fn) (hb:fn.body=some c)
 (hcall:∀args w,(callFunc f args).run Try.prog w= .ok (.enter f args) w) (hn:fn.ntmps=n) (hk:k<n) (hn1:n<=1000)
 (hrun:∀us r outs,F us=some (r,outs)->∃cs,us.length=k+1∧us[k]?=some (.bx cs)∧∀pm m0 w0,EnvX (cB G X (1000+k)) pm->Sem (cB G X (1000+k)) n pm m0 w0 c ⟨aw (cA us).t k .undef,(cA us).b⟩ (ql (cB G X (1000+k)) fn.results.toList us r outs)):FunXVS3 G bk f [] F:=by
 refine lW (E:=cB G X (1000+k)) (n:=n) (fun pm bk' h1 h2=>kY G X (1000+k) (by omega) pm bk' h1 h2) (fun _ _=>rfl) (by kernel_rfl) hf hb hcall hn hk hn1 rfl hX (fun us r outs hF=>?_);obtain⟨cs,h1,h2,h3⟩:=hrun us r outs hF;refine⟨cs,h1,h2,fun pm m0 w0 hE=>Sem.mono (h3 pm m0 w0 hE) (fun o st hk=>?_)⟩;cases o with
 |exit id=>exact hk
 |normal=>exact⟨.inr hk.1,hk.2⟩
 |ret=>exact⟨.inr hk.1,hk.2⟩
theorem ah:Try.prog.follows .mixedOrders=true:=by kernel_rfl
def mK (N:Nat) (x:Nat×Nat×Array aK):Option (V×List (List V)):=if x.1<=x.2.1∧x.2.1<=N∧x.2.2.size=N then some (.tup [],[an (Go.Sort.insertionSort ac x.2.2 x.1 x.2.1)]) else none
variable {a:Nat} {d:Array aK}
theorem kT {j:Nat} (h: ¬a<j):Go.Sort.insInner ac a j d=d:=by
 cases j with
 |zero=>rfl
 |succ j=>rw[Go.Sort.insInner];simp;intro h1;omega
variable {N:Nat} {g sf:FuncId} {gl gs:Array Value}
theorem FH (hS:SoOKS3 G bk N g sf gl gs):FunXVS3 G bk 44 [] (FE (bw g sf gl gs) (mK N)):=by
 obtain⟨X,hX,X1,X2,X3⟩:=dt hS [] trivial;have hN:=hS.N1;unfold MXS3 at hN;refine eU (k:=3) hX Try.func44 rfl (fun a w=>Try.call44 a w) Try.ntmps44 (by kernel_rfl) (by decide) (by decide) ?_;clear hX;intro us r outs hF;obtain⟨⟨a,b,d⟩,hus,hG⟩:=aZ hF;clear hF;subst hus;unfold mK at hG;obtain⟨⟨hab,hbN,hd⟩,hG⟩:=aI hG;simp only at hab hbN hd;cases hG;refine⟨_,rfl,rfl,?_⟩;simp only[bw];have w1:aq .i64 ((a:Int)+1)=((a+1:Nat):Int):=by rw[aj (by unfold aS;omega)];omega
 simp +decide (maxDischargeDepth:=200) only[go_sem,X1,X2,X3,ay,w1];refine cw (X:={x:Nat×Array aK//a+1<=x.1∧x.1<=N+1∧x.2.size=N∧Go.Sort.insOuter ac a b x.1 x.2=Go.Sort.insertionSort ac d a b}) (fun x=>[(1,.x (.int .i64 (a:Int))),(2,.x (.int .i64 (b:Int))),(3,.ptr 3 0),(6,.x (.int .i64 (x.1.1:Int)))]) (fun x=>[(3,[.x (.func (.func g) #[] gl),.x (.func (.func sf) #[] gs)]),(1003,an x.1.2)]) (fun x=>b-x.1.1) ⟨(a+1,d),by omega,by omega,hd,rfl⟩ (by simp +decide only[go_sem]<;>(repeat' first|rfl|constructor)) (by simp +decide only[go_sem]<;>(repeat' first|rfl|constructor)) (fun⟨⟨i,dk⟩,hi1,hi2,hdk,heq⟩=>?_);simp only at hi1 hi2 hdk heq;by_cases hi:i<b
 . have c1:decide ((i:Int)<(b:Int))=true:=PD (by omega);rw[Go.Sort.insOuter,PO hi] at heq;have w2:aq .i64 ((i:Int)+1)=((i+1:Nat):Int):=by rw[aj (by unfold aS;omega)];omega
   simp +decide (maxDischargeDepth:=200) only[go_sem,X1,X2,X3,ay,c1];refine cw (X:={y:Nat×Array aK//a<=y.1∧y.1<=i∧y.2.size=N∧Go.Sort.insInner ac a y.1 y.2=Go.Sort.insInner ac a i dk}) (fun y=>[(1,.x (.int .i64 (a:Int))),(2,.x (.int .i64 (b:Int))),(3,.ptr 3 0),(6,.x (.int .i64 (i:Int))),(7,.x (.int .i64 (y.1.1:Int)))]) (fun y=>[(3,[.x (.func (.func g) #[] gl),.x (.func (.func sf) #[] gs)]),(1003,an y.1.2)]) (fun y=>y.1.1) ⟨(i,dk),by omega,by omega,hdk,rfl⟩ (by simp +decide only[go_sem]<;>(repeat' first|rfl|constructor)) (by simp +decide only[go_sem]<;>(repeat' first|rfl|constructor)) (fun⟨⟨j,dj⟩,hj1,hj2,hdj,hej⟩=>?_);simp only at hj1 hj2 hdj hej;by_cases hj:a<j
   . obtain⟨k,rfl⟩:∃k,j=k+1:=⟨j-1,by omega⟩;have q1:decide ((a:Int)<((k+1:Nat):Int))=true:=PD (by omega);have q2:aq .i64 (((k+1:Nat):Int)-1)=((k:Nat):Int):=by rw[aj (by unfold aS;omega)];omega
     have l1:=bj (N:=N) (k+1) k dj (by omega) (by omega) hdj;have s1:=bS (N:=N) (k+1) k dj (by omega) (by omega) hdj;rw[Go.Sort.insInner] at hej;cases hl:ac dj[k+1]! dj[k]! with
     |false=>rw[hl] at l1 hej;simp only[Bool.and_false,P7,Qr] at hej;simp +decide (maxDischargeDepth:=200) only[go_sem,X1,X2,X3,ay,q1,q2,w2,l1];refine⟨⟨(i+1,dj),by omega,by omega,hdj,by rw[hej];exact heq⟩,?_,?_,by simp only;omega⟩<;>simp +decide only[go_sem]<;>(repeat' first|rfl|constructor)
     |true=>rw[hl] at l1 hej;simp only[Rn,Qa,RO,hj,Qt] at hej;simp +decide (maxDischargeDepth:=200) only[go_sem,X1,X2,X3,ay,q1,q2,w2,l1,s1];refine⟨⟨(k,swp dj (k+1) k),by omega,by omega,by rw[aO];exact hdj,hej⟩,?_,?_,by simp only;omega⟩<;>simp +decide only[go_sem]<;>(repeat' first|rfl|constructor)
   . have q1:decide ((a:Int)<((j:Nat):Int))=false:=PC (by omega);rw[kT hj] at hej;simp +decide (maxDischargeDepth:=200) only[go_sem,X1,X2,X3,ay,q1,w2];refine⟨⟨(i+1,dj),by omega,by omega,hdj,by rw[hej];exact heq⟩,?_,?_,by simp only;omega⟩<;>simp +decide only[go_sem]<;>(repeat' first|rfl|constructor)
 . have c1:decide ((i:Int)<(b:Int))=false:=PC (by omega);rw[Go.Sort.insOuter,PS hi] at heq;subst heq;simp +decide (maxDischargeDepth:=200) only[go_sem,X1,X2,X3,ay,c1]
def ia (N:Nat) (x:Nat×Nat×Nat×Array aK):Option (V×List (List V)):=if x.1<=N∧x.2.2.1+x.2.1<=N∧x.2.2.2.size=N then some (.tup [],[an (Go.Sort.siftDown ac x.2.1 x.2.2.1 x.1 x.2.2.2)]) else none
def jD (N:Nat) (x:Nat×Nat×Array aK):Option (V×List (List V)):=if x.1<=x.2.1∧x.2.1<=N∧x.2.2.size=N then some (.tup [],[an (Go.Sort.heapSort ac x.2.2 x.1 x.2.1)]) else none
section
variable {hi F r:Nat} {d:Array aK}
theorem ki (h: ¬2*r+1<hi):Go.Sort.siftDown ac hi F r d=d:=by rw[Go.Sort.siftDown,dif_pos (by omega)]
theorem CW (h:2*r+2<hi) (h1:ac d[F+(2*r+1)]! d[F+(2*r+1)+1]! =true):Go.Sort.siftDown ac hi F r d=if ac d[F+r]! d[F+(2*r+2)]! =true then Go.Sort.siftDown ac hi F (2*r+2) (swp d (F+r) (F+(2*r+2))) else d:=by
 rw[Go.Sort.siftDown,dif_neg (by omega)];have e:(decide (2*r+1+1<hi)&&ac d[F+(2*r+1)]! d[F+(2*r+1)+1]!)=true:=by rw[h1,Rn];exact PD (by omega)
 rw[PO e];cases ac d[F+r]! d[F+(2*r+2)]! <;>simp[h]
theorem u6 (h0:2*r+1<hi) (h1: ¬(2*r+2<hi∧ac d[F+(2*r+1)]! d[F+(2*r+1)+1]! =true)):Go.Sort.siftDown ac hi F r d=if ac d[F+r]! d[F+(2*r+1)]! =true then Go.Sort.siftDown ac hi F (2*r+1) (swp d (F+r) (F+(2*r+1))) else d:=by
 rw[Go.Sort.siftDown,dif_neg (by omega)];have e: ¬(decide (2*r+1+1<hi)&&ac d[F+(2*r+1)]! d[F+(2*r+1)+1]!)=true:=by intro e;rw[PG,Qa] at e;exact h1 ⟨by omega,e.2⟩
 rw[PS e];cases ac d[F+r]! d[F+(2*r+1)]! <;>simp
end
theorem oh (hi F:Nat):∀(n r:Nat) (d:Array aK),hi-r<=n->(Go.Sort.siftDown ac hi F r d).size=d.size:=by
 intro n
 induction n with
 |zero=>intro r d h;rw[ki (by omega)]
 | succ n ih=>
   intro r d h;by_cases h0:2*r+1<hi
   . by_cases h1:2*r+2<hi∧ac d[F+(2*r+1)]! d[F+(2*r+1)+1]! =true
     . rw[CW h1.1 h1.2];split
       . rw[ih _ _ (by omega),aO]
       . rfl
     . rw[u6 h0 h1];split
       . rw[ih _ _ (by omega),aO]
       . rfl
   . rw[ki h0]
theorem CX (hS:SoOKS3 G bk N g sf gl gs):FunXVS3 G bk 53 [] (FE (cd g sf gl gs) (ia N)):=by
 obtain⟨X,hX,X1,X2,X3⟩:=dt hS [] trivial;have hN:=hS.N1;unfold MXS3 at hN;refine eU (k:=4) hX Try.func53 rfl (fun a w=>Try.call53 a w) Try.ntmps53 (by kernel_rfl) (by decide) (by decide) ?_;clear hX;intro us r outs hF;obtain⟨⟨lo,hi,F,d⟩,hus,hG⟩:=aZ hF;clear hF;subst hus;unfold ia at hG;obtain⟨⟨hlo,hFh,hd⟩,hG⟩:=aI hG;simp only at hlo hFh hd;cases hG;refine⟨_,rfl,rfl,?_⟩;simp only[cd];simp +decide (maxDischargeDepth:=200) only[go_sem,X1,X2,X3,ay];refine cw (X:={x:Nat×Array aK//x.1<=N∧x.2.size=N∧Go.Sort.siftDown ac hi F x.1 x.2=Go.Sort.siftDown ac hi F lo d}) (fun x=>[(1,.x (.int .i64 (lo:Int))),(2,.x (.int .i64 (hi:Int))),(3,.x (.int .i64 (F:Int))),(4,.ptr 4 0),(8,.x (.int .i64 (x.1.1:Int)))]) (fun x=>[(4,[.x (.func (.func g) #[] gl),.x (.func (.func sf) #[] gs)]),(1004,an x.1.2)]) (fun x=>hi-x.1.1) ⟨(lo,d),by omega,hd,rfl⟩ (by simp +decide only[go_sem]<;>(repeat' first|rfl|constructor)) (by simp +decide only[go_sem]<;>(repeat' first|rfl|constructor)) (fun⟨⟨r,dk⟩,hr,hdk,heq⟩=>?_);simp only at hr hdk heq;have p1:aq .i64 (2*((r:Nat):Int))=((2*r:Nat):Int):=by rw[aj (by unfold aS;omega)];omega
 have p2:aq .i64 (((2*r:Nat):Int)+1)=((2*r+1:Nat):Int):=by rw[aj (by unfold aS;omega)];omega
 by_cases h0:2*r+1<hi
 . have c1:decide (((hi:Nat):Int)<=((2*r+1:Nat):Int))=false:=PC (by omega);have p3:aq .i64 (((2*r+1:Nat):Int)+1)=((2*r+2:Nat):Int):=by rw[aj (by unfold aS;omega)];omega
   by_cases h1:2*r+2<hi
   . have c2:decide (((2*r+2:Nat):Int)<((hi:Nat):Int))=true:=PD (by omega);have p4:aq .i64 ((F:Int)+((2*r+1:Nat):Int))=((F+(2*r+1):Nat):Int):=by rw[aj (by unfold aS;omega)];omega
     have p5:aq .i64 (((F+(2*r+1):Nat):Int)+1)=((F+(2*r+1)+1:Nat):Int):=by rw[aj (by unfold aS;omega)];omega
     have l1:=bj (N:=N) (F+(2*r+1)) (F+(2*r+1)+1) dk (by omega) (by omega) hdk;cases hl:ac dk[F+(2*r+1)]! dk[F+(2*r+1)+1]! with
     | true=>
       rw[CW h1 hl] at heq;rw[hl] at l1;have p6:aq .i64 ((F:Int)+((r:Nat):Int))=((F+r:Nat):Int):=by rw[aj (by unfold aS;omega)];omega
       have p7:aq .i64 ((F:Int)+((2*r+2:Nat):Int))=((F+(2*r+2):Nat):Int):=by rw[aj (by unfold aS;omega)];omega
       have l2:=bj (N:=N) (F+r) (F+(2*r+2)) dk (by omega) (by omega) hdk;have s2:=bS (N:=N) (F+r) (F+(2*r+2)) dk (by omega) (by omega) hdk;cases hl2:ac dk[F+r]! dk[F+(2*r+2)]! with
       |false=>rw[hl2] at l2 heq;simp only[P7,Qr] at heq;subst heq;simp +decide (maxDischargeDepth:=200) only[go_sem,X1,X2,X3,ay,p1,p2,c1,p3,p4,p5,c2,l1,p6,p7,l2]
       |true=>rw[hl2] at l2 heq;simp only[Qt] at heq;simp +decide (maxDischargeDepth:=200) only[go_sem,X1,X2,X3,ay,p1,p2,c1,p3,p4,p5,c2,l1,p6,p7,l2,s2];refine⟨⟨(2*r+2,swp dk (F+r) (F+(2*r+2))),by omega,by rw[aO];exact hdk,heq⟩,?_,?_,by simp only;omega⟩<;>simp +decide only[go_sem]<;>(repeat' first|rfl|constructor)
     | false=>
       rw[u6 h0 (by rw[hl];simp)] at heq;rw[hl] at l1;have p6:aq .i64 ((F:Int)+((r:Nat):Int))=((F+r:Nat):Int):=by rw[aj (by unfold aS;omega)];omega
       have p7:aq .i64 ((F:Int)+((2*r+1:Nat):Int))=((F+(2*r+1):Nat):Int):=by rw[aj (by unfold aS;omega)];omega
       have l2:=bj (N:=N) (F+r) (F+(2*r+1)) dk (by omega) (by omega) hdk;have s2:=bS (N:=N) (F+r) (F+(2*r+1)) dk (by omega) (by omega) hdk;cases hl2:ac dk[F+r]! dk[F+(2*r+1)]! with
       |false=>rw[hl2] at l2 heq;simp only[P7,Qr] at heq;subst heq;simp +decide (maxDischargeDepth:=200) only[go_sem,X1,X2,X3,ay,p1,p2,c1,p3,p4,p5,c2,l1,p6,p7,l2]
       |true=>rw[hl2] at l2 heq;simp only[Qt] at heq;simp +decide (maxDischargeDepth:=200) only[go_sem,X1,X2,X3,ay,p1,p2,c1,p3,p4,p5,c2,l1,p6,p7,l2,s2];refine⟨⟨(2*r+1,swp dk (F+r) (F+(2*r+1))),by omega,by rw[aO];exact hdk,heq⟩,?_,?_,by simp only;omega⟩<;>simp +decide only[go_sem]<;>(repeat' first|rfl|constructor)
   . have c2:decide (((2*r+2:Nat):Int)<((hi:Nat):Int))=false:=PC (by omega);rw[u6 h0 (by omega)] at heq;have p6:aq .i64 ((F:Int)+((r:Nat):Int))=((F+r:Nat):Int):=by rw[aj (by unfold aS;omega)];omega
     have p7:aq .i64 ((F:Int)+((2*r+1:Nat):Int))=((F+(2*r+1):Nat):Int):=by rw[aj (by unfold aS;omega)];omega
     have l2:=bj (N:=N) (F+r) (F+(2*r+1)) dk (by omega) (by omega) hdk;have s2:=bS (N:=N) (F+r) (F+(2*r+1)) dk (by omega) (by omega) hdk;cases hl2:ac dk[F+r]! dk[F+(2*r+1)]! with
     |false=>rw[hl2] at l2 heq;simp only[P7,Qr] at heq;subst heq;simp +decide (maxDischargeDepth:=200) only[go_sem,X1,X2,X3,ay,p1,p2,c1,p3,c2,p6,p7,l2]
     |true=>rw[hl2] at l2 heq;simp only[Qt] at heq;simp +decide (maxDischargeDepth:=200) only[go_sem,X1,X2,X3,ay,p1,p2,c1,p3,c2,p6,p7,l2,s2];refine⟨⟨(2*r+1,swp dk (F+r) (F+(2*r+1))),by omega,by rw[aO];exact hdk,heq⟩,?_,?_,by simp only;omega⟩<;>simp +decide only[go_sem]<;>(repeat' first|rfl|constructor)
 . have c1:decide (((hi:Nat):Int)<=((2*r+1:Nat):Int))=true:=PD (by omega);rw[ki h0] at heq;subst heq;simp +decide (maxDischargeDepth:=200) only[go_sem,X1,X2,X3,ay,p1,p2,c1]
theorem oi (lo hi F:Nat) (d:Array aK) (h1:lo<=N) (h2:F+hi<=N) (h3:d.size=N):FE (cd g sf gl gs) (ia N) [bL g sf gl gs,.x (.int .i64 (lo:Int)),.x (.int .i64 (hi:Int)),.x (.int .i64 (F:Int)),.bx (an d)]=some (.tup [],[an (Go.Sort.siftDown ac hi F lo d)]):=
 (bA f7 (ia N) (lo,hi,F,d)).trans (PO ⟨h1,h2,h3⟩)
theorem u7 (hi F:Nat) (d:Array aK) (h2:F+hi<=N) (h3:d.size=N):FE (cd g sf gl gs) (ia N) [bL g sf gl gs,.x (.int .i64 0),.x (.int .i64 (hi:Int)),.x (.int .i64 (F:Int)),.bx (an d)]=some (.tup [],[an (Go.Sort.siftDown ac hi F 0 d)]):=oi 0 hi F d (PH _) h2 h3
theorem CY (n:Nat) (h:n<=1000000):aq .i64 (aq .i64 ((n:Int)-1)|>.tdiv 2)=((((n-1)/2+1:Nat)):Int)-1:=by
 have e0:aq .i64 ((n:Int)-1)=(n:Int)-1:=aj (by unfold aS;omega);rw[e0];have e:((n:Int)-1).tdiv 2=((((n-1)/2+1:Nat)):Int)-1:=by
  cases n with
  |zero=>decide
  |succ n=>rw[show((n+1:Nat):Int)-1=((n:Nat):Int) from by omega,Rb (by omega)];omega
 rw[e];exact aj (by unfold aS;omega)
theorem CZ (hS:SoOKS3 G bk N g sf gl gs):FunXVS3 G bk 45 [] (FE (bw g sf gl gs) (jD N)):=by
 obtain⟨X,hX,X1,X2,X3⟩:=dt hS [(53,FE (cd g sf gl gs) (ia N))] ⟨CX hS,trivial⟩;have hN:=hS.N1;unfold MXS3 at hN;refine eU (k:=3) hX Try.func45 rfl (fun a w=>Try.call45 a w) Try.ntmps45 (by kernel_rfl) (by decide) (by decide) ?_;clear hX;intro us r outs hF;obtain⟨⟨a,b,d⟩,hus,hG⟩:=aZ hF;clear hF;subst hus;unfold jD at hG;obtain⟨⟨hab,hbN,hd⟩,hG⟩:=aI hG;simp only at hab hbN hd;cases hG;refine⟨_,rfl,rfl,?_⟩;simp only[bw];have w1:aq .i64 ((b:Int)-(a:Int))=((b-a:Nat):Int):=by rw[aj (by unfold aS;omega)];omega
 have w2:=CY (b-a) (by omega);simp +decide (maxDischargeDepth:=200) only[go_sem,X1,X2,X3,ay,w1,w2];refine cw (X:={x:Nat×Array aK//x.1<=N+1∧x.2.size=N∧Go.Sort.heapPop ac a (b-a) (Go.Sort.heapBuild ac (b-a) a x.1 x.2)=Go.Sort.heapSort ac d a b}) (fun x=>[(1,.x (.int .i64 (a:Int))),(2,.x (.int .i64 (b:Int))),(3,.ptr 3 0),(6,.x (.int .i64 (a:Int))),(7,.x (.int .i64 0)),(8,.x (.int .i64 ((b-a:Nat):Int))),(9,.x (.int .i64 ((x.1.1:Int)-1)))]) (fun x=>[(3,[.x (.func (.func g) #[] gl),.x (.func (.func sf) #[] gs)]),(1003,an x.1.2)]) (fun x=>x.1.1) ⟨((b-a-1)/2+1,d),by simp only;omega,hd,rfl⟩ (by simp +decide only[go_sem]<;>(repeat' first|rfl|constructor)) (by simp +decide only[go_sem]<;>(repeat' first|rfl|constructor)) (fun⟨⟨k,dk⟩,hk,hdk,heq⟩=>?_);simp only at hk hdk heq;cases k with
 | succ k=>
   have c1:decide ((0:Int)<=((k+1:Nat):Int)-1)=true:=PD (by omega);have e1:((k+1:Nat):Int)-1=((k:Nat):Int):=by omega
   have e2:aq .i64 ((k:Int)-1)=(k:Int)-1:=aj (by unfold aS;omega);have s1:=oi (g:=g) (sf:=sf) (gl:=gl) (gs:=gs) (N:=N) k (b-a) a dk (by omega) (by omega) hdk;rw[Go.Sort.heapBuild] at heq;rw[e1] at c1⊢;simp +decide (maxDischargeDepth:=200) only[go_sem,X1,X2,X3,ay,c1,e2,s1];refine⟨⟨(k,Go.Sort.siftDown ac (b-a) a k dk),by simp only;omega,by rw[oh _ _ _ _ _ (PB _)];exact hdk,heq⟩,?_,?_,by simp only;omega⟩<;>simp +decide only[go_sem]<;>(repeat' first|rfl|constructor)
 | zero=>
   have c1:decide ((0:Int)<=((0:Nat):Int)-1)=false:=PC (by omega);rw[Go.Sort.heapBuild] at heq;have e2:aq .i64 (((b-a:Nat):Int)-1)=((b-a:Nat):Int)-1:=aj (by unfold aS;omega);simp +decide (maxDischargeDepth:=200) only[go_sem,X1,X2,X3,ay,c1,e2];refine cw (X:={x:Nat×Array aK//x.1<=b-a∧x.2.size=N∧Go.Sort.heapPop ac a x.1 x.2=Go.Sort.heapSort ac d a b}) (fun x=>[(1,.x (.int .i64 (a:Int))),(2,.x (.int .i64 (b:Int))),(3,.ptr 3 0),(6,.x (.int .i64 (a:Int))),(7,.x (.int .i64 0)),(8,.x (.int .i64 ((b-a:Nat):Int))),(10,.x (.int .i64 ((x.1.1:Int)-1)))]) (fun x=>[(3,[.x (.func (.func g) #[] gl),.x (.func (.func sf) #[] gs)]),(1003,an x.1.2)]) (fun x=>x.1.1) ⟨(b-a,dk),by simp only;omega,hdk,heq⟩ (by simp +decide only[go_sem]<;>(repeat' first|rfl|constructor)) (by simp +decide only[go_sem]<;>(repeat' first|rfl|constructor)) (fun⟨⟨k,dk⟩,hk,hdk,heq⟩=>?_);simp only at hk hdk heq;clear c1;cases k with
   | succ k=>
     have c1:decide ((0:Int)<=((k+1:Nat):Int)-1)=true:=PD (by omega);have e1:((k+1:Nat):Int)-1=((k:Nat):Int):=by omega
     have e3:aq .i64 ((k:Int)-1)=(k:Int)-1:=aj (by unfold aS;omega);have e4:aq .i64 ((a:Int)+(k:Int))=((a+k:Nat):Int):=by rw[aj (by unfold aS;omega)];omega
     have t1:=bS (N:=N) a (a+k) dk (by omega) (by omega) hdk;have s1:=u7 (g:=g) (sf:=sf) (gl:=gl) (gs:=gs) (N:=N) k a (swp dk a (a+k)) (by omega) (by rw[aO];exact hdk);rw[Go.Sort.heapPop] at heq;rw[e1] at c1⊢;simp +decide (maxDischargeDepth:=200) only[go_sem,X1,X2,X3,ay,c1,e3,e4,t1,s1];refine⟨⟨(k,Go.Sort.siftDown ac k a 0 (swp dk a (a+k))),by simp only;omega,by rw[oh _ _ _ _ _ (PB _),aO];exact hdk,heq⟩,?_,?_,by simp only;omega⟩<;>simp +decide only[go_sem]<;>(repeat' first|rfl|constructor)
   |zero=>have c1:decide ((0:Int)<=((0:Nat):Int)-1)=false:=PC (by omega);rw[Go.Sort.heapPop] at heq;subst heq;simp +decide (maxDischargeDepth:=200) only[go_sem,X1,X2,X3,ay,c1]
section
variable {p:aK->Bool} {d:Array aK}
theorem ib {i j:Nat} (h:i<=j) (hp:p d[i]! =true):Go.Sort.scanUp p d j i=Go.Sort.scanUp p d j (i+1):=by rw[Go.Sort.scanUp,PO (by rw[hp,Rn];exact PD h)]
theorem da {i j:Nat} (h: ¬(i<=j∧p d[i]! =true)):Go.Sort.scanUp p d j i=i:=by rw[Go.Sort.scanUp,PS (by rw[PG,Qa];exact h)]
theorem la {j:Nat}:∀(n i:Nat),j+1-i<=n->i<=Go.Sort.scanUp p d j i∧(Go.Sort.scanUp p d j i<=j+1∨Go.Sort.scanUp p d j i=i):=by
 intro n
 induction n with
 |zero=>intro i h;rw[da (by omega)];omega
 | succ n ih=>
   intro i h;by_cases h0:i<=j∧p d[i]! =true
   . rw[ib h0.1 h0.2];have:=ih (i+1) (by omega);omega
   . rw[da h0];omega
theorem ic {i j:Nat} (h:i<=j+1) (hp:p d[j+1]! =true):Go.Sort.scanDown p d i (j+1)=Go.Sort.scanDown p d i j:=by rw[Go.Sort.scanDown,PO (by rw[hp,Rn];exact PD h)]
theorem db {i j:Nat} (h: ¬(i<=j∧p d[j]! =true)):Go.Sort.scanDown p d i j=j:=by
 cases j with
 |zero=>rfl
 |succ j=>rw[Go.Sort.scanDown,PS (by rw[PG,Qa];exact h)]
theorem lc {i:Nat} (hi:1<=i):∀j:Nat,Go.Sort.scanDown p d i j<=j∧(i<=Go.Sort.scanDown p d i j+1∨Go.Sort.scanDown p d i j=j):=by
 intro j
 induction j with
 |zero=>rw[db (by omega)];omega
 | succ j ih=>
   by_cases h0:i<=j+1∧p d[j+1]! =true
   . rw[ic h0.1 h0.2];omega
   . rw[db h0];omega
end
variable {I:Nat}
theorem kj {i j J:Nat} (hI:Go.Sort.scanUp (fun x=>ac x d[a]!) d j i=I) (hJ:Go.Sort.scanDown (fun x=> !ac x d[a]!) d I j=J) (h:J<I):Go.Sort.partLoop ac a i j d=(J,d):=by rw[Go.Sort.partLoop];simp only[hI,hJ,RO,h,Qt]
theorem oj {i j J:Nat} (hI:Go.Sort.scanUp (fun x=>ac x d[a]!) d j i=I) (hJ:Go.Sort.scanDown (fun x=> !ac x d[a]!) d I j=J) (h: ¬J<I) (h2:J-1+1-(I+1)<j+1-i):Go.Sort.partLoop ac a i j d=Go.Sort.partLoop ac a (I+1) (J-1) (swp d I J):=by rw[Go.Sort.partLoop];simp only[hI,hJ,RO,h,Qr,h2,dif_pos]
theorem FI:∀(n i j:Nat) (d:Array aK),j+1-i<=n->1<=i->i<=j+2->(Go.Sort.partLoop ac a i j d).1<=j∧(Go.Sort.partLoop ac a i j d).2.size=d.size:=by
 intro n
 induction n with
 |zero=>intro i j d h h1 h3;have hI:=da (p:=fun x=>ac x d[a]!) (d:=d) (i:=i) (j:=j) (by omega);have hJ:=db (p:=fun x=> !ac x d[a]!) (d:=d) (i:=i) (j:=j) (by omega);rw[kj hI hJ (by omega)];exact⟨by simp only;omega,rfl⟩
 | succ n ih=>
   intro i j d h h1 h3;obtain⟨I,hI⟩:∃I,Go.Sort.scanUp (fun x=>ac x d[a]!) d j i=I:=⟨_,rfl⟩;obtain⟨J,hJ⟩:∃J,Go.Sort.scanDown (fun x=> !ac x d[a]!) d I j=J:=⟨_,rfl⟩;have b1:=la (p:=fun x=>ac x d[a]!) (d:=d) (j:=j) _ i (PB _);rw[hI] at b1;have b2:=lc (p:=fun x=> !ac x d[a]!) (d:=d) (i:=I) (by omega) j;rw[hJ] at b2;by_cases hc:J<I
   . rw[kj hI hJ hc];exact⟨by simp only;omega,rfl⟩
   . rw[oj hI hJ hc (by omega)];have:=ih (I+1) (J-1) (swp d I J) (by omega) (by omega) (by omega);rw[aO] at this;exact⟨by omega,this.2⟩
theorem y6 {i j J:Nat} (hI:Go.Sort.scanUp (fun x=> !ac d[a]! x) d j i=I) (hJ:Go.Sort.scanDown (fun x=>ac d[a]! x) d I j=J) (h:J<I):Go.Sort.partEqLoop ac a i j d=(I,d):=by rw[Go.Sort.partEqLoop];simp only[hI,hJ,RO,h,Qt]
theorem y7 {i j J:Nat} (hI:Go.Sort.scanUp (fun x=> !ac d[a]! x) d j i=I) (hJ:Go.Sort.scanDown (fun x=>ac d[a]! x) d I j=J) (h: ¬J<I) (h2:J-1+1-(I+1)<j+1-i):Go.Sort.partEqLoop ac a i j d=Go.Sort.partEqLoop ac a (I+1) (J-1) (swp d I J):=by rw[Go.Sort.partEqLoop];simp only[hI,hJ,RO,h,Qr,h2,dif_pos]
def jE (N:Nat) (x:Nat×Nat×Nat×Array aK):Option (V×List (List V)):=if x.1<=x.2.2.1∧x.2.2.1<x.2.1∧x.2.1<=N∧x.2.2.2.size=N then some (.tup [.x (.int .i64 ((Go.Sort.partition ac x.2.2.2 x.1 x.2.1 x.2.2.1).1:Int)),.x (.bool (Go.Sort.partition ac x.2.2.2 x.1 x.2.1 x.2.2.1).2.1)],[an (Go.Sort.partition ac x.2.2.2 x.1 x.2.1 x.2.2.1).2.2]) else none
def gQ (N:Nat) (x:Nat×Nat×Nat×Array aK):Option (V×List (List V)):=if x.1<=x.2.2.1∧x.2.2.1<x.2.1∧x.2.1<=N∧x.2.2.2.size=N then some (.x (.int .i64 ((Go.Sort.partitionEqual ac x.2.2.2 x.1 x.2.1 x.2.2.1).1:Int)),[an (Go.Sort.partitionEqual ac x.2.2.2 x.1 x.2.1 x.2.2.1).2]) else none
variable {b pv:Nat} {d1:Array aK}
theorem rZ {J:Nat} (h1:swp d a pv=d1) (hI:Go.Sort.scanUp (fun x=>ac x d1[a]!) d1 (b-1) (a+1)=I) (hJ:Go.Sort.scanDown (fun x=> !ac x d1[a]!) d1 I (b-1)=J) (h:J<I):Go.Sort.partition ac d a b pv=(J,true,swp d1 J a):=by unfold Go.Sort.partition;simp only[h1,hI,hJ,RO,h,Qt]
theorem y8 {J:Nat} (h1:swp d a pv=d1) (hI:Go.Sort.scanUp (fun x=>ac x d1[a]!) d1 (b-1) (a+1)=I) (hJ:Go.Sort.scanDown (fun x=> !ac x d1[a]!) d1 I (b-1)=J) (h: ¬J<I):Go.Sort.partition ac d a b pv=((Go.Sort.partLoop ac a (I+1) (J-1) (swp d1 I J)).1,false,swp (Go.Sort.partLoop ac a (I+1) (J-1) (swp d1 I J)).2 (Go.Sort.partLoop ac a (I+1) (J-1) (swp d1 I J)).1 a):=by unfold Go.Sort.partition;simp only[h1,hI,hJ,RO,h,Qr]
theorem C0 (hS:SoOKS3 G bk N g sf gl gs):FunXVS3 G bk 51 [] (FE (cd g sf gl gs) (jE N)):=by
 obtain⟨X,hX,X1,X2,X3⟩:=dt hS [] trivial;have hN:=hS.N1;unfold MXS3 at hN;refine bz (k:=4) hX Try.func51 rfl (fun a w=>Try.call51 a w) Try.ntmps51 (by decide) (by decide) ?_;clear hX;intro us r outs hF;obtain⟨⟨a,b,pv,d⟩,hus,hG⟩:=aZ hF;clear hF;subst hus;unfold jE at hG;obtain⟨⟨hap,hpb,hbN,hd⟩,hG⟩:=aI hG;simp only at hap hpb hbN hd;cases hG;refine⟨_,rfl,rfl,fun pm m0 w0 hE=>?_⟩;simp only[cd];have s0:=bS (N:=N) a pv d (by omega) (by omega) hd;obtain⟨d1,hd1⟩:∃d1,swp d a pv=d1:=⟨_,rfl⟩;have hz1:d1.size=N:=by rw[<-hd1,aO];exact hd
 rw[hd1] at s0;have w1:aq .i64 ((a:Int)+1)=((a+1:Nat):Int):=by rw[aj (by unfold aS;omega)];omega
 have w2:aq .i64 ((b:Int)-1)=((b-1:Nat):Int):=by rw[aj (by unfold aS;omega)];omega
 refine Sem.seq [(1,.x (.int .i64 (a:Int))),(2,.x (.int .i64 (b:Int))),(3,.x (.int .i64 (pv:Int))),(4,.ptr 4 0)] [(4,[.x (.func (.func g) #[] gl),.x (.func (.func sf) #[] gs)]),(1004,an d)] (Sem.run hE ah (by kernel_rfl) (by simp +decide (maxDischargeDepth:=200) only[go_sem,X1,X2,X3,ay])) ?_;refine Sem.seq [(1,.x (.int .i64 (a:Int))),(2,.x (.int .i64 (b:Int))),(3,.x (.int .i64 (pv:Int))),(4,.ptr 4 0)] [(4,[.x (.func (.func g) #[] gl),.x (.func (.func sf) #[] gs)]),(1004,an d1)] (Sem.run hE ah (by kernel_rfl) (by simp +decide (maxDischargeDepth:=200) only[go_sem,X1,X2,X3,ay,s0])) ?_;refine Sem.seq [(1,.x (.int .i64 (a:Int))),(4,.ptr 4 0),(10,.x (.int .i64 ((a+1:Nat):Int))),(11,.x (.int .i64 ((b-1:Nat):Int)))] [(4,[.x (.func (.func g) #[] gl),.x (.func (.func sf) #[] gs)]),(1004,an d1)] (Sem.run hE ah (by kernel_rfl) (by simp +decide (maxDischargeDepth:=200) only[go_sem,X1,X2,X3,ay,w1,w2])) ?_;obtain⟨IF,hIF⟩:∃I,Go.Sort.scanUp (fun x=>ac x d1[a]!) d1 (b-1) (a+1)=I:=⟨_,rfl⟩;obtain⟨JF,hJF⟩:∃J,Go.Sort.scanDown (fun x=> !ac x d1[a]!) d1 IF (b-1)=J:=⟨_,rfl⟩;have buF:=la (p:=fun x=>ac x d1[a]!) (d:=d1) (j:=b-1) _ (a+1) (PB _);rw[hIF] at buF;have bdF:=lc (p:=fun x=> !ac x d1[a]!) (d:=d1) (i:=IF) (by omega) (b-1);rw[hJF] at bdF;refine Sem.seq [(1,.x (.int .i64 (a:Int))),(4,.ptr 4 0),(10,.x (.int .i64 ((IF:Nat):Int))),(11,.x (.int .i64 ((b-1:Nat):Int)))] [(4,[.x (.func (.func g) #[] gl),.x (.func (.func sf) #[] gs)]),(1004,an d1)] (Sem.block (Sem.loop (X:={i:Nat//a+1<=i∧(i<=b-1+1∨i=a+1)∧Go.Sort.scanUp (fun x=>ac x d1[a]!) d1 (b-1) i=IF}) (fun x=>[(1,.x (.int .i64 (a:Int))),(4,.ptr 4 0),(10,.x (.int .i64 ((x.1:Nat):Int))),(11,.x (.int .i64 ((b-1:Nat):Int)))]) (fun _=>[(4,[.x (.func (.func g) #[] gl),.x (.func (.func sf) #[] gs)]),(1004,an d1)]) (fun x=>b-1+1-x.1) ⟨a+1,by omega,by omega,hIF⟩ (by simp +decide only[go_sem]<;>(repeat' first|rfl|constructor)) (by simp +decide only[go_sem]<;>(repeat' first|rfl|constructor)) (fun⟨i,hi1,hi2,hi3⟩=>Sem.run hE ah (by kernel_rfl) ?_))) ?_
 . simp only;by_cases hc:i<=b-1
   . have c1:decide (((i:Nat):Int)<=((b-1:Nat):Int))=true:=PD (by omega);have c2:aq .i64 (((i:Nat):Int)+1)=((i+1:Nat):Int):=by rw[aj (by unfold aS;omega)];omega
     have l1:=bj (N:=N) i a d1 (by omega) (by omega) hz1;cases hl:ac d1[i]! d1[a]! with
     |true=>rw[ib hc (by simp[hl])] at hi3;rw[hl] at l1;simp +decide (maxDischargeDepth:=200) only[go_sem,X1,X2,X3,ay,c1,c2,l1];refine⟨⟨i+1,by omega,by omega,hi3⟩,?_,?_,by simp only;omega⟩<;>simp +decide only[go_sem]<;>(repeat' first|rfl|constructor)
     |false=>rw[da (by simp[hl])] at hi3;rw[hl] at l1;rw[<-hi3];simp +decide (maxDischargeDepth:=200) only[go_sem,X1,X2,X3,ay,c1,c2,l1]
   . have c1:decide (((i:Nat):Int)<=((b-1:Nat):Int))=false:=PC (by omega);rw[da (fun h=>hc h.1)] at hi3;rw[<-hi3];simp +decide (maxDischargeDepth:=200) only[go_sem,X1,X2,X3,ay,c1]
 refine Sem.seq [(1,.x (.int .i64 (a:Int))),(4,.ptr 4 0),(10,.x (.int .i64 ((IF:Nat):Int))),(11,.x (.int .i64 ((JF:Nat):Int)))] [(4,[.x (.func (.func g) #[] gl),.x (.func (.func sf) #[] gs)]),(1004,an d1)] (Sem.block (Sem.loop (X:={j:Nat//j<=b-1∧(IF<=j+1∨j=b-1)∧Go.Sort.scanDown (fun x=> !ac x d1[a]!) d1 IF j=JF}) (fun x=>[(1,.x (.int .i64 (a:Int))),(4,.ptr 4 0),(10,.x (.int .i64 ((IF:Nat):Int))),(11,.x (.int .i64 ((x.1:Nat):Int)))]) (fun _=>[(4,[.x (.func (.func g) #[] gl),.x (.func (.func sf) #[] gs)]),(1004,an d1)]) (fun x=>x.1) ⟨b-1,by omega,by omega,hJF⟩ (by simp +decide only[go_sem]<;>(repeat' first|rfl|constructor)) (by simp +decide only[go_sem]<;>(repeat' first|rfl|constructor)) (fun⟨j,hj1,hj2,hj3⟩=>Sem.run hE ah (by kernel_rfl) ?_))) ?_
 . simp only;by_cases hc:IF<=j
   . obtain⟨k,rfl⟩:∃k,j=k+1:=⟨j-1,by omega⟩;have c1:decide (((IF:Nat):Int)<=((k+1:Nat):Int))=true:=PD (by omega);have c2:aq .i64 (((k+1:Nat):Int)-1)=((k:Nat):Int):=by rw[aj (by unfold aS;omega)];omega
     have l1:=bj (N:=N) (k+1) a d1 (by omega) (by omega) hz1;cases hl:ac d1[k+1]! d1[a]! with
     |false=>rw[ic hc (by simp[hl])] at hj3;rw[hl] at l1;simp +decide (maxDischargeDepth:=200) only[go_sem,X1,X2,X3,ay,c1,c2,l1];refine⟨⟨k,by omega,by omega,hj3⟩,?_,?_,by simp only;omega⟩<;>simp +decide only[go_sem]<;>(repeat' first|rfl|constructor)
     |true=>rw[db (by simp[hl])] at hj3;rw[hl] at l1;rw[<-hj3];simp +decide (maxDischargeDepth:=200) only[go_sem,X1,X2,X3,ay,c1,c2,l1]
   . have c1:decide (((IF:Nat):Int)<=((j:Nat):Int))=false:=PC (by omega);rw[db (fun h=>hc h.1)] at hj3;rw[<-hj3];simp +decide (maxDischargeDepth:=200) only[go_sem,X1,X2,X3,ay,c1]
 by_cases hc:JF<IF
 . rw[rZ hd1 hIF hJF hc];have c1:decide (((JF:Nat):Int)<((IF:Nat):Int))=true:=PD (by omega);have s1:=bS (N:=N) JF a d1 (by omega) (by omega) hz1;refine Sem.seq_out (Sem.run hE ah (by kernel_rfl) ?_);simp +decide (maxDischargeDepth:=200) only[go_sem,X1,X2,X3,ay,c1,s1]
 . rw [y8 hd1 hIF hJF hc];have c1:decide (((JF:Nat):Int)<((IF:Nat):Int))=false:=PC (by omega);have c2:aq .i64 (((IF:Nat):Int)+1)=((IF+1:Nat):Int):=by rw[aj (by unfold aS;omega)];omega
   have c3:aq .i64 (((JF:Nat):Int)-1)=((JF-1:Nat):Int):=by rw[aj (by unfold aS;omega)];omega
   have s1:=bS (N:=N) IF JF d1 (by omega) (by omega) hz1;obtain⟨d2,hd2⟩:∃d2,swp d1 IF JF=d2:=⟨_,rfl⟩;have hz2:d2.size=N:=by rw[<-hd2,aO];exact hz1
   rw[hd2] at s1⊢;obtain⟨PL,hPL⟩:∃PL,Go.Sort.partLoop ac a (IF+1) (JF-1) d2=PL:=⟨_,rfl⟩;have bPL:=FI (a:=a) _ (IF+1) (JF-1) d2 (PB _) (by omega) (by omega);rw[hPL] at bPL⊢;refine Sem.seq [(1,.x (.int .i64 (a:Int))),(4,.ptr 4 0),(10,.x (.int .i64 ((IF:Nat):Int))),(11,.x (.int .i64 ((JF:Nat):Int)))] [(4,[.x (.func (.func g) #[] gl),.x (.func (.func sf) #[] gs)]),(1004,an d1)] (Sem.run hE ah (by kernel_rfl) (by simp +decide (maxDischargeDepth:=200) only[go_sem,X1,X2,X3,ay,c1])) ?_;refine Sem.seq [(1,.x (.int .i64 (a:Int))),(4,.ptr 4 0),(10,.x (.int .i64 ((IF:Nat):Int))),(11,.x (.int .i64 ((JF:Nat):Int)))] [(4,[.x (.func (.func g) #[] gl),.x (.func (.func sf) #[] gs)]),(1004,an d2)] (Sem.run hE ah (by kernel_rfl) (by simp +decide (maxDischargeDepth:=200) only[go_sem,X1,X2,X3,ay,s1])) ?_;refine Sem.seq [(1,.x (.int .i64 (a:Int))),(4,.ptr 4 0),(10,.x (.int .i64 ((IF+1:Nat):Int))),(11,.x (.int .i64 ((JF:Nat):Int)))] [(4,[.x (.func (.func g) #[] gl),.x (.func (.func sf) #[] gs)]),(1004,an d2)] (Sem.run hE ah (by kernel_rfl) (by simp +decide (maxDischargeDepth:=200) only[go_sem,X1,X2,X3,ay,c2])) ?_;refine Sem.seq [(1,.x (.int .i64 (a:Int))),(4,.ptr 4 0),(10,.x (.int .i64 ((IF+1:Nat):Int))),(11,.x (.int .i64 ((JF-1:Nat):Int)))] [(4,[.x (.func (.func g) #[] gl),.x (.func (.func sf) #[] gs)]),(1004,an d2)] (Sem.run hE ah (by kernel_rfl) (by simp +decide (maxDischargeDepth:=200) only[go_sem,X1,X2,X3,ay,c3])) ?_;refine Sem.seq [(1,.x (.int .i64 (a:Int))),(4,.ptr 4 0),(11,.x (.int .i64 ((PL.1:Nat):Int)))] [(4,[.x (.func (.func g) #[] gl),.x (.func (.func sf) #[] gs)]),(1004,an PL.2)] (Sem.block (Sem.loop (X:={x:Nat×Nat×Array aK//a+1<=x.1∧x.1<=x.2.1+2∧x.2.1<b∧x.2.2.size=N∧Go.Sort.partLoop ac a x.1 x.2.1 x.2.2=PL}) (fun x=>[(1,.x (.int .i64 (a:Int))),(4,.ptr 4 0),(10,.x (.int .i64 ((x.1.1:Nat):Int))),(11,.x (.int .i64 ((x.1.2.1:Nat):Int)))]) (fun x=>[(4,[.x (.func (.func g) #[] gl),.x (.func (.func sf) #[] gs)]),(1004,an x.1.2.2)]) (fun x=>x.1.2.1+1-x.1.1) ⟨(IF+1,JF-1,d2),by simp only;omega,by simp only;omega,by simp only;omega,hz2,hPL⟩ (by simp +decide only[go_sem]<;>(repeat' first|rfl|constructor)) (by simp +decide only[go_sem]<;>(repeat' first|rfl|constructor)) (fun⟨⟨i0,j0,dk⟩,hx1,hx2,hx3,hdk,heq⟩=>?_))) ?_
   . simp only at hx1 hx2 hx3 hdk heq⊢;refine Sem.block ?_;obtain⟨IL,hIL⟩:∃I,Go.Sort.scanUp (fun x=>ac x dk[a]!) dk (j0) (i0)=I:=⟨_,rfl⟩;obtain⟨JL,hJL⟩:∃J,Go.Sort.scanDown (fun x=> !ac x dk[a]!) dk IL (j0)=J:=⟨_,rfl⟩;have buL:=la (p:=fun x=>ac x dk[a]!) (d:=dk) (j:=j0) _ (i0) (PB _);rw[hIL] at buL;have bdL:=lc (p:=fun x=> !ac x dk[a]!) (d:=dk) (i:=IL) (by omega) (j0);rw[hJL] at bdL;refine Sem.seq [(1,.x (.int .i64 (a:Int))),(4,.ptr 4 0),(10,.x (.int .i64 ((IL:Nat):Int))),(11,.x (.int .i64 ((j0:Nat):Int)))] [(4,[.x (.func (.func g) #[] gl),.x (.func (.func sf) #[] gs)]),(1004,an dk)] (Sem.block (Sem.loop (X:={i:Nat//i0<=i∧(i<=j0+1∨i=i0)∧Go.Sort.scanUp (fun x=>ac x dk[a]!) dk (j0) i=IL}) (fun x=>[(1,.x (.int .i64 (a:Int))),(4,.ptr 4 0),(10,.x (.int .i64 ((x.1:Nat):Int))),(11,.x (.int .i64 ((j0:Nat):Int)))]) (fun _=>[(4,[.x (.func (.func g) #[] gl),.x (.func (.func sf) #[] gs)]),(1004,an dk)]) (fun x=>j0+1-x.1) ⟨i0,by omega,by omega,hIL⟩ (by simp +decide only[go_sem]<;>(repeat' first|rfl|constructor)) (by simp +decide only[go_sem]<;>(repeat' first|rfl|constructor)) (fun⟨i,hi1,hi2,hi3⟩=>Sem.run hE ah (by kernel_rfl) ?_))) ?_
     . simp only;by_cases hc:i<=j0
       . have c1:decide (((i:Nat):Int)<=((j0:Nat):Int))=true:=PD (by omega);have c2:aq .i64 (((i:Nat):Int)+1)=((i+1:Nat):Int):=by rw[aj (by unfold aS;omega)];omega
         have l1:=bj (N:=N) i a dk (by omega) (by omega) hdk;cases hl:ac dk[i]! dk[a]! with
         |true=>rw[ib hc (by simp[hl])] at hi3;rw[hl] at l1;simp +decide (maxDischargeDepth:=200) only[go_sem,X1,X2,X3,ay,c1,c2,l1];refine⟨⟨i+1,by omega,by omega,hi3⟩,?_,?_,by simp only;omega⟩<;>simp +decide only[go_sem]<;>(repeat' first|rfl|constructor)
         |false=>rw[da (by simp[hl])] at hi3;rw[hl] at l1;rw[<-hi3];simp +decide (maxDischargeDepth:=200) only[go_sem,X1,X2,X3,ay,c1,c2,l1]
       . have c1:decide (((i:Nat):Int)<=((j0:Nat):Int))=false:=PC (by omega);rw[da (fun h=>hc h.1)] at hi3;rw[<-hi3];simp +decide (maxDischargeDepth:=200) only[go_sem,X1,X2,X3,ay,c1]
     refine Sem.seq [(1,.x (.int .i64 (a:Int))),(4,.ptr 4 0),(10,.x (.int .i64 ((IL:Nat):Int))),(11,.x (.int .i64 ((JL:Nat):Int)))] [(4,[.x (.func (.func g) #[] gl),.x (.func (.func sf) #[] gs)]),(1004,an dk)] (Sem.block (Sem.loop (X:={j:Nat//j<=j0∧(IL<=j+1∨j=j0)∧Go.Sort.scanDown (fun x=> !ac x dk[a]!) dk IL j=JL}) (fun x=>[(1,.x (.int .i64 (a:Int))),(4,.ptr 4 0),(10,.x (.int .i64 ((IL:Nat):Int))),(11,.x (.int .i64 ((x.1:Nat):Int)))]) (fun _=>[(4,[.x (.func (.func g) #[] gl),.x (.func (.func sf) #[] gs)]),(1004,an dk)]) (fun x=>x.1) ⟨j0,by omega,by omega,hJL⟩ (by simp +decide only[go_sem]<;>(repeat' first|rfl|constructor)) (by simp +decide only[go_sem]<;>(repeat' first|rfl|constructor)) (fun⟨j,hj1,hj2,hj3⟩=>Sem.run hE ah (by kernel_rfl) ?_))) ?_
     . simp only;by_cases hc:IL<=j
       . obtain⟨k,rfl⟩:∃k,j=k+1:=⟨j-1,by omega⟩;have c1:decide (((IL:Nat):Int)<=((k+1:Nat):Int))=true:=PD (by omega);have c2:aq .i64 (((k+1:Nat):Int)-1)=((k:Nat):Int):=by rw[aj (by unfold aS;omega)];omega
         have l1:=bj (N:=N) (k+1) a dk (by omega) (by omega) hdk;cases hl:ac dk[k+1]! dk[a]! with
         |false=>rw[ic hc (by simp[hl])] at hj3;rw[hl] at l1;simp +decide (maxDischargeDepth:=200) only[go_sem,X1,X2,X3,ay,c1,c2,l1];refine⟨⟨k,by omega,by omega,hj3⟩,?_,?_,by simp only;omega⟩<;>simp +decide only[go_sem]<;>(repeat' first|rfl|constructor)
         |true=>rw[db (by simp[hl])] at hj3;rw[hl] at l1;rw[<-hj3];simp +decide (maxDischargeDepth:=200) only[go_sem,X1,X2,X3,ay,c1,c2,l1]
       . have c1:decide (((IL:Nat):Int)<=((j:Nat):Int))=false:=PC (by omega);rw[db (fun h=>hc h.1)] at hj3;rw[<-hj3];simp +decide (maxDischargeDepth:=200) only[go_sem,X1,X2,X3,ay,c1]
     by_cases hc:JL<IL
     . rw[kj hIL hJL hc] at heq;have c1:decide (((JL:Nat):Int)<((IL:Nat):Int))=true:=PD (by omega);rw[<-heq];refine Sem.seq_out (Sem.run hE ah (by kernel_rfl) ?_);simp +decide (maxDischargeDepth:=200) only[go_sem,X1,X2,X3,ay,c1]
     . rw[oj hIL hJL hc (by omega)] at heq;have c1:decide (((JL:Nat):Int)<((IL:Nat):Int))=false:=PC (by omega);have c2:aq .i64 (((IL:Nat):Int)+1)=((IL+1:Nat):Int):=by rw[aj (by unfold aS;omega)];omega
       have c3:aq .i64 (((JL:Nat):Int)-1)=((JL-1:Nat):Int):=by rw[aj (by unfold aS;omega)];omega
       have s1:=bS (N:=N) IL JL dk (by omega) (by omega) hdk;refine Sem.run hE ah (by kernel_rfl) ?_;simp +decide (maxDischargeDepth:=200) only[go_sem,X1,X2,X3,ay,c1,c2,c3,s1];refine⟨⟨(IL+1,JL-1,swp dk IL JL),by simp only;omega,by simp only;omega,by simp only;omega,by rw[aO];exact hdk,heq⟩,?_,?_,by simp only;omega⟩<;>simp +decide only[go_sem]<;>(repeat' first|rfl|constructor)
   have s3:=bS (N:=N) PL.1 a PL.2 (by omega) (by omega) (by omega);refine Sem.run hE ah (by kernel_rfl) ?_;simp +decide (maxDischargeDepth:=200) only[go_sem,X1,X2,X3,ay,s3]
theorem y9 (hS:SoOKS3 G bk N g sf gl gs):FunXVS3 G bk 50 [] (FE (cd g sf gl gs) (gQ N)):=by
 obtain⟨X,hX,X1,X2,X3⟩:=dt hS [] trivial;have hN:=hS.N1;unfold MXS3 at hN;refine bz (k:=4) hX Try.func50 rfl (fun a w=>Try.call50 a w) Try.ntmps50 (by decide) (by decide) ?_;clear hX;intro us r outs hF;obtain⟨⟨a,b,pv,d⟩,hus,hG⟩:=aZ hF;clear hF;subst hus;unfold gQ at hG;obtain⟨⟨hap,hpb,hbN,hd⟩,hG⟩:=aI hG;simp only at hap hpb hbN hd;cases hG;refine⟨_,rfl,rfl,fun pm m0 w0 hE=>?_⟩;simp only[cd];have s0:=bS (N:=N) a pv d (by omega) (by omega) hd;obtain⟨d1,hd1⟩:∃d1,swp d a pv=d1:=⟨_,rfl⟩;have hz1:d1.size=N:=by rw[<-hd1,aO];exact hd
 rw[hd1] at s0;have w1:aq .i64 ((a:Int)+1)=((a+1:Nat):Int):=by rw[aj (by unfold aS;omega)];omega
 have w2:aq .i64 ((b:Int)-1)=((b-1:Nat):Int):=by rw[aj (by unfold aS;omega)];omega
 unfold Go.Sort.partitionEqual;rw[hd1];obtain⟨PL,hPL⟩:∃PL,Go.Sort.partEqLoop ac a (a+1) (b-1) d1=PL:=⟨_,rfl⟩;rw[hPL];refine Sem.seq [(1,.x (.int .i64 (a:Int))),(2,.x (.int .i64 (b:Int))),(3,.x (.int .i64 (pv:Int))),(4,.ptr 4 0)] [(4,[.x (.func (.func g) #[] gl),.x (.func (.func sf) #[] gs)]),(1004,an d)] (Sem.run hE ah (by kernel_rfl) (by simp +decide (maxDischargeDepth:=200) only[go_sem,X1,X2,X3,ay])) ?_;refine Sem.seq [(1,.x (.int .i64 (a:Int))),(2,.x (.int .i64 (b:Int))),(3,.x (.int .i64 (pv:Int))),(4,.ptr 4 0)] [(4,[.x (.func (.func g) #[] gl),.x (.func (.func sf) #[] gs)]),(1004,an d1)] (Sem.run hE ah (by kernel_rfl) (by simp +decide (maxDischargeDepth:=200) only[go_sem,X1,X2,X3,ay,s0])) ?_;refine Sem.seq [(1,.x (.int .i64 (a:Int))),(4,.ptr 4 0),(9,.x (.int .i64 ((a+1:Nat):Int))),(10,.x (.int .i64 ((b-1:Nat):Int)))] [(4,[.x (.func (.func g) #[] gl),.x (.func (.func sf) #[] gs)]),(1004,an d1)] (Sem.run hE ah (by kernel_rfl) (by simp +decide (maxDischargeDepth:=200) only[go_sem,X1,X2,X3,ay,w1,w2])) ?_;refine Sem.seq [(9,.x (.int .i64 ((PL.1:Nat):Int)))] [(4,[.x (.func (.func g) #[] gl),.x (.func (.func sf) #[] gs)]),(1004,an PL.2)] (Sem.block (Sem.loop (X:={x:Nat×Nat×Array aK//a+1<=x.1∧x.1<=x.2.1+2∧x.2.1<b∧x.2.2.size=N∧Go.Sort.partEqLoop ac a x.1 x.2.1 x.2.2=PL}) (fun x=>[(1,.x (.int .i64 (a:Int))),(4,.ptr 4 0),(9,.x (.int .i64 ((x.1.1:Nat):Int))),(10,.x (.int .i64 ((x.1.2.1:Nat):Int)))]) (fun x=>[(4,[.x (.func (.func g) #[] gl),.x (.func (.func sf) #[] gs)]),(1004,an x.1.2.2)]) (fun x=>x.1.2.1+1-x.1.1) ⟨(a+1,b-1,d1),by simp only;omega,by simp only;omega,by simp only;omega,hz1,hPL⟩ (by simp +decide only[go_sem]<;>(repeat' first|rfl|constructor)) (by simp +decide only[go_sem]<;>(repeat' first|rfl|constructor)) (fun⟨⟨i0,j0,dk⟩,hx1,hx2,hx3,hdk,heq⟩=>?_))) ?_
 . simp only at hx1 hx2 hx3 hdk heq⊢;refine Sem.block ?_;obtain⟨IL,hIL⟩:∃I,Go.Sort.scanUp (fun x=> !ac dk[a]! x) dk (j0) (i0)=I:=⟨_,rfl⟩;obtain⟨JL,hJL⟩:∃J,Go.Sort.scanDown (fun x=>ac dk[a]! x) dk IL (j0)=J:=⟨_,rfl⟩;have buL:=la (p:=fun x=> !ac dk[a]! x) (d:=dk) (j:=j0) _ (i0) (PB _);rw[hIL] at buL;have bdL:=lc (p:=fun x=>ac dk[a]! x) (d:=dk) (i:=IL) (by omega) (j0);rw[hJL] at bdL;refine Sem.seq [(1,.x (.int .i64 (a:Int))),(4,.ptr 4 0),(9,.x (.int .i64 ((IL:Nat):Int))),(10,.x (.int .i64 ((j0:Nat):Int)))] [(4,[.x (.func (.func g) #[] gl),.x (.func (.func sf) #[] gs)]),(1004,an dk)] (Sem.block (Sem.loop (X:={i:Nat//i0<=i∧(i<=j0+1∨i=i0)∧Go.Sort.scanUp (fun x=> !ac dk[a]! x) dk (j0) i=IL}) (fun x=>[(1,.x (.int .i64 (a:Int))),(4,.ptr 4 0),(9,.x (.int .i64 ((x.1:Nat):Int))),(10,.x (.int .i64 ((j0:Nat):Int)))]) (fun _=>[(4,[.x (.func (.func g) #[] gl),.x (.func (.func sf) #[] gs)]),(1004,an dk)]) (fun x=>j0+1-x.1) ⟨i0,by omega,by omega,hIL⟩ (by simp +decide only[go_sem]<;>(repeat' first|rfl|constructor)) (by simp +decide only[go_sem]<;>(repeat' first|rfl|constructor)) (fun⟨i,hi1,hi2,hi3⟩=>Sem.run hE ah (by kernel_rfl) ?_))) ?_
   . simp only;by_cases hc:i<=j0
     . have c1:decide (((i:Nat):Int)<=((j0:Nat):Int))=true:=PD (by omega);have c2:aq .i64 (((i:Nat):Int)+1)=((i+1:Nat):Int):=by rw[aj (by unfold aS;omega)];omega
       have l1:=bj (N:=N) a i dk (by omega) (by omega) hdk;cases hl:ac dk[a]! dk[i]! with
       |false=>rw[ib hc (by simp[hl])] at hi3;rw[hl] at l1;simp +decide (maxDischargeDepth:=200) only[go_sem,X1,X2,X3,ay,c1,c2,l1];refine⟨⟨i+1,by omega,by omega,hi3⟩,?_,?_,by simp only;omega⟩<;>simp +decide only[go_sem]<;>(repeat' first|rfl|constructor)
       |true=>rw[da (by simp[hl])] at hi3;rw[hl] at l1;rw[<-hi3];simp +decide (maxDischargeDepth:=200) only[go_sem,X1,X2,X3,ay,c1,c2,l1]
     . have c1:decide (((i:Nat):Int)<=((j0:Nat):Int))=false:=PC (by omega);rw[da (fun h=>hc h.1)] at hi3;rw[<-hi3];simp +decide (maxDischargeDepth:=200) only[go_sem,X1,X2,X3,ay,c1]
   refine Sem.seq [(1,.x (.int .i64 (a:Int))),(4,.ptr 4 0),(9,.x (.int .i64 ((IL:Nat):Int))),(10,.x (.int .i64 ((JL:Nat):Int)))] [(4,[.x (.func (.func g) #[] gl),.x (.func (.func sf) #[] gs)]),(1004,an dk)] (Sem.block (Sem.loop (X:={j:Nat//j<=j0∧(IL<=j+1∨j=j0)∧Go.Sort.scanDown (fun x=>ac dk[a]! x) dk IL j=JL}) (fun x=>[(1,.x (.int .i64 (a:Int))),(4,.ptr 4 0),(9,.x (.int .i64 ((IL:Nat):Int))),(10,.x (.int .i64 ((x.1:Nat):Int)))]) (fun _=>[(4,[.x (.func (.func g) #[] gl),.x (.func (.func sf) #[] gs)]),(1004,an dk)]) (fun x=>x.1) ⟨j0,by omega,by omega,hJL⟩ (by simp +decide only[go_sem]<;>(repeat' first|rfl|constructor)) (by simp +decide only[go_sem]<;>(repeat' first|rfl|constructor)) (fun⟨j,hj1,hj2,hj3⟩=>Sem.run hE ah (by kernel_rfl) ?_))) ?_
   . simp only;by_cases hc:IL<=j
     . obtain⟨k,rfl⟩:∃k,j=k+1:=⟨j-1,by omega⟩;have c1:decide (((IL:Nat):Int)<=((k+1:Nat):Int))=true:=PD (by omega);have c2:aq .i64 (((k+1:Nat):Int)-1)=((k:Nat):Int):=by rw[aj (by unfold aS;omega)];omega
       have l1:=bj (N:=N) a (k+1) dk (by omega) (by omega) hdk;cases hl:ac dk[a]! dk[k+1]! with
       |true=>rw[ic hc (by simp[hl])] at hj3;rw[hl] at l1;simp +decide (maxDischargeDepth:=200) only[go_sem,X1,X2,X3,ay,c1,c2,l1];refine⟨⟨k,by omega,by omega,hj3⟩,?_,?_,by simp only;omega⟩<;>simp +decide only[go_sem]<;>(repeat' first|rfl|constructor)
       |false=>rw[db (by simp[hl])] at hj3;rw[hl] at l1;rw[<-hj3];simp +decide (maxDischargeDepth:=200) only[go_sem,X1,X2,X3,ay,c1,c2,l1]
     . have c1:decide (((IL:Nat):Int)<=((j:Nat):Int))=false:=PC (by omega);rw[db (fun h=>hc h.1)] at hj3;rw[<-hj3];simp +decide (maxDischargeDepth:=200) only[go_sem,X1,X2,X3,ay,c1]
   by_cases hc:JL<IL
   . rw[y6 hIL hJL hc] at heq;have c1:decide (((JL:Nat):Int)<((IL:Nat):Int))=true:=PD (by omega);rw[<-heq];refine Sem.seq_out (Sem.run hE ah (by kernel_rfl) ?_);simp +decide (maxDischargeDepth:=200) only[go_sem,X1,X2,X3,ay,c1]
   . rw[y7 hIL hJL hc (by omega)] at heq;have c1:decide (((JL:Nat):Int)<((IL:Nat):Int))=false:=PC (by omega);have c2:aq .i64 (((IL:Nat):Int)+1)=((IL+1:Nat):Int):=by rw[aj (by unfold aS;omega)];omega
     have c3:aq .i64 (((JL:Nat):Int)-1)=((JL-1:Nat):Int):=by rw[aj (by unfold aS;omega)];omega
     have s1:=bS (N:=N) IL JL dk (by omega) (by omega) hdk;refine Sem.run hE ah (by kernel_rfl) ?_;simp +decide (maxDischargeDepth:=200) only[go_sem,X1,X2,X3,ay,c1,c2,c3,s1];refine⟨⟨(IL+1,JL-1,swp dk IL JL),by simp only;omega,by simp only;omega,by simp only;omega,by rw[aO];exact hdk,heq⟩,?_,?_,by simp only;omega⟩<;>simp +decide only[go_sem]<;>(repeat' first|rfl|constructor)
 refine Sem.run hE ah (by kernel_rfl) ?_;simp +decide (maxDischargeDepth:=200) only[go_sem,X1,X2,X3,ay]
theorem ol {i:Nat} (h:i<b) (hl:ac d[i]! d[i-1]! =false):Go.Sort.scanSorted ac d b i=Go.Sort.scanSorted ac d b (i+1):=by rw[Go.Sort.scanSorted,PO (by rw[hl];simpa using h)]
theorem ie {i:Nat} (h: ¬(i<b∧ac d[i]! d[i-1]! =false)):Go.Sort.scanSorted ac d b i=i:=by rw[Go.Sort.scanSorted,PS (by simpa using h)]
theorem FJ:∀(n i:Nat),b-i<=n->i<=b->i<=Go.Sort.scanSorted ac d b i∧Go.Sort.scanSorted ac d b i<=b:=by
 intro n
 induction n with
 |zero=>intro i h hi;rw[ie (by omega)];omega
 | succ n ih=>
   intro i h hi;by_cases h0:i<b∧ac d[i]! d[i-1]! =false
   . rw[ol h0.1 h0.2];have:=ih (i+1) (by omega) (by omega);omega
   . rw[ie h0];omega
theorem mL:∀(j:Nat) (d:Array aK),(Go.Sort.shiftDown ac j d).size=d.size
 |0,d=>rfl
 | j+1,d=>by
   rw[Go.Sort.shiftDown];split
   . rfl
   . rw[mL j,aO]
theorem u9 (b:Nat):∀(n j:Nat) (d:Array aK),b-j<=n->(Go.Sort.shiftUp ac b j d).size=d.size:=by
 intro n
 induction n with
 |zero=>intro j d h;rw[Go.Sort.shiftUp,PS (by omega)]
 | succ n ih=>
   intro j d h;rw[Go.Sort.shiftUp];split
   . split
     . rfl
     . rw[ih _ _ (by omega),aO]
   . rfl
section
variable {a b s i I:Nat} {d:Array aK}
theorem Ib (hI:Go.Sort.scanSorted ac d b i=I) (h:I=b):Go.Sort.partialIns ac a b (s+1) i d=(d,true):=by rw[Go.Sort.partialIns];simp only[hI,h,Qt]
theorem Ic (hI:Go.Sort.scanSorted ac d b i=I) (h: ¬I=b) (h2:b-a<50):Go.Sort.partialIns ac a b (s+1) i d=(d,false):=by rw[Go.Sort.partialIns];simp only[hI,h,Qr,h2,Qt]
theorem Ie (hI:Go.Sort.scanSorted ac d b i=I) (h: ¬I=b) (h2: ¬b-a<50):Go.Sort.partialIns ac a b (s+1) i d=Go.Sort.partialIns ac a b s I (if b-I≥2 then Go.Sort.shiftUp ac b (I+1) (if I-a≥2 then Go.Sort.shiftDown ac (I-1) (swp d I (I-1)) else swp d I (I-1)) else (if I-a≥2 then Go.Sort.shiftDown ac (I-1) (swp d I (I-1)) else swp d I (I-1))):=by rw[Go.Sort.partialIns];simp only[hI,h,Qr,h2]
end
def jF (N:Nat) (x:Nat×Nat×Array aK):Option (V×List (List V)):=if x.1<x.2.1∧x.2.1<=N∧x.2.2.size=N then some (.x (.bool (Go.Sort.partialInsertionSort ac x.2.2 x.1 x.2.1).2),[an (Go.Sort.partialInsertionSort ac x.2.2 x.1 x.2.1).1]) else none
def mM (N:Nat) (x:Nat×Nat×Array aK):Option (V×List (List V)):=if x.1<x.2.1∧x.2.1<=N∧x.2.2.size=N then some (.tup [],[an (Go.Sort.reverseRange x.2.2 x.1 x.2.1)]) else none
theorem C1 (hS:SoOKS3 G bk N g sf gl gs):FunXVS3 G bk 49 [] (FE (bw g sf gl gs) (jF N)):=by
 obtain⟨X,hX,X1,X2,X3⟩:=dt hS [] trivial;have hN:=hS.N1;unfold MXS3 at hN;refine bz (k:=3) hX Try.func49 rfl (fun a w=>Try.call49 a w) Try.ntmps49 (by decide) (by decide) ?_;clear hX;intro us r outs hF;obtain⟨⟨a,b,d⟩,hus,hG⟩:=aZ hF;clear hF;subst hus;unfold jF at hG;obtain⟨⟨hab,hbN,hd⟩,hG⟩:=aI hG;simp only at hab hbN hd;cases hG;refine⟨_,rfl,rfl,fun pm m0 w0 hE=>?_⟩;simp only[bw];have w1:aq .i64 ((a:Int)+1)=((a+1:Nat):Int):=by rw[aj (by unfold aS;omega)];omega
 unfold Go.Sort.partialInsertionSort;obtain⟨PI,hPI⟩:∃PI,Go.Sort.partialIns ac a b 5 (a+1) d=PI:=⟨_,rfl⟩;rw[hPI];refine Sem.seq [(1,.x (.int .i64 (a:Int))),(2,.x (.int .i64 (b:Int))),(3,.ptr 3 0)] [(3,[.x (.func (.func g) #[] gl),.x (.func (.func sf) #[] gs)]),(1003,an d)] (Sem.run hE ah (by kernel_rfl) (by simp +decide (maxDischargeDepth:=200) only[go_sem,X1,X2,X3,ay])) ?_;refine Sem.seq [(1,.x (.int .i64 (a:Int))),(2,.x (.int .i64 (b:Int))),(3,.ptr 3 0),(7,.x (.int .i64 ((a+1:Nat):Int)))] [(3,[.x (.func (.func g) #[] gl),.x (.func (.func sf) #[] gs)]),(1003,an d)] (Sem.run hE ah (by kernel_rfl) (by simp +decide (maxDischargeDepth:=200) only[go_sem,X1,X2,X3,ay,w1])) ?_;refine Sem.seqQ (PI.2=false) [] [(3,[.x (.func (.func g) #[] gl),.x (.func (.func sf) #[] gs)]),(1003,an PI.1)] ?_ (fun hf=>?_)
 rotate_left
 . refine Sem.run hE ah (by kernel_rfl) ?_;simp +decide (maxDischargeDepth:=200) only[go_sem,X1,X2,X3,ay,hf]
 refine Sem.seq [(1,.x (.int .i64 (a:Int))),(2,.x (.int .i64 (b:Int))),(3,.ptr 3 0),(7,.x (.int .i64 ((a+1:Nat):Int))),(8,.x (.int .i64 (0)))] [(3,[.x (.func (.func g) #[] gl),.x (.func (.func sf) #[] gs)]),(1003,an d)] (Sem.run hE ah (by kernel_rfl) (by simp +decide (maxDischargeDepth:=200) only[go_sem,X1,X2,X3,ay])) ?_;refine Sem.block (Sem.loop (X:={x:Nat×Nat×Array aK//x.1<=5∧a+1<=x.2.1∧x.2.1<=b∧x.2.2.size=N∧Go.Sort.partialIns ac a b x.1 x.2.1 x.2.2=PI}) (fun x=>[(1,.x (.int .i64 (a:Int))),(2,.x (.int .i64 (b:Int))),(3,.ptr 3 0),(7,.x (.int .i64 ((x.1.2.1:Nat):Int))),(8,.x (.int .i64 (5-(x.1.1:Int))))]) (fun x=>[(3,[.x (.func (.func g) #[] gl),.x (.func (.func sf) #[] gs)]),(1003,an x.1.2.2)]) (fun x=>x.1.1) ⟨(5,a+1,d),by simp only;omega,by simp only;omega,by simp only;omega,hd,hPI⟩ (by simp +decide only[go_sem]<;>(repeat' first|rfl|constructor)) (by simp +decide only[go_sem]<;>(repeat' first|rfl|constructor)) (fun⟨⟨s,i0,d0⟩,hs,hi1,hi2,hd0,heq⟩=>?_));simp only at hs hi1 hi2 hd0 heq⊢;cases s with
 |zero=>have c0:decide (5-((0:Nat):Int)<5)=false:=PC (by omega);rw[Go.Sort.partialIns] at heq;rw[<-heq];refine Sem.seq_out (Sem.run hE ah (by kernel_rfl) ?_);simp +decide (maxDischargeDepth:=200) only[go_sem,X1,X2,X3,ay,c0]
 | succ s=>
   have c0:decide (5-((s+1:Nat):Int)<5)=true:=PD (by omega);have e0:aq .i64 (5-((s+1:Nat):Int)+1)=5-((s:Nat):Int):=by rw[aj (by unfold aS;omega)];omega
   refine Sem.seq [(1,.x (.int .i64 (a:Int))),(2,.x (.int .i64 (b:Int))),(3,.ptr 3 0),(7,.x (.int .i64 ((i0:Nat):Int))),(8,.x (.int .i64 (5-((s+1:Nat):Int))))] [(3,[.x (.func (.func g) #[] gl),.x (.func (.func sf) #[] gs)]),(1003,an d0)] (Sem.run hE ah (by kernel_rfl) (by simp +decide (maxDischargeDepth:=200) only[go_sem,X1,X2,X3,ay,c0])) ?_;obtain⟨I,hI⟩:∃I,Go.Sort.scanSorted ac d0 b i0=I:=⟨_,rfl⟩;have bI:=FJ (d:=d0) (b:=b) _ i0 (PB _) hi2;rw[hI] at bI;obtain⟨D0,hD0⟩:∃D0,swp d0 I (I-1)=D0:=⟨_,rfl⟩;obtain⟨D1,hD1⟩:∃D1,(if I-a≥2 then Go.Sort.shiftDown ac (I-1) D0 else D0)=D1:=⟨_,rfl⟩;obtain⟨D2,hD2⟩:∃D2,(if b-I≥2 then Go.Sort.shiftUp ac b (I+1) D1 else D1)=D2:=⟨_,rfl⟩;have z0:D0.size=N:=by rw[<-hD0,aO];exact hd0
   have z1:D1.size=N:=by
    rw[<-hD1];split
    . rw[mL];exact z0
    . exact z0
   have z2:D2.size=N:=by
    rw[<-hD2];split
    . rw[u9 _ _ _ _ (PB _)];exact z1
    . exact z1
   obtain⟨Q,hQ1,hQ2⟩:∃Q:Prop,(Q-> ¬I=b∧ ¬b-a<50)∧(¬I=b-> ¬b-a<50->Q):=⟨_,id,fun h1 h2=>⟨h1,h2⟩⟩;refine Sem.seqQ Q [(1,.x (.int .i64 (a:Int))),(2,.x (.int .i64 (b:Int))),(3,.ptr 3 0),(7,.x (.int .i64 ((I:Nat):Int))),(8,.x (.int .i64 (5-((s+1:Nat):Int))))] [(3,[.x (.func (.func g) #[] gl),.x (.func (.func sf) #[] gs)]),(1003,an D2)] (Sem.block ?_) (fun hQ=>?_)
   rotate_left
   . have hQ:=hQ1 hQ;rw[Ie hI hQ.1 hQ.2,hD0,hD1,hD2] at heq;refine Sem.run hE ah (by kernel_rfl) ?_;simp +decide (maxDischargeDepth:=200) only[go_sem,X1,X2,X3,ay,e0];refine⟨⟨(s,I,D2),by simp only;omega,by simp only;omega,by simp only;omega,z2,heq⟩,?_,?_,by simp only;omega⟩<;>simp +decide only[go_sem]<;>(repeat' first|rfl|constructor)
   refine Sem.seq [(1,.x (.int .i64 (a:Int))),(2,.x (.int .i64 (b:Int))),(3,.ptr 3 0),(7,.x (.int .i64 ((I:Nat):Int))),(8,.x (.int .i64 (5-((s+1:Nat):Int))))] [(3,[.x (.func (.func g) #[] gl),.x (.func (.func sf) #[] gs)]),(1003,an d0)] (Sem.block (Sem.loop (X:={i:Nat//i0<=i∧i<=b∧Go.Sort.scanSorted ac d0 b i=I}) (fun x=>[(1,.x (.int .i64 (a:Int))),(2,.x (.int .i64 (b:Int))),(3,.ptr 3 0),(7,.x (.int .i64 ((x.1:Nat):Int))),(8,.x (.int .i64 (5-((s+1:Nat):Int))))]) (fun _=>[(3,[.x (.func (.func g) #[] gl),.x (.func (.func sf) #[] gs)]),(1003,an d0)]) (fun x=>b-x.1) ⟨i0,by omega,by omega,hI⟩ (by simp +decide only[go_sem]<;>(repeat' first|rfl|constructor)) (by simp +decide only[go_sem]<;>(repeat' first|rfl|constructor)) (fun⟨i,hi1,hi2,hi3⟩=>Sem.run hE ah (by kernel_rfl) ?_))) ?_
   . simp only;by_cases hc:i<b
     . have c1:decide (((i:Nat):Int)<((b:Nat):Int))=true:=PD (by omega);have c2:aq .i64 (((i:Nat):Int)+1)=((i+1:Nat):Int):=by rw[aj (by unfold aS;omega)];omega
       have c3:aq .i64 (((i:Nat):Int)-1)=((i-1:Nat):Int):=by rw[aj (by unfold aS;omega)];omega
       have l1:=bj (N:=N) i (i-1) d0 (by omega) (by omega) hd0;cases hl:ac d0[i]! d0[i-1]! with
       |false=>rw[ol hc hl] at hi3;rw[hl] at l1;simp +decide (maxDischargeDepth:=200) only[go_sem,X1,X2,X3,ay,c1,c2,c3,l1];refine⟨⟨i+1,by omega,by omega,hi3⟩,?_,?_,by simp only;omega⟩<;>simp +decide only[go_sem]<;>(repeat' first|rfl|constructor)
       |true=>rw[ie (by rw[hl];simp)] at hi3;rw[hl] at l1;rw[<-hi3];simp +decide (maxDischargeDepth:=200) only[go_sem,X1,X2,X3,ay,c1,c2,c3,l1]
     . have c1:decide (((i:Nat):Int)<((b:Nat):Int))=false:=PC (by omega);rw[ie (fun h=>hc h.1)] at hi3;rw[<-hi3];simp +decide (maxDischargeDepth:=200) only[go_sem,X1,X2,X3,ay,c1]
   by_cases hIb:I=b
   . rw[Ib hI hIb] at heq;have c1:decide (((I:Nat):Int)=((b:Nat):Int))=true:=PD (by omega);rw[<-heq];refine Sem.seq_out (Sem.run hE ah (by kernel_rfl) ?_);simp +decide (maxDischargeDepth:=200) only[go_sem,X1,X2,X3,ay,c1]
   have c1:decide (((I:Nat):Int)=((b:Nat):Int))=false:=PC (by omega);have w2:aq .i64 ((b:Int)-(a:Int))=((b-a:Nat):Int):=by rw[aj (by unfold aS;omega)];omega
   refine Sem.seq [(1,.x (.int .i64 (a:Int))),(2,.x (.int .i64 (b:Int))),(3,.ptr 3 0),(7,.x (.int .i64 ((I:Nat):Int))),(8,.x (.int .i64 (5-((s+1:Nat):Int))))] [(3,[.x (.func (.func g) #[] gl),.x (.func (.func sf) #[] gs)]),(1003,an d0)] (Sem.run hE ah (by kernel_rfl) (by simp +decide (maxDischargeDepth:=200) only[go_sem,X1,X2,X3,ay,c1])) ?_;by_cases h50:b-a<50
   . rw[Ic hI hIb h50] at heq;have c2:decide (((b-a:Nat):Int)<50)=true:=PD (by omega);rw[<-heq];refine Sem.seq_out (Sem.run hE ah (by kernel_rfl) ?_);simp +decide (maxDischargeDepth:=200) only[go_sem,X1,X2,X3,ay,w2,c2]
   have c2:decide (((b-a:Nat):Int)<50)=false:=PC (by omega);have q:=hQ2 hIb h50;have w3:aq .i64 ((I:Int)-1)=((I-1:Nat):Int):=by rw[aj (by unfold aS;omega)];omega
   have w4:aq .i64 ((I:Int)-(a:Int))=((I-a:Nat):Int):=by rw[aj (by unfold aS;omega)];omega
   have w5:aq .i64 ((b:Int)-(I:Int))=((b-I:Nat):Int):=by rw[aj (by unfold aS;omega)];omega
   have w6:aq .i64 ((I:Int)+1)=((I+1:Nat):Int):=by rw[aj (by unfold aS;omega)];omega
   have s1:=bS (N:=N) I (I-1) d0 (by omega) (by omega) hd0;rw[hD0] at s1;refine Sem.seq [(1,.x (.int .i64 (a:Int))),(2,.x (.int .i64 (b:Int))),(3,.ptr 3 0),(7,.x (.int .i64 ((I:Nat):Int))),(8,.x (.int .i64 (5-((s+1:Nat):Int))))] [(3,[.x (.func (.func g) #[] gl),.x (.func (.func sf) #[] gs)]),(1003,an d0)] (Sem.run hE ah (by kernel_rfl) (by simp +decide (maxDischargeDepth:=200) only[go_sem,X1,X2,X3,ay,w2,c2])) ?_;refine Sem.seq [(1,.x (.int .i64 (a:Int))),(2,.x (.int .i64 (b:Int))),(3,.ptr 3 0),(7,.x (.int .i64 ((I:Nat):Int))),(8,.x (.int .i64 (5-((s+1:Nat):Int))))] [(3,[.x (.func (.func g) #[] gl),.x (.func (.func sf) #[] gs)]),(1003,an D0)] (Sem.run hE ah (by kernel_rfl) (by simp +decide (maxDischargeDepth:=200) only[go_sem,X1,X2,X3,ay,w3,s1])) ?_;refine Sem.seq [(1,.x (.int .i64 (a:Int))),(2,.x (.int .i64 (b:Int))),(3,.ptr 3 0),(7,.x (.int .i64 ((I:Nat):Int))),(8,.x (.int .i64 (5-((s+1:Nat):Int))))] [(3,[.x (.func (.func g) #[] gl),.x (.func (.func sf) #[] gs)]),(1003,an D1)] ?_ ?_
   . by_cases h2:I-a≥2
     . rw[PO h2] at hD1;have c3:decide (2<=((I-a:Nat):Int))=true:=PD (by omega);refine Sem.seq [(1,.x (.int .i64 (a:Int))),(2,.x (.int .i64 (b:Int))),(3,.ptr 3 0),(7,.x (.int .i64 ((I:Nat):Int))),(8,.x (.int .i64 (5-((s+1:Nat):Int)))),(47,.x (.bool true))] [(3,[.x (.func (.func g) #[] gl),.x (.func (.func sf) #[] gs)]),(1003,an D0)] (Sem.run hE ah (by kernel_rfl) (by simp +decide (maxDischargeDepth:=200) only[go_sem,X1,X2,X3,ay,w4,c3])) ?_;refine Sem.cond (t:=true) (by simp +decide (maxDischargeDepth:=200) only[go_sem,X1,X2,X3,ay]) (fun _=>?_) (fun h=>by cases h);refine Sem.seq [(1,.x (.int .i64 (a:Int))),(2,.x (.int .i64 (b:Int))),(3,.ptr 3 0),(7,.x (.int .i64 ((I:Nat):Int))),(8,.x (.int .i64 (5-((s+1:Nat):Int)))),(9,.x (.int .i64 ((I-1:Nat):Int)))] [(3,[.x (.func (.func g) #[] gl),.x (.func (.func sf) #[] gs)]),(1003,an D0)] (Sem.run hE ah (by kernel_rfl) (by simp +decide (maxDischargeDepth:=200) only[go_sem,X1,X2,X3,ay,w3])) ?_;refine Sem.block (Sem.loop (X:={x:Nat×Array aK//x.1<=I-1∧x.2.size=N∧Go.Sort.shiftDown ac x.1 x.2=D1}) (fun x=>[(1,.x (.int .i64 (a:Int))),(2,.x (.int .i64 (b:Int))),(3,.ptr 3 0),(7,.x (.int .i64 ((I:Nat):Int))),(8,.x (.int .i64 (5-((s+1:Nat):Int)))),(9,.x (.int .i64 ((x.1.1:Nat):Int)))]) (fun x=>[(3,[.x (.func (.func g) #[] gl),.x (.func (.func sf) #[] gs)]),(1003,an x.1.2)]) (fun x=>x.1.1) ⟨(I-1,D0),by simp only;omega,z0,hD1⟩ (by simp +decide only[go_sem]<;>(repeat' first|rfl|constructor)) (by simp +decide only[go_sem]<;>(repeat' first|rfl|constructor)) (fun⟨⟨j,dj⟩,hj1,hj2,hj3⟩=>Sem.run hE ah (by kernel_rfl) ?_));simp only at hj1 hj2 hj3⊢;cases j with
       |zero=>have c4:decide (1<=((0:Nat):Int))=false:=PC (by omega);rw[Go.Sort.shiftDown] at hj3;rw[<-hj3];simp +decide (maxDischargeDepth:=200) only[go_sem,X1,X2,X3,ay,c4]
       | succ j=>
         have c4:decide (1<=((j+1:Nat):Int))=true:=PD (by omega);have c5:aq .i64 (((j+1:Nat):Int)-1)=((j:Nat):Int):=by rw[aj (by unfold aS;omega)];omega
         have l1:=bj (N:=N) (j+1) j dj (by omega) (by omega) hj2;have s2:=bS (N:=N) (j+1) j dj (by omega) (by omega) hj2;rw[Go.Sort.shiftDown] at hj3;cases hl:ac dj[j+1]! dj[j]! with
         |false=>rw[hl] at l1 hj3;simp only[RJ,Qt] at hj3;rw[<-hj3];simp +decide (maxDischargeDepth:=200) only[go_sem,X1,X2,X3,ay,c4,c5,l1]
         |true=>rw[hl] at l1 hj3;simp only[Rg,P7,Qr] at hj3;simp +decide (maxDischargeDepth:=200) only[go_sem,X1,X2,X3,ay,c4,c5,l1,s2];refine⟨⟨(j,swp dj (j+1) j),by simp only;omega,by rw[aO];exact hj2,hj3⟩,?_,?_,by simp only;omega⟩<;>simp +decide only[go_sem]<;>(repeat' first|rfl|constructor)
     . rw[PS h2] at hD1;have c3:decide (2<=((I-a:Nat):Int))=false:=PC (by omega);rw[<-hD1];refine Sem.run hE ah (by kernel_rfl) ?_;simp +decide (maxDischargeDepth:=200) only[go_sem,X1,X2,X3,ay,w4,c3]
   by_cases h2:b-I≥2
   . rw[PO h2] at hD2;have c3:decide (2<=((b-I:Nat):Int))=true:=PD (by omega);refine Sem.seq [(1,.x (.int .i64 (a:Int))),(2,.x (.int .i64 (b:Int))),(3,.ptr 3 0),(7,.x (.int .i64 ((I:Nat):Int))),(8,.x (.int .i64 (5-((s+1:Nat):Int)))),(70,.x (.bool true))] [(3,[.x (.func (.func g) #[] gl),.x (.func (.func sf) #[] gs)]),(1003,an D1)] (Sem.run hE ah (by kernel_rfl) (by simp +decide (maxDischargeDepth:=200) only[go_sem,X1,X2,X3,ay,w5,c3])) ?_;refine Sem.cond (t:=true) (by simp +decide (maxDischargeDepth:=200) only[go_sem,X1,X2,X3,ay]) (fun _=>?_) (fun h=>by cases h);refine Sem.seq [(1,.x (.int .i64 (a:Int))),(2,.x (.int .i64 (b:Int))),(3,.ptr 3 0),(7,.x (.int .i64 ((I:Nat):Int))),(8,.x (.int .i64 (5-((s+1:Nat):Int)))),(10,.x (.int .i64 ((I+1:Nat):Int)))] [(3,[.x (.func (.func g) #[] gl),.x (.func (.func sf) #[] gs)]),(1003,an D1)] (Sem.run hE ah (by kernel_rfl) (by simp +decide (maxDischargeDepth:=200) only[go_sem,X1,X2,X3,ay,w6])) ?_;refine Sem.block (Sem.loop (X:={x:Nat×Array aK//I+1<=x.1∧x.1<=b∧x.2.size=N∧Go.Sort.shiftUp ac b x.1 x.2=D2}) (fun x=>[(1,.x (.int .i64 (a:Int))),(2,.x (.int .i64 (b:Int))),(3,.ptr 3 0),(7,.x (.int .i64 ((I:Nat):Int))),(8,.x (.int .i64 (5-((s+1:Nat):Int)))),(10,.x (.int .i64 ((x.1.1:Nat):Int)))]) (fun x=>[(3,[.x (.func (.func g) #[] gl),.x (.func (.func sf) #[] gs)]),(1003,an x.1.2)]) (fun x=>b-x.1.1) ⟨(I+1,D1),by simp only;omega,by simp only;omega,z1,hD2⟩ (by simp +decide only[go_sem]<;>(repeat' first|rfl|constructor)) (by simp +decide only[go_sem]<;>(repeat' first|rfl|constructor)) (fun⟨⟨j,dj⟩,hj0,hj1,hj2,hj3⟩=>Sem.run hE ah (by kernel_rfl) ?_));simp only at hj0 hj1 hj2 hj3⊢;rw[Go.Sort.shiftUp] at hj3;by_cases hjb:j<b
     . have c4:decide (((j:Nat):Int)<((b:Nat):Int))=true:=PD (by omega);have c5:aq .i64 (((j:Nat):Int)-1)=((j-1:Nat):Int):=by rw[aj (by unfold aS;omega)];omega
       have c6:aq .i64 (((j:Nat):Int)+1)=((j+1:Nat):Int):=by rw[aj (by unfold aS;omega)];omega
       have l1:=bj (N:=N) j (j-1) dj (by omega) (by omega) hj2;have s2:=bS (N:=N) j (j-1) dj (by omega) (by omega) hj2;rw[PO hjb] at hj3;cases hl:ac dj[j]! dj[j-1]! with
       |false=>rw[hl] at l1 hj3;simp only[RJ,Qt] at hj3;rw[<-hj3];simp +decide (maxDischargeDepth:=200) only[go_sem,X1,X2,X3,ay,c4,c5,l1,q]
       |true=>rw[hl] at l1 hj3;simp only[Rg,P7,Qr] at hj3;simp +decide (maxDischargeDepth:=200) only[go_sem,X1,X2,X3,ay,c4,c5,c6,l1,s2];refine⟨⟨(j+1,swp dj j (j-1)),by simp only;omega,by simp only;omega,by rw[aO];exact hj2,hj3⟩,?_,?_,by simp only;omega⟩<;>simp +decide only[go_sem]<;>(repeat' first|rfl|constructor)
     . have c4:decide (((j:Nat):Int)<((b:Nat):Int))=false:=PC (by omega);rw[PS hjb] at hj3;rw[<-hj3];simp +decide (maxDischargeDepth:=200) only[go_sem,X1,X2,X3,ay,c4,q]
   . rw[PS h2] at hD2;have c3:decide (2<=((b-I:Nat):Int))=false:=PC (by omega);rw[<-hD2];refine Sem.run hE ah (by kernel_rfl) ?_;simp +decide (maxDischargeDepth:=200) only[go_sem,X1,X2,X3,ay,w5,c3,q]
theorem FK (hS:SoOKS3 G bk N g sf gl gs):FunXVS3 G bk 48 [] (FE (bw g sf gl gs) (mM N)):=by
 obtain⟨X,hX,X1,X2,X3⟩:=dt hS [] trivial;have hN:=hS.N1;unfold MXS3 at hN;refine bz (k:=3) hX Try.func48 rfl (fun a w=>Try.call48 a w) Try.ntmps48 (by decide) (by decide) ?_;clear hX;intro us r outs hF;obtain⟨⟨a,b,d⟩,hus,hG⟩:=aZ hF;clear hF;subst hus;unfold mM at hG;obtain⟨⟨hab,hbN,hd⟩,hG⟩:=aI hG;simp only at hab hbN hd;cases hG;refine⟨_,rfl,rfl,fun pm m0 w0 hE=>?_⟩;simp only[bw];have w1:aq .i64 ((b:Int)-1)=((b-1:Nat):Int):=by rw[aj (by unfold aS;omega)];omega
 refine Sem.run hE ah (by kernel_rfl) ?_;simp +decide (maxDischargeDepth:=200) only[go_sem,X1,X2,X3,ay,w1];refine cw (X:={x:Nat×Nat×Array aK//x.1<=N∧x.2.1<N∧x.2.2.size=N∧Go.Sort.reverseLoop x.1 x.2.1 x.2.2=Go.Sort.reverseRange d a b}) (fun x=>[(3,.ptr 3 0),(6,.x (.int .i64 ((x.1.1:Nat):Int))),(7,.x (.int .i64 ((x.1.2.1:Nat):Int)))]) (fun x=>[(3,[.x (.func (.func g) #[] gl),.x (.func (.func sf) #[] gs)]),(1003,an x.1.2.2)]) (fun x=>x.1.2.1-x.1.1) ⟨(a,b-1,d),by simp only;omega,by simp only;omega,hd,rfl⟩ (by simp +decide only[go_sem]<;>(repeat' first|rfl|constructor)) (by simp +decide only[go_sem]<;>(repeat' first|rfl|constructor)) (fun⟨⟨i,j,dk⟩,hi,hj,hdk,heq⟩=>?_);simp only at hi hj hdk heq;by_cases hc:i<j
 . have c1:decide (((i:Nat):Int)<((j:Nat):Int))=true:=PD (by omega);have c2:aq .i64 (((i:Nat):Int)+1)=((i+1:Nat):Int):=by rw[aj (by unfold aS;omega)];omega
   have c3:aq .i64 (((j:Nat):Int)-1)=((j-1:Nat):Int):=by rw[aj (by unfold aS;omega)];omega
   have s1:=bS (N:=N) i j dk (by omega) (by omega) hdk;rw[Go.Sort.reverseLoop,PO hc] at heq;simp +decide (maxDischargeDepth:=200) only[go_sem,X1,X2,X3,ay,c1,c2,c3,s1];refine⟨⟨(i+1,j-1,swp dk i j),by simp only;omega,by simp only;omega,by rw[aO];exact hdk,heq⟩,?_,?_,by simp only;omega⟩<;>simp +decide only[go_sem]<;>(repeat' first|rfl|constructor)
 . have c1:decide (((i:Nat):Int)<((j:Nat):Int))=false:=PC (by omega);rw[Go.Sort.reverseLoop,PS hc] at heq;subst heq;simp +decide (maxDischargeDepth:=200) only[go_sem,X1,X2,X3,ay,c1]
theorem jG (d:Array aK) (a b s M:Nat) (ha:a<M) (hb:b<M):(Go.Sort.order2 ac d a b s).1<M∧(Go.Sort.order2 ac d a b s).2.1<M∧(Go.Sort.order2 ac d a b s).2.2<=s+1:=by unfold Go.Sort.order2;split<;>exact⟨by assumption,by assumption,by simp only;omega⟩
theorem pk (d:Array aK) (a b c s M:Nat) (ha:a<M) (hb:b<M) (hc:c<M):(Go.Sort.median ac d a b c s).1<M∧(Go.Sort.median ac d a b c s).2<=s+3:=by unfold Go.Sort.median;simp only;have h1:=jG d a b s M ha hb;have h2:=jG d _ c (Go.Sort.order2 ac d a b s).2.2 M h1.2.1 hc;have h3:=jG d _ _ (Go.Sort.order2 ac d (Go.Sort.order2 ac d a b s).2.1 c (Go.Sort.order2 ac d a b s).2.2).2.2 M h1.1 h2.1;exact⟨h3.2.1,by omega⟩
def sa (N:Nat) (x:Nat×Nat×Nat×Array aK):Option (V×List (List V)):=if x.1<N∧x.2.1<N∧x.2.2.1<=1000∧x.2.2.2.size=N then some (.tup [.x (.int .i64 ((Go.Sort.order2 ac x.2.2.2 x.1 x.2.1 x.2.2.1).1:Int)),.x (.int .i64 ((Go.Sort.order2 ac x.2.2.2 x.1 x.2.1 x.2.2.1).2.1:Int))],[[.x (.int .i64 ((Go.Sort.order2 ac x.2.2.2 x.1 x.2.1 x.2.2.1).2.2:Int))],an x.2.2.2]) else none
def km (N:Nat) (x:Nat×Nat×Nat×Nat×Array aK):Option (V×List (List V)):=if x.1<N∧x.2.1<N∧x.2.2.1<N∧x.2.2.2.1<=900∧x.2.2.2.2.size=N then some (.x (.int .i64 ((Go.Sort.median ac x.2.2.2.2 x.1 x.2.1 x.2.2.1 x.2.2.2.1).1:Int)),[[.x (.int .i64 ((Go.Sort.median ac x.2.2.2.2 x.1 x.2.1 x.2.2.1 x.2.2.2.1).2:Int))],an x.2.2.2.2]) else none
def sb (N:Nat) (x:Nat×Nat×Array aK):Option (V×List (List V)):=if 1<=x.1∧x.1+1<N∧x.2.1<=900∧x.2.2.size=N then some (.x (.int .i64 ((Go.Sort.medianAdjacent ac x.2.2 x.1 x.2.1).1:Int)),[[.x (.int .i64 ((Go.Sort.medianAdjacent ac x.2.2 x.1 x.2.1).2:Int))],an x.2.2]) else none
def mN (N:Nat) (x:Nat×Nat×Array aK):Option (V×List (List V)):=if x.1<x.2.1∧x.2.1<=N∧x.2.2.size=N then some (.tup [.x (.int .i64 ((Go.Sort.choosePivot ac x.2.2 x.1 x.2.1).1:Int)),.x (.int .i64 (Go.Sort.hintCode (Go.Sort.choosePivot ac x.2.2 x.1 x.2.1).2))],[an x.2.2]) else none
section
variable {g sf:FuncId} {gl gs:Array Value} {N:Nat}
theorem pl (a b s:Nat) (d:Array aK) (h1:a<N) (h2:b<N) (h3:s<=1000) (h4:d.size=N):FE (iU g sf gl gs) (sa N) [bL g sf gl gs,.x (.int .i64 (a:Int)),.x (.int .i64 (b:Int)),.bx [.x (.int .i64 (s:Int))],.bx (an d)]=some (.tup [.x (.int .i64 ((Go.Sort.order2 ac d a b s).1:Int)),.x (.int .i64 ((Go.Sort.order2 ac d a b s).2.1:Int))],[[.x (.int .i64 ((Go.Sort.order2 ac d a b s).2.2:Int))],an d]):=
 (bA uW (sa N) (a,b,s,d)).trans (PO ⟨h1,h2,h3,h4⟩)
theorem mO (a b c s:Nat) (d:Array aK) (h1:a<N) (h2:b<N) (h0:c<N) (h3:s<=900) (h4:d.size=N):FE (gP g sf gl gs) (km N) [bL g sf gl gs,.x (.int .i64 (a:Int)),.x (.int .i64 (b:Int)),.x (.int .i64 (c:Int)),.bx [.x (.int .i64 (s:Int))],.bx (an d)]=some (.x (.int .i64 ((Go.Sort.median ac d a b c s).1:Int)),[[.x (.int .i64 ((Go.Sort.median ac d a b c s).2:Int))],an d]):=
 (bA uY (km N) (a,b,c,s,d)).trans (PO ⟨h1,h2,h0,h3,h4⟩)
theorem pn (a s:Nat) (d:Array aK) (h1:1<=a) (h2:a+1<N) (h3:s<=900) (h4:d.size=N):FE (iV g sf gl gs) (sb N) [bL g sf gl gs,.x (.int .i64 (a:Int)),.bx [.x (.int .i64 (s:Int))],.bx (an d)]=some (.x (.int .i64 ((Go.Sort.medianAdjacent ac d a s).1:Int)),[[.x (.int .i64 ((Go.Sort.medianAdjacent ac d a s).2:Int))],an d]):=
 (bA uX (sb N) (a,s,d)).trans (PO ⟨h1,h2,h3,h4⟩)
end
theorem If (hS:SoOKS3 G bk N g sf gl gs):FunXVS3 G bk 58 [] (FE (iU g sf gl gs) (sa N)):=by
 obtain⟨X,hX,X1,X2,X3⟩:=dt hS [] trivial;have hN:=hS.N1;unfold MXS3 at hN;refine bz (k:=4) hX Try.func58 rfl (fun a w=>Try.call58 a w) Try.ntmps58 (by decide) (by decide) ?_;clear hX;intro us r outs hF;obtain⟨⟨a,b,s,d⟩,hus,hG⟩:=aZ hF;clear hF;subst hus;unfold sa at hG;obtain⟨⟨ha,hb,hs,hd⟩,hG⟩:=aI hG;simp only at ha hb hs hd;cases hG;refine⟨_,rfl,rfl,fun pm m0 w0 hE=>?_⟩;simp only[iU];have w1:aq .i64 ((s:Int)+1)=((s+1:Nat):Int):=by rw[aj (by unfold aS;omega)];omega
 have l1:=bj (N:=N) b a d hb ha hd;refine Sem.run hE ah (by kernel_rfl) ?_;unfold Go.Sort.order2;cases hl:ac d[b]! d[a]! with
 |true=>rw[hl] at l1;simp +decide (maxDischargeDepth:=200) only[go_sem,X1,X2,X3,ay,w1,l1]
 |false=>rw[hl] at l1;simp +decide (maxDischargeDepth:=200) only[go_sem,X1,X2,X3,ay,w1,l1]
theorem wv (hS:SoOKS3 G bk N g sf gl gs):FunXVS3 G bk 57 [] (FE (gP g sf gl gs) (km N)):=by obtain⟨X,hX,X1,X2,X3⟩:=dt hS [(58,FE (iU g sf gl gs) (sa N))] ⟨If hS,trivial⟩;have hN:=hS.N1;unfold MXS3 at hN;refine bz (k:=5) hX Try.func57 rfl (fun a w=>Try.call57 a w) Try.ntmps57 (by decide) (by decide) ?_;clear hX;intro us r outs hF;obtain⟨⟨a,b,c,s,d⟩,hus,hG⟩:=aZ hF;clear hF;subst hus;unfold km at hG;obtain⟨⟨ha,hb,hc,hs,hd⟩,hG⟩:=aI hG;simp only at ha hb hc hs hd;cases hG;refine⟨_,rfl,rfl,fun pm m0 w0 hE=>?_⟩;simp only[gP];unfold Go.Sort.median;simp only;have b1:=jG d a b s N ha hb;have e1:=pl (g:=g) (sf:=sf) (gl:=gl) (gs:=gs) (N:=N) a b s d ha hb (by omega) hd;generalize Go.Sort.order2 ac d a b s=r1 at b1 e1⊢;have b2:=jG d r1.2.1 c r1.2.2 N b1.2.1 hc;have e2:=pl (g:=g) (sf:=sf) (gl:=gl) (gs:=gs) (N:=N) r1.2.1 c r1.2.2 d b1.2.1 hc (by omega) hd;generalize Go.Sort.order2 ac d r1.2.1 c r1.2.2=r2 at b2 e2⊢;have e3:=pl (g:=g) (sf:=sf) (gl:=gl) (gs:=gs) (N:=N) r1.1 r2.1 r2.2.2 d b1.1 b2.1 (by omega) hd;generalize Go.Sort.order2 ac d r1.1 r2.1 r2.2.2=r3 at e3⊢;refine Sem.run hE ah (by kernel_rfl) ?_;simp +decide (maxDischargeDepth:=200) only[go_sem,X1,X2,X3,ay,e1,e2,e3]
theorem Ig (hS:SoOKS3 G bk N g sf gl gs):FunXVS3 G bk 56 [] (FE (iV g sf gl gs) (sb N)):=by
 obtain⟨X,hX,X1,X2,X3⟩:=dt hS [(57,FE (gP g sf gl gs) (km N))] ⟨wv hS,trivial⟩;have hN:=hS.N1;unfold MXS3 at hN;refine bz (k:=3) hX Try.func56 rfl (fun a w=>Try.call56 a w) Try.ntmps56 (by decide) (by decide) ?_;clear hX;intro us r outs hF;obtain⟨⟨a,s,d⟩,hus,hG⟩:=aZ hF;clear hF;subst hus;unfold sb at hG;obtain⟨⟨h1,h2,hs,hd⟩,hG⟩:=aI hG;simp only at h1 h2 hs hd;cases hG;refine⟨_,rfl,rfl,fun pm m0 w0 hE=>?_⟩;simp only[iV];unfold Go.Sort.medianAdjacent;have w1:aq .i64 ((a:Int)+1)=((a+1:Nat):Int):=by rw[aj (by unfold aS;omega)];omega
 have w2:aq .i64 ((a:Int)-1)=((a-1:Nat):Int):=by rw[aj (by unfold aS;omega)];omega
 have e1:=mO (g:=g) (sf:=sf) (gl:=gl) (gs:=gs) (N:=N) (a-1) a (a+1) s d (by omega) (by omega) (by omega) hs hd;refine Sem.run hE ah (by kernel_rfl) ?_;simp +decide (maxDischargeDepth:=200) only[go_sem,X1,X2,X3,ay,w1,w2,e1]
theorem FL (hS:SoOKS3 G bk N g sf gl gs):FunXVS3 G bk 47 [] (FE (bw g sf gl gs) (mN N)):=by
 obtain⟨X,hX,X1,X2,X3⟩:=dt hS [(56,FE (iV g sf gl gs) (sb N)),(57,FE (gP g sf gl gs) (km N))] ⟨Ig hS,wv hS,trivial⟩;have hN:=hS.N1;unfold MXS3 at hN;refine bz (k:=3) hX Try.func47 rfl (fun a w=>Try.call47 a w) Try.ntmps47 (by decide) (by decide) ?_;clear hX;intro us r outs hF;obtain⟨⟨a,b,d⟩,hus,hG⟩:=aZ hF;clear hF;subst hus;unfold mN at hG;obtain⟨⟨hab,hbN,hd⟩,hG⟩:=aI hG;simp only at hab hbN hd;cases hG;refine⟨_,rfl,rfl,fun pm m0 w0 hE=>?_⟩;simp only[bw];obtain⟨l,hl⟩:∃l,b-a=l:=⟨_,rfl⟩;obtain⟨i,hi⟩:∃i,a+l/4*1=i:=⟨_,rfl⟩;obtain⟨j,hj⟩:∃j,a+l/4*2=j:=⟨_,rfl⟩;obtain⟨k,hk⟩:∃k,a+l/4*3=k:=⟨_,rfl⟩;have w0:aq .i64 ((b:Int)-(a:Int))=((l:Nat):Int):=by rw[aj (by unfold aS;omega)];omega
 have q1:aq .i64 ((l:Int).tdiv 4)=((l/4:Nat):Int):=by rw[Rb (by omega),aj (by unfold aS;omega)];omega
 have w1:aq .i64 (((l/4:Nat):Int)*1)=((l/4*1:Nat):Int):=by rw[aj (by unfold aS;omega)];omega
 have w2:aq .i64 (((l/4:Nat):Int)*2)=((l/4*2:Nat):Int):=by rw[aj (by unfold aS;omega)];omega
 have w3:aq .i64 (((l/4:Nat):Int)*3)=((l/4*3:Nat):Int):=by rw[aj (by unfold aS;omega)];omega
 have w4:aq .i64 ((a:Int)+((l/4*1:Nat):Int))=((i:Nat):Int):=by rw[aj (by unfold aS;omega)];omega
 have w5:aq .i64 ((a:Int)+((l/4*2:Nat):Int))=((j:Nat):Int):=by rw[aj (by unfold aS;omega)];omega
 have w6:aq .i64 ((a:Int)+((l/4*3:Nat):Int))=((k:Nat):Int):=by rw[aj (by unfold aS;omega)];omega
 obtain⟨r,hr⟩:∃r:Nat×Nat,(if l≥8 then if l≥50 then Go.Sort.median ac d (Go.Sort.medianAdjacent ac d i 0).1 (Go.Sort.medianAdjacent ac d j (Go.Sort.medianAdjacent ac d i 0).2).1 (Go.Sort.medianAdjacent ac d k (Go.Sort.medianAdjacent ac d j (Go.Sort.medianAdjacent ac d i 0).2).2).1 (Go.Sort.medianAdjacent ac d k (Go.Sort.medianAdjacent ac d j (Go.Sort.medianAdjacent ac d i 0).2).2).2 else Go.Sort.median ac d i j k 0 else (j,0))=r:=⟨_,rfl⟩;have hch:Go.Sort.choosePivot ac d a b=(r.1,if r.2=0 then .increasing else if r.2=12 then .decreasing else .unknown):=by unfold Go.Sort.choosePivot;simp only[hl,hi,hj,hk,hr]
 rw[hch];refine Sem.seq [(3,.ptr 3 0),(1,.x (.int .i64 (a:Int))),(2,.x (.int .i64 (b:Int)))] [(3,[.x (.func (.func g) #[] gl),.x (.func (.func sf) #[] gs)]),(1003,an d)] (Sem.run hE ah (by kernel_rfl) (by simp +decide (maxDischargeDepth:=200) only[go_sem,X1,X2,X3,ay])) ?_;refine Sem.seq [(3,.ptr 3 0),(1,.x (.int .i64 (a:Int))),(8,.x (.int .i64 ((l:Nat):Int)))] [(3,[.x (.func (.func g) #[] gl),.x (.func (.func sf) #[] gs)]),(1003,an d)] (Sem.run hE ah (by kernel_rfl) (by simp +decide (maxDischargeDepth:=200) only[go_sem,X1,X2,X3,ay,w0])) ?_;refine Sem.seq [(3,.ptr 3 0),(1,.x (.int .i64 (a:Int))),(8,.x (.int .i64 ((l:Nat):Int))),(9,.ptr 9 0)] [(3,[.x (.func (.func g) #[] gl),.x (.func (.func sf) #[] gs)]),(9,[.x (.int .i64 0)]),(1003,an d)] (Sem.run hE ah (by kernel_rfl) (by simp +decide (maxDischargeDepth:=200) only[go_sem,X1,X2,X3,ay])) ?_;refine Sem.seq [(3,.ptr 3 0),(1,.x (.int .i64 (a:Int))),(8,.x (.int .i64 ((l:Nat):Int))),(9,.ptr 9 0),(10,.x (.int .i64 ((i:Nat):Int)))] [(3,[.x (.func (.func g) #[] gl),.x (.func (.func sf) #[] gs)]),(9,[.x (.int .i64 0)]),(1003,an d)] (Sem.run hE ah (by kernel_rfl) (by simp +decide (maxDischargeDepth:=200) only[go_sem,X1,X2,X3,ay,q1,w1,w4])) ?_;refine Sem.seq [(3,.ptr 3 0),(1,.x (.int .i64 (a:Int))),(8,.x (.int .i64 ((l:Nat):Int))),(9,.ptr 9 0),(10,.x (.int .i64 ((i:Nat):Int))),(11,.x (.int .i64 ((j:Nat):Int)))] [(3,[.x (.func (.func g) #[] gl),.x (.func (.func sf) #[] gs)]),(9,[.x (.int .i64 0)]),(1003,an d)] (Sem.run hE ah (by kernel_rfl) (by simp +decide (maxDischargeDepth:=200) only[go_sem,X1,X2,X3,ay,q1,w2,w5])) ?_;refine Sem.seq [(3,.ptr 3 0),(8,.x (.int .i64 ((l:Nat):Int))),(9,.ptr 9 0),(10,.x (.int .i64 ((i:Nat):Int))),(11,.x (.int .i64 ((j:Nat):Int))),(12,.x (.int .i64 ((k:Nat):Int)))] [(3,[.x (.func (.func g) #[] gl),.x (.func (.func sf) #[] gs)]),(9,[.x (.int .i64 0)]),(1003,an d)] (Sem.run hE ah (by kernel_rfl) (by simp +decide (maxDischargeDepth:=200) only[go_sem,X1,X2,X3,ay,q1,w3,w6])) ?_;refine Sem.seq [(9,.ptr 9 0),(11,.x (.int .i64 ((r.1:Nat):Int)))] [(3,[.x (.func (.func g) #[] gl),.x (.func (.func sf) #[] gs)]),(9,[.x (.int .i64 ((r.2:Nat):Int))]),(1003,an d)] (Sem.run hE ah (by kernel_rfl) ?_) ?_
 . by_cases h8:l≥8
   . rw[PO h8] at hr;have c1:decide (8<=((l:Nat):Int))=true:=PD (by omega);by_cases h50:l≥50
     . rw[PO h50] at hr;have c2:decide (50<=((l:Nat):Int))=true:=PD (by omega);have e1:=pn (g:=g) (sf:=sf) (gl:=gl) (gs:=gs) (N:=N) i 0 d (by omega) (by omega) (by omega) hd;have b1:=pk d (i-1) i (i+1) 0 N (by omega) (by omega) (by omega);change (Go.Sort.medianAdjacent ac d i 0).1<N∧(Go.Sort.medianAdjacent ac d i 0).2<=0+3 at b1;generalize Go.Sort.medianAdjacent ac d i 0=r1 at hr e1 b1;have e2:=pn (g:=g) (sf:=sf) (gl:=gl) (gs:=gs) (N:=N) j r1.2 d (by omega) (by omega) (by omega) hd;have b2:=pk d (j-1) j (j+1) r1.2 N (by omega) (by omega) (by omega);change (Go.Sort.medianAdjacent ac d j r1.2).1<N∧(Go.Sort.medianAdjacent ac d j r1.2).2<=r1.2+3 at b2;generalize Go.Sort.medianAdjacent ac d j r1.2=r2 at hr e2 b2;have e3:=pn (g:=g) (sf:=sf) (gl:=gl) (gs:=gs) (N:=N) k r2.2 d (by omega) (by omega) (by omega) hd;have b3:=pk d (k-1) k (k+1) r2.2 N (by omega) (by omega) (by omega);change (Go.Sort.medianAdjacent ac d k r2.2).1<N∧(Go.Sort.medianAdjacent ac d k r2.2).2<=r2.2+3 at b3;generalize Go.Sort.medianAdjacent ac d k r2.2=r3 at hr e3 b3;have e4:=mO (g:=g) (sf:=sf) (gl:=gl) (gs:=gs) (N:=N) r1.1 r2.1 r3.1 r3.2 d b1.1 b2.1 b3.1 (by omega) hd;rw[hr] at e4;rw[show((0:Nat):Int)=0 from rfl] at e1;simp +decide (maxDischargeDepth:=200) only[go_sem,X1,X2,X3,ay,c1,c2,e1,e2,e3,e4]
     . rw[PS h50] at hr;have c2:decide (50<=((l:Nat):Int))=false:=PC (by omega);have e4:=mO (g:=g) (sf:=sf) (gl:=gl) (gs:=gs) (N:=N) i j k 0 d (by omega) (by omega) (by omega) (by omega) hd;rw[hr] at e4;rw[show((0:Nat):Int)=0 from rfl] at e4;simp +decide (maxDischargeDepth:=200) only[go_sem,X1,X2,X3,ay,c1,c2,e4]
   . rw[PS h8] at hr;have c1:decide (8<=((l:Nat):Int))=false:=PC (by omega);rw[<-hr];simp +decide (maxDischargeDepth:=200) only[go_sem,X1,X2,X3,ay,c1];rfl
 . refine Sem.run hE ah (by kernel_rfl) ?_;by_cases h0:r.2=0
   . rw[PO h0];have c1:decide (((r.2:Nat):Int)=0)=true:=PD (by omega);simp +decide (maxDischargeDepth:=200) only[go_sem,X1,X2,X3,ay,c1,Go.Sort.hintCode]
   . rw[PS h0];have c1:decide (((r.2:Nat):Int)=0)=false:=PC (by omega);by_cases h12:r.2=12
     . rw[PO h12];have c2:decide (((r.2:Nat):Int)=12)=true:=PD (by omega);simp +decide (maxDischargeDepth:=200) only[go_sem,X1,X2,X3,ay,c1,c2,Go.Sort.hintCode]
     . rw[PS h12];have c2:decide (((r.2:Nat):Int)=12)=false:=PC (by omega);simp +decide (maxDischargeDepth:=200) only[go_sem,X1,X2,X3,ay,c1,c2,Go.Sort.hintCode]
theorem om {ρ:Type} {p:Prop} {_inst:Decidable p} {o:Option ρ} {r:ρ} (h:(if p then o else none)=some r):p∧o=some r:=by
 by_cases hp:p
 . rw[PO hp] at h;exact⟨hp,h⟩
 . rw[PS hp] at h;cases h
open Go.Sort (SWO Below rd PermIn SortedIn)
theorem dR:SWO ac:=by
 refine⟨rY.irr,rY.trans,fun x y z h1 h2=>?_⟩;cases h3:ac x z with
 |false=>rfl
 | true=>
   cases h4:ac y x with
   |true=>rw[rY.trans _ _ _ h4 h3] at h2;cases h2
   |false=>have:=rY.tri _ _ h1 h4;subst this;rw[h3] at h2;cases h2
def iW (N:Nat) (x:Nat×Nat×Array aK):Option (V×List (List V)):=if x.1<=x.2.1∧x.2.1<=N∧x.2.2.size=N then some (.tup [],[an (Go.Sort.breakPatterns x.2.2 x.1 x.2.1)]) else none
open Classical in
noncomputable def gR (N n:Nat) (x:Nat×Nat×Nat×Array aK):Option (V×List (List V)):=if x.2.1-x.1<n∧x.1<=x.2.1∧x.2.1<=N∧x.2.2.1<=100∧x.2.2.2.size=N∧Below ac x.1 x.2.1 x.2.2.2 then some (.tup [],[an (Go.Sort.pdq ac x.2.2.2 x.1 x.2.1 x.2.2.1 true true)]) else none
section
variable {g sf:FuncId} {gl gs:Array Value} {N:Nat}
theorem C4 (a b:Nat) (d:Array aK) (h1:a<=b) (h2:b<=N) (h3:d.size=N):FE (bw g sf gl gs) (mK N) [bL g sf gl gs,.x (.int .i64 (a:Int)),.x (.int .i64 (b:Int)),.bx (an d)]=some (.tup [],[an (Go.Sort.insertionSort ac d a b)]):=
 (bA dQ (mK N) (a,b,d)).trans (PO ⟨h1,h2,h3⟩)
theorem za (a b:Nat) (d:Array aK) (h1:a<=b) (h2:b<=N) (h3:d.size=N):FE (bw g sf gl gs) (jD N) [bL g sf gl gs,.x (.int .i64 (a:Int)),.x (.int .i64 (b:Int)),.bx (an d)]=some (.tup [],[an (Go.Sort.heapSort ac d a b)]):=
 (bA dQ (jD N) (a,b,d)).trans (PO ⟨h1,h2,h3⟩)
theorem C5 (a b:Nat) (d:Array aK) (h1:a<=b) (h2:b<=N) (h3:d.size=N):FE (bw g sf gl gs) (iW N) [bL g sf gl gs,.x (.int .i64 (a:Int)),.x (.int .i64 (b:Int)),.bx (an d)]=some (.tup [],[an (Go.Sort.breakPatterns d a b)]):=
 (bA dQ (iW N) (a,b,d)).trans (PO ⟨h1,h2,h3⟩)
theorem C6 (a b:Nat) (d:Array aK) (h1:a<b) (h2:b<=N) (h3:d.size=N):FE (bw g sf gl gs) (mN N) [bL g sf gl gs,.x (.int .i64 (a:Int)),.x (.int .i64 (b:Int)),.bx (an d)]=some (.tup [.x (.int .i64 ((Go.Sort.choosePivot ac d a b).1:Int)),.x (.int .i64 (Go.Sort.hintCode (Go.Sort.choosePivot ac d a b).2))],[an d]):=
 (bA dQ (mN N) (a,b,d)).trans (PO ⟨h1,h2,h3⟩)
theorem C7 (a b:Nat) (d:Array aK) (h1:a<b) (h2:b<=N) (h3:d.size=N):FE (bw g sf gl gs) (mM N) [bL g sf gl gs,.x (.int .i64 (a:Int)),.x (.int .i64 (b:Int)),.bx (an d)]=some (.tup [],[an (Go.Sort.reverseRange d a b)]):=
 (bA dQ (mM N) (a,b,d)).trans (PO ⟨h1,h2,h3⟩)
theorem zb (a b:Nat) (d:Array aK) (h1:a<b) (h2:b<=N) (h3:d.size=N):FE (bw g sf gl gs) (jF N) [bL g sf gl gs,.x (.int .i64 (a:Int)),.x (.int .i64 (b:Int)),.bx (an d)]=some (.x (.bool (Go.Sort.partialInsertionSort ac d a b).2),[an (Go.Sort.partialInsertionSort ac d a b).1]):=
 (bA dQ (jF N) (a,b,d)).trans (PO ⟨h1,h2,h3⟩)
theorem zc (a b pv:Nat) (d:Array aK) (h1:a<=pv) (h0:pv<b) (h2:b<=N) (h3:d.size=N):FE (cd g sf gl gs) (jE N) [bL g sf gl gs,.x (.int .i64 (a:Int)),.x (.int .i64 (b:Int)),.x (.int .i64 (pv:Int)),.bx (an d)]=some (.tup [.x (.int .i64 ((Go.Sort.partition ac d a b pv).1:Int)),.x (.bool (Go.Sort.partition ac d a b pv).2.1)],[an (Go.Sort.partition ac d a b pv).2.2]):=
 (bA f7 (jE N) (a,b,pv,d)).trans (PO ⟨h1,h0,h2,h3⟩)
theorem va (a b pv:Nat) (d:Array aK) (h1:a<=pv) (h0:pv<b) (h2:b<=N) (h3:d.size=N):FE (cd g sf gl gs) (gQ N) [bL g sf gl gs,.x (.int .i64 (a:Int)),.x (.int .i64 (b:Int)),.x (.int .i64 (pv:Int)),.bx (an d)]=some (.x (.int .i64 ((Go.Sort.partitionEqual ac d a b pv).1:Int)),[an (Go.Sort.partitionEqual ac d a b pv).2]):=
 (bA f7 (gQ N) (a,b,pv,d)).trans (PO ⟨h1,h0,h2,h3⟩)
theorem mP (n a b lim:Nat) (d:Array aK) (h0:b-a<n) (h1:a<=b) (h2:b<=N) (h3:lim<=100) (h4:d.size=N) (h5:Below ac a b d):FE (cd g sf gl gs) (gR N n) [bL g sf gl gs,.x (.int .i64 (a:Int)),.x (.int .i64 (b:Int)),.x (.int .i64 (lim:Int)),.bx (an d)]=some (.tup [],[an (Go.Sort.pdq ac d a b lim true true)]):=
 (bA f7 (gR N n) (a,b,lim,d)).trans (PO ⟨h0,h1,h2,h3,h4,h5⟩)
end
theorem vb (hS:SoOKS3 G bk N g sf gl gs) (hB:FunXVS3 G bk 46 [] (FE (bw g sf gl gs) (iW N))) (n:Nat) (ih:FunXVS3 G bk 27 [] (FE (cd g sf gl gs) (gR N n))):FunXVS3 G bk 27 [] (FE (cd g sf gl gs) (gR N (n+1))):=by
 obtain⟨X,hX,X1,X2,X3⟩:=dt hS [(44,FE (bw g sf gl gs) (mK N)),(45,FE (bw g sf gl gs) (jD N)),(46,FE (bw g sf gl gs) (iW N)),(47,FE (bw g sf gl gs) (mN N)),(48,FE (bw g sf gl gs) (mM N)),(49,FE (bw g sf gl gs) (jF N)),(50,FE (cd g sf gl gs) (gQ N)),(51,FE (cd g sf gl gs) (jE N)),(27,FE (cd g sf gl gs) (gR N n))] ⟨FH hS,CZ hS,hB,FL hS,FK hS,C1 hS,y9 hS,C0 hS,ih,trivial⟩;have hN:=hS.N1;unfold MXS3 at hN;refine bz (k:=4) hX Try.func27 rfl (fun a w=>Try.call27 a w) Try.ntmps27 (by decide) (by decide) ?_;clear hX;intro us r outs hF;obtain⟨⟨a,b,lim,d⟩,hus,hG⟩:=aZ hF;clear hF;subst hus;unfold gR at hG;obtain⟨⟨hn,hab,hbN,hlim,hd,hBel⟩,hG⟩:=om hG;simp only at hn hab hbN hlim hd hBel;cases hG;refine⟨_,rfl,rfl,fun pm m0 w0 hE=>?_⟩;simp only[cd];obtain⟨P,hP⟩:∃P,Go.Sort.pdq ac d a b lim true true=P:=⟨_,rfl⟩;rw[hP];refine Sem.seq [(1,.x (.int .i64 (a:Int))),(2,.x (.int .i64 (b:Int))),(3,.x (.int .i64 (lim:Int))),(4,.ptr 4 0)] [(4,[.x (.func (.func g) #[] gl),.x (.func (.func sf) #[] gs)]),(1004,an d)] (Sem.run hE ah (by kernel_rfl) (by simp +decide (maxDischargeDepth:=200) only[go_sem,X1,X2,X3,ay])) ?_;refine Sem.seq [(1,.x (.int .i64 (a:Int))),(2,.x (.int .i64 (b:Int))),(3,.x (.int .i64 (lim:Int))),(4,.ptr 4 0),(8,.x (.bool true))] [(4,[.x (.func (.func g) #[] gl),.x (.func (.func sf) #[] gs)]),(1004,an d)] (Sem.run hE ah (by kernel_rfl) (by simp +decide (maxDischargeDepth:=200) only[go_sem,X1,X2,X3,ay])) ?_;refine Sem.seq [(1,.x (.int .i64 ((a:Nat):Int))),(2,.x (.int .i64 ((b:Nat):Int))),(3,.x (.int .i64 ((lim:Nat):Int))),(4,.ptr 4 0),(8,.x (.bool true)),(9,.x (.bool true))] [(4,[.x (.func (.func g) #[] gl),.x (.func (.func sf) #[] gs)]),(1004,an d)] (Sem.run hE ah (by kernel_rfl) (by simp +decide (maxDischargeDepth:=200) only[go_sem,X1,X2,X3,ay])) ?_;refine Sem.block (Sem.loop (X:={x:Nat×Nat×Nat×Bool×Bool×Array aK//x.1<=x.2.1∧x.2.1<=N∧x.2.1-x.1<=b-a∧x.2.2.1<=lim∧x.2.2.2.2.2.size=N∧Below ac x.1 x.2.1 x.2.2.2.2.2∧Go.Sort.pdq ac x.2.2.2.2.2 x.1 x.2.1 x.2.2.1 x.2.2.2.1 x.2.2.2.2.1=P}) (fun x=>[(1,.x (.int .i64 ((x.1.1:Nat):Int))),(2,.x (.int .i64 ((x.1.2.1:Nat):Int))),(3,.x (.int .i64 ((x.1.2.2.1:Nat):Int))),(4,.ptr 4 0),(8,.x (.bool x.1.2.2.2.1)),(9,.x (.bool x.1.2.2.2.2.1))]) (fun x=>[(4,[.x (.func (.func g) #[] gl),.x (.func (.func sf) #[] gs)]),(1004,an x.1.2.2.2.2.2)]) (fun x=>x.1.2.1-x.1.1) ⟨(a,b,lim,true,true,d),hab,hbN,PB _,PB _,hd,hBel,hP⟩ (by simp +decide only[go_sem]<;>(repeat' first|rfl|constructor)) (by simp +decide only[go_sem]<;>(repeat' first|rfl|constructor)) (fun⟨⟨a1,b1,l1,wb,wp,dk⟩,x1,x2,x3,x4,hdk,hBk,heq⟩=>Sem.block ?_));simp only at x1 x2 x3 x4 hdk hBk heq⊢;have w1:aq .i64 ((b1:Int)-(a1:Int))=((b1-a1:Nat):Int):=by rw[aj (by unfold aS;omega)];omega
 refine Sem.seq [(1,.x (.int .i64 ((a1:Nat):Int))),(2,.x (.int .i64 ((b1:Nat):Int))),(3,.x (.int .i64 ((l1:Nat):Int))),(4,.ptr 4 0),(8,.x (.bool wb)),(9,.x (.bool wp)),(10,.x (.int .i64 ((b1-a1:Nat):Int)))] [(4,[.x (.func (.func g) #[] gl),.x (.func (.func sf) #[] gs)]),(1004,an dk)] (Sem.run hE ah (by kernel_rfl) (by simp +decide (maxDischargeDepth:=200) only[go_sem,X1,X2,X3,ay,w1])) ?_;by_cases h12:b1-a1<=12
 . have c1:decide (((b1-a1:Nat):Int)<=12)=true:=PD (by omega);have e1:=C4 (g:=g) (sf:=sf) (gl:=gl) (gs:=gs) (N:=N) a1 b1 dk x1 x2 hdk;rw[<-heq,Go.Sort.pdq_small h12];refine Sem.seq_out (Sem.run hE ah (by kernel_rfl) ?_);simp +decide (maxDischargeDepth:=200) only[go_sem,X1,X2,X3,ay,c1,e1]
 have c1:decide (((b1-a1:Nat):Int)<=12)=false:=PC (by omega);refine Sem.seq [(1,.x (.int .i64 ((a1:Nat):Int))),(2,.x (.int .i64 ((b1:Nat):Int))),(3,.x (.int .i64 ((l1:Nat):Int))),(4,.ptr 4 0),(8,.x (.bool wb)),(9,.x (.bool wp)),(10,.x (.int .i64 ((b1-a1:Nat):Int)))] [(4,[.x (.func (.func g) #[] gl),.x (.func (.func sf) #[] gs)]),(1004,an dk)] (Sem.run hE ah (by kernel_rfl) (by simp +decide (maxDischargeDepth:=200) only[go_sem,X1,X2,X3,ay,c1])) ?_;by_cases hl0:l1=0
 . have c2:decide (((l1:Nat):Int)=0)=true:=PD (by omega);have e1:=za (g:=g) (sf:=sf) (gl:=gl) (gs:=gs) (N:=N) a1 b1 dk x1 x2 hdk;rw[<-heq,Go.Sort.pdq_heap h12 hl0];refine Sem.seq_out (Sem.run hE ah (by kernel_rfl) ?_);simp +decide (maxDischargeDepth:=200) only[go_sem,X1,X2,X3,ay,c2,e1]
 have c2:decide (((l1:Nat):Int)=0)=false:=PC (by omega);refine Sem.seq [(1,.x (.int .i64 ((a1:Nat):Int))),(2,.x (.int .i64 ((b1:Nat):Int))),(3,.x (.int .i64 ((l1:Nat):Int))),(4,.ptr 4 0),(8,.x (.bool wb)),(9,.x (.bool wp)),(10,.x (.int .i64 ((b1-a1:Nat):Int)))] [(4,[.x (.func (.func g) #[] gl),.x (.func (.func sf) #[] gs)]),(1004,an dk)] (Sem.run hE ah (by kernel_rfl) (by simp +decide (maxDischargeDepth:=200) only[go_sem,X1,X2,X3,ay,c2])) ?_;obtain⟨R,hR⟩:∃R,rd ac dk a1 b1 l1 wb wp=R:=⟨_,rfl⟩;obtain⟨s1,B1,hc1,s2,B2,hpv,s3,B3⟩:=Go.Sort.rd_facts (lt:=ac) (limit:=l1) (wb:=wb) (wp:=wp) dR Go.Sort.partialInsertionSort_holds Go.Sort.reverseRange_holds (show a1<b1 by omega) (show b1<=dk.size by omega) hBk;have hlm:=Go.Sort.rd_lim_le (lt:=ac) (d:=dk) (a:=a1) (b:=b1) (limit:=l1) (wb:=wb) (wp:=wp);rw[hR] at s1 B1 hc1 s2 B2 hpv s3 B3 hlm;refine Sem.seq [(1,.x (.int .i64 ((a1:Nat):Int))),(2,.x (.int .i64 ((b1:Nat):Int))),(3,.x (.int .i64 ((R.lim:Nat):Int))),(4,.ptr 4 0),(8,.x (.bool wb)),(9,.x (.bool wp)),(10,.x (.int .i64 ((b1-a1:Nat):Int)))] [(4,[.x (.func (.func g) #[] gl),.x (.func (.func sf) #[] gs)]),(1004,an R.d1)] (Sem.run hE ah (by kernel_rfl) ?_) ?_
 . cases wb with
   |true=>obtain⟨q1,q2⟩:=Go.Sort.rd_true (lt:=ac) (d:=dk) (a:=a1) (b:=b1) (limit:=l1) (wp:=wp);rw[hR] at q1 q2;rw[q1,q2];simp +decide (maxDischargeDepth:=200) only[go_sem,X1,X2,X3,ay]
   | false=>
     obtain⟨q1,q2⟩:=Go.Sort.rd_false (lt:=ac) (d:=dk) (a:=a1) (b:=b1) (limit:=l1) (wp:=wp);rw[hR] at q1 q2;have e1:=C5 (g:=g) (sf:=sf) (gl:=gl) (gs:=gs) (N:=N) a1 b1 dk x1 x2 hdk;have w2:aq .i64 ((l1:Int)-1)=((l1-1:Nat):Int):=by rw[aj (by unfold aS;omega)];omega
     rw[q1,q2];simp +decide (maxDischargeDepth:=200) only[go_sem,X1,X2,X3,ay,e1,w2]
 have ec:=Go.Sort.rd_c (lt:=ac) (d:=dk) (a:=a1) (b:=b1) (limit:=l1) (wb:=wb) (wp:=wp);rw[hR] at ec;have e2:=C6 (g:=g) (sf:=sf) (gl:=gl) (gs:=gs) (N:=N) a1 b1 R.d1 (by omega) x2 (s1.trans hdk);rw[<-ec] at e2;refine Sem.seq [(1,.x (.int .i64 ((a1:Nat):Int))),(2,.x (.int .i64 ((b1:Nat):Int))),(3,.x (.int .i64 ((R.lim:Nat):Int))),(4,.ptr 4 0),(8,.x (.bool wb)),(9,.x (.bool wp)),(10,.x (.int .i64 ((b1-a1:Nat):Int))),(11,.x (.int .i64 ((R.c.1:Nat):Int))),(12,.x (.int .i64 (Go.Sort.hintCode R.c.2)))] [(4,[.x (.func (.func g) #[] gl),.x (.func (.func sf) #[] gs)]),(1004,an R.d1)] (Sem.run hE ah (by kernel_rfl) (by simp +decide (maxDischargeDepth:=200) only[go_sem,X1,X2,X3,ay,e2])) ?_;refine Sem.seq [(1,.x (.int .i64 ((a1:Nat):Int))),(2,.x (.int .i64 ((b1:Nat):Int))),(3,.x (.int .i64 ((R.lim:Nat):Int))),(4,.ptr 4 0),(8,.x (.bool wb)),(9,.x (.bool wp)),(10,.x (.int .i64 ((b1-a1:Nat):Int))),(11,.x (.int .i64 ((R.pivot:Nat):Int))),(12,.x (.int .i64 (Go.Sort.hintCode R.hint)))] [(4,[.x (.func (.func g) #[] gl),.x (.func (.func sf) #[] gs)]),(1004,an R.d2)] (Sem.run hE ah (by kernel_rfl) ?_) ?_
 . by_cases hh:R.c.2= .decreasing
   . obtain⟨q1,q2,q3⟩:=Go.Sort.rd_dec (lt:=ac) (d:=dk) (a:=a1) (b:=b1) (limit:=l1) (wb:=wb) (wp:=wp) (by rw[hR];exact hh);rw[hR] at q1 q2 q3;have e3:=C7 (g:=g) (sf:=sf) (gl:=gl) (gs:=gs) (N:=N) a1 b1 R.d1 (by omega) x2 (s1.trans hdk);rw[<-q1] at e3;have c3:decide (Go.Sort.hintCode R.c.2=2)=true:=by rw[hh];rfl
     have c4:Go.Sort.hintCode R.hint=1:=by rw[q3];rfl
     have w2:aq .i64 ((b1:Int)-1)=((b1-1:Nat):Int):=by rw[aj (by unfold aS;omega)];omega
     have w3:aq .i64 (((R.c.1:Nat):Int)-(a1:Int))=((R.c.1-a1:Nat):Int):=by rw[aj (by unfold aS;omega)];omega
     have w4:aq .i64 (((b1-1:Nat):Int)-((R.c.1-a1:Nat):Int))=((R.pivot:Nat):Int):=by rw[aj (by unfold aS;omega)];omega
     rw[c4];simp +decide (maxDischargeDepth:=200) only[go_sem,X1,X2,X3,ay,c3,e3,w2,w3,w4]
   . obtain⟨q1,q2,q3⟩:=Go.Sort.rd_not (lt:=ac) (d:=dk) (a:=a1) (b:=b1) (limit:=l1) (wb:=wb) (wp:=wp) (by rw[hR];exact hh);rw[hR] at q1 q2 q3
     have c3:decide (Go.Sort.hintCode R.c.2=2)=false:=PC (fun h=>hh (by generalize R.c.2=h0 at h;cases h0<;>first|rfl|(simp[Go.Sort.hintCode] at h)))
     rw[q1,q2,q3];simp +decide (maxDischargeDepth:=200) only[go_sem,X1,X2,X3,ay,c3]
 obtain⟨Q,hQ1,hQ2⟩:∃Q:Prop,(Q->R.pi.2=false)∧(R.pi.2=false->Q):=⟨_,id,id⟩;refine Sem.seqQ Q [(1,.x (.int .i64 ((a1:Nat):Int))),(2,.x (.int .i64 ((b1:Nat):Int))),(3,.x (.int .i64 ((R.lim:Nat):Int))),(4,.ptr 4 0),(8,.x (.bool wb)),(9,.x (.bool wp)),(10,.x (.int .i64 ((b1-a1:Nat):Int))),(11,.x (.int .i64 ((R.pivot:Nat):Int)))] [(4,[.x (.func (.func g) #[] gl),.x (.func (.func sf) #[] gs)]),(1004,an R.pi.1)] (Sem.run hE ah (by kernel_rfl) ?_) (fun hq=>?_)
 . by_cases hin:R.hint= .increasing
   . have c5:decide (Go.Sort.hintCode R.hint=1)=true:=by rw[hin];rfl
     cases hw:(wb&&wp) with
     | true=>
       rw[PG] at hw;obtain⟨hwb,hwp⟩:=hw;have epi:=Go.Sort.rd_pi_yes (lt:=ac) (d:=dk) (a:=a1) (b:=b1) (limit:=l1) (wb:=wb) (wp:=wp) (by rw[hR,hin,hwb,hwp];rfl);rw[hR] at epi;have e4:=zb (g:=g) (sf:=sf) (gl:=gl) (gs:=gs) (N:=N) a1 b1 R.d2 (by omega) x2 (s2.trans hdk);rw[<-epi] at e4;cases h2:R.pi.2 with
       |true=>rw[h2] at e4;have hf:=Go.Sort.pdq_done (lt:=ac) (wb:=wb) (wp:=wp) h12 hl0 (by rw[hR];exact h2);rw[hR,heq] at hf;rw[hf];simp +decide (maxDischargeDepth:=200) only[go_sem,X1,X2,X3,ay,hwb,hwp,c5,e4]
       |false=>rw[h2] at e4;have q:=hQ2 h2;simp +decide (maxDischargeDepth:=200) only[go_sem,X1,X2,X3,ay,hwb,hwp,c5,e4,q]
     | false=>
       have epi:=Go.Sort.rd_pi_no (lt:=ac) (d:=dk) (a:=a1) (b:=b1) (limit:=l1) (wb:=wb) (wp:=wp) (by rw[hw];rfl);rw[hR] at epi;have q:=hQ2 (by rw[epi]);rw[epi];cases wb with
       |false=>simp +decide (maxDischargeDepth:=200) only[go_sem,X1,X2,X3,ay,c5,q]
       | true=>
         have hwp:wp=false:=by simpa using hw
         simp +decide (maxDischargeDepth:=200) only[go_sem,X1,X2,X3,ay,hwp,c5,q]
   . have c5:decide (Go.Sort.hintCode R.hint=1)=false:=PC (fun h=>hin (by generalize R.hint=h0 at h;cases h0<;>first|rfl|(simp[Go.Sort.hintCode] at h)))
     have epi:=Go.Sort.rd_pi_no (lt:=ac) (d:=dk) (a:=a1) (b:=b1) (limit:=l1) (wb:=wb) (wp:=wp) (by rw[hR,PC hin,Bool.and_false]);rw[hR] at epi;have q:=hQ2 (by rw[epi]);rw[epi];cases wb with
     |false=>simp +decide (maxDischargeDepth:=200) only[go_sem,X1,X2,X3,ay,c5,q]
     | true=>cases wp with
       |false=>simp +decide (maxDischargeDepth:=200) only[go_sem,X1,X2,X3,ay,c5,q]
       |true=>simp +decide (maxDischargeDepth:=200) only[go_sem,X1,X2,X3,ay,c5,q]
 have hp2:=hQ1 hq;clear hQ1 hQ2 hq Q;obtain⟨D,hD⟩:∃D,R.pi.1=D:=⟨_,rfl⟩;rw[hD] at s3 B3⊢;have z3:D.size=N:=s3.trans hdk;cases h87:(decide (a1>0)&& !ac D[a1-1]! D[R.pivot]!) with
 | true=>
   have h87':=h87;simp only[PG,Qa,Qx] at h87';obtain⟨mid,d4,hx⟩:∃mid d4,Go.Sort.partitionEqual ac D a1 b1 R.pivot=(mid,d4):=⟨_,_,rfl⟩;obtain⟨r1,r2,r3,r4,_⟩:=Go.Sort.round_eq dR (Go.Sort.partitionEqual_holds ac) h87'.1 hpv.1 hpv.2 (show b1<=D.size by omega) B3 h87'.2 hx;have e5:=va (g:=g) (sf:=sf) (gl:=gl) (gs:=gs) (N:=N) a1 b1 R.pivot D hpv.1 hpv.2 x2 z3;rw[hx] at e5;have hl:=bj (N:=N) (a1-1) R.pivot D (by omega) (by omega) z3;rw[h87'.2] at hl;have c6:decide ((0:Int)<((a1:Nat):Int))=true:=PD (by omega);have w5:aq .i64 ((a1:Int)-1)=((a1-1:Nat):Int):=by rw[aj (by unfold aS;omega)];omega
   have hf:=Go.Sort.pdq_eq (lt:=ac) (wb:=wb) (wp:=wp) h12 hl0 (by rw[hR];exact hp2) (by rw[hR,hD];exact h87) (by rw[hR,hD,hx];exact⟨r1,r2⟩);rw[hR,hD,hx,heq] at hf;simp only at hf;refine Sem.seq_out (Sem.run hE ah (by kernel_rfl) ?_);simp +decide (maxDischargeDepth:=200) only[go_sem,X1,X2,X3,ay,c6,w5,hl,e5];refine⟨⟨(mid,b1,R.lim,wb,wp,d4),by simp only;omega,by simp only;omega,by simp only;omega,by simp only;omega,r3.trans z3,r4,hf.symm⟩,?_,?_,by simp only;omega⟩<;>simp +decide only[go_sem]<;>(repeat' first|rfl|constructor)
 | false=>
   refine Sem.seq [(1,.x (.int .i64 ((a1:Nat):Int))),(2,.x (.int .i64 ((b1:Nat):Int))),(3,.x (.int .i64 ((R.lim:Nat):Int))),(4,.ptr 4 0),(8,.x (.bool wb)),(9,.x (.bool wp)),(10,.x (.int .i64 ((b1-a1:Nat):Int))),(11,.x (.int .i64 ((R.pivot:Nat):Int)))] [(4,[.x (.func (.func g) #[] gl),.x (.func (.func sf) #[] gs)]),(1004,an D)] (Sem.run hE ah (by kernel_rfl) ?_) ?_
   . by_cases ha0:0<a1
     . have c6:decide ((0:Int)<((a1:Nat):Int))=true:=PD (by omega);have w5:aq .i64 ((a1:Int)-1)=((a1-1:Nat):Int):=by rw[aj (by unfold aS;omega)];omega
       have hl:=bj (N:=N) (a1-1) R.pivot D (by omega) (by omega) z3;rw[PD (show a1>0 from ha0),Ru,Bool.not_eq_false'] at h87;rw[h87] at hl;simp +decide (maxDischargeDepth:=200) only[go_sem,X1,X2,X3,ay,c6,w5,hl]
     . have c6:decide ((0:Int)<((a1:Nat):Int))=false:=PC (by omega);simp +decide (maxDischargeDepth:=200) only[go_sem,X1,X2,X3,ay,c6]
   obtain⟨mid,ap,d4,hx⟩:∃mid ap d4,Go.Sort.partition ac D a1 b1 R.pivot=(mid,ap,d4):=⟨_,_,_,rfl⟩;obtain⟨r1,r2,r3,r4,r5,r6,r7⟩:=Go.Sort.round_part dR (Go.Sort.partition_holds ac) hpv.1 hpv.2 (show b1<=D.size by omega) B3 hx;have e5:=zc (g:=g) (sf:=sf) (gl:=gl) (gs:=gs) (N:=N) a1 b1 R.pivot D hpv.1 hpv.2 x2 z3;rw[hx] at e5;have z4:d4.size=N:=r3.trans z3;have w6:aq .i64 (((mid:Nat):Int)-(a1:Int))=((mid-a1:Nat):Int):=by rw[aj (by unfold aS;omega)];omega
   have w7:aq .i64 ((b1:Int)-((mid:Nat):Int))=((b1-mid:Nat):Int):=by rw[aj (by unfold aS;omega)];omega
   have w8:aq .i64 (((mid:Nat):Int)+1)=((mid+1:Nat):Int):=by rw[aj (by unfold aS;omega)];omega
   have w9:aq .i64 (((b1-a1:Nat):Int).tdiv 8)=(((b1-a1)/8:Nat):Int):=by rw[Rb (by omega),aj (by unfold aS;omega)];omega
   refine Sem.seq [(1,.x (.int .i64 ((a1:Nat):Int))),(2,.x (.int .i64 ((b1:Nat):Int))),(3,.x (.int .i64 ((R.lim:Nat):Int))),(4,.ptr 4 0),(8,.x (.bool wb)),(9,.x (.bool wp)),(10,.x (.int .i64 ((b1-a1:Nat):Int))),(14,.x (.int .i64 ((mid:Nat):Int))),(15,.x (.bool ap))] [(4,[.x (.func (.func g) #[] gl),.x (.func (.func sf) #[] gs)]),(1004,an d4)] (Sem.run hE ah (by kernel_rfl) (by simp +decide (maxDischargeDepth:=200) only[go_sem,X1,X2,X3,ay,e5])) ?_;refine Sem.seq [(1,.x (.int .i64 ((a1:Nat):Int))),(2,.x (.int .i64 ((b1:Nat):Int))),(3,.x (.int .i64 ((R.lim:Nat):Int))),(4,.ptr 4 0),(8,.x (.bool wb)),(9,.x (.bool ap)),(10,.x (.int .i64 ((b1-a1:Nat):Int))),(14,.x (.int .i64 ((mid:Nat):Int)))] [(4,[.x (.func (.func g) #[] gl),.x (.func (.func sf) #[] gs)]),(1004,an d4)] (Sem.run hE ah (by kernel_rfl) (by simp +decide (maxDischargeDepth:=200) only[go_sem,X1,X2,X3,ay])) ?_;refine Sem.seq [(1,.x (.int .i64 ((a1:Nat):Int))),(2,.x (.int .i64 ((b1:Nat):Int))),(3,.x (.int .i64 ((R.lim:Nat):Int))),(4,.ptr 4 0),(8,.x (.bool wb)),(9,.x (.bool ap)),(10,.x (.int .i64 ((b1-a1:Nat):Int))),(14,.x (.int .i64 ((mid:Nat):Int))),(16,.x (.int .i64 ((mid-a1:Nat):Int))),(17,.x (.int .i64 ((b1-mid:Nat):Int)))] [(4,[.x (.func (.func g) #[] gl),.x (.func (.func sf) #[] gs)]),(1004,an d4)] (Sem.run hE ah (by kernel_rfl) (by simp +decide (maxDischargeDepth:=200) only[go_sem,X1,X2,X3,ay,w6,w7])) ?_;refine Sem.seq [(1,.x (.int .i64 ((a1:Nat):Int))),(2,.x (.int .i64 ((b1:Nat):Int))),(3,.x (.int .i64 ((R.lim:Nat):Int))),(4,.ptr 4 0),(8,.x (.bool wb)),(9,.x (.bool ap)),(14,.x (.int .i64 ((mid:Nat):Int))),(16,.x (.int .i64 ((mid-a1:Nat):Int))),(17,.x (.int .i64 ((b1-mid:Nat):Int))),(18,.x (.int .i64 (((b1-a1)/8:Nat):Int)))] [(4,[.x (.func (.func g) #[] gl),.x (.func (.func sf) #[] gs)]),(1004,an d4)] (Sem.run hE ah (by kernel_rfl) (by simp +decide (maxDischargeDepth:=200) only[go_sem,X1,X2,X3,ay,w9])) ?_;by_cases h4:mid-a1<b1-mid
   . have c7:decide (((mid-a1:Nat):Int)<((b1-mid:Nat):Int))=true:=PD (by omega);have e8:decide ((((b1-a1)/8:Nat):Int)<=((mid-a1:Nat):Int))=decide (mid-a1≥(b1-a1)/8):=Su.2 ⟨fun h=>by omega,fun h=>by omega⟩;have e9:=mP (g:=g) (sf:=sf) (gl:=gl) (gs:=gs) (N:=N) n a1 mid R.lim d4 (by omega) r1 (by omega) (by omega) z4 r4;obtain⟨pL,sL⟩:=Go.Sort.pdq_sorts ac dR d4 a1 mid R.lim true true r1 (by omega) r4;have hf:=Go.Sort.pdq_left (lt:=ac) (wb:=wb) (wp:=wp) h12 hl0 (by rw[hR];exact hp2) (by rw[hR,hD];exact h87) (by rw[hR,hD,hx];exact⟨r1,r2⟩) (by rw[hR,hD,hx];exact h4);rw[hR,hD,hx,heq] at hf;simp only at hf;generalize hB8:decide (mid-a1≥(b1-a1)/8)=b8 at e8 hf;have z5:=pL.1.trans z4;have B5:=(r6 _ pL sL).1;generalize Go.Sort.pdq ac d4 a1 mid R.lim true true=d5 at e9 hf z5 B5;refine Sem.run hE ah (by kernel_rfl) ?_;simp +decide (maxDischargeDepth:=200) only[go_sem,X1,X2,X3,ay,c7,e8,e9,w8];refine⟨⟨(mid+1,b1,R.lim,b8,ap,d5),by simp only;omega,by simp only;omega,by simp only;omega,by simp only;omega,z5,B5,hf.symm⟩,?_,?_,by simp only;omega⟩<;>simp +decide only[go_sem]<;>(repeat' first|rfl|constructor)
   . have c7:decide (((mid-a1:Nat):Int)<((b1-mid:Nat):Int))=false:=PC (by omega);have e8:decide ((((b1-a1)/8:Nat):Int)<=((b1-mid:Nat):Int))=decide (b1-mid≥(b1-a1)/8):=Su.2 ⟨fun h=>by omega,fun h=>by omega⟩;have e9:=mP (g:=g) (sf:=sf) (gl:=gl) (gs:=gs) (N:=N) n (mid+1) b1 R.lim d4 (by omega) (by omega) (by omega) (by omega) z4 r5;obtain⟨pL,sL⟩:=Go.Sort.pdq_sorts ac dR d4 (mid+1) b1 R.lim true true (by omega) (by omega) r5;have hf:=Go.Sort.pdq_right (lt:=ac) (wb:=wb) (wp:=wp) h12 hl0 (by rw[hR];exact hp2) (by rw[hR,hD];exact h87) (by rw[hR,hD,hx];exact⟨r1,r2⟩) (by rw[hR,hD,hx];exact h4);rw[hR,hD,hx,heq] at hf;simp only at hf;generalize hB8:decide (b1-mid≥(b1-a1)/8)=b8 at e8 hf;have z5:=pL.1.trans z4;have B5:=(r7 _ pL sL).1;generalize Go.Sort.pdq ac d4 (mid+1) b1 R.lim true true=d5 at e9 hf z5 B5;refine Sem.run hE ah (by kernel_rfl) ?_;simp +decide (maxDischargeDepth:=200) only[go_sem,X1,X2,X3,ay,c7,e8,e9,w8];refine⟨⟨(a1,mid,R.lim,b8,ap,d5),by simp only;omega,by simp only;omega,by simp only;omega,by simp only;omega,z5,B5,hf.symm⟩,?_,?_,by simp only;omega⟩<;>simp +decide only[go_sem]<;>(repeat' first|rfl|constructor)
theorem FN (hS:SoOKS3 G bk N g sf gl gs) (hB:FunXVS3 G bk 46 [] (FE (bw g sf gl gs) (iW N))) (n:Nat):FunXVS3 G bk 27 [] (FE (cd g sf gl gs) (gR N n)):=by
 induction n with
 |zero=>intro m w vs us bs gs hs r outs hF;obtain⟨⟨a,b,l,d⟩,_,hG⟩:=aZ hF;unfold gR at hG;obtain⟨⟨h,_⟩,_⟩:=om hG;exact absurd h (Ro _)
 |succ n ih=>exact vb hS hB n ih
end Go.Proofs.Ytldnpcolhdnkdaa
