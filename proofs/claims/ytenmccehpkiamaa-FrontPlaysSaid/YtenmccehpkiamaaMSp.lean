/- Sorting by a function value: what the calls lean on, and what they are told. -/
import Derived.Test.YtenmccehpkiamaaMFr
import Derived.Test.YtenmccehpkiamaaMG
import Derived.Test.YtenmccehpkiamaaMS
import Derived.Sort.AssemblyPlain
import Derived.Sort.LotD4
import Derived.Sort.Walk13a
import Derived.Sort.LotD3
namespace Go.Proofs.Ytenmccehpkiamaa
set_option linter.unusedSimpArgs false
set_option maxHeartbeats 8000000
set_option maxRecDepth 100000
open Go Go.RowKit
open Go.Sort (swp)
attribute [go_sem] Try.results29 Try.results43 Try.results44 Try.results46 Try.results47 Try.results48 Try.results49 Try.results50 Try.results52 Try.results55 Try.results56 Try.results57
def ak (d:Array aJ):List V:=d.toList.flatMap fun p=>(ay p).cells
theorem pt:Tot ac:=⟨cf,fun _ _ _ h k=>pq h k,fun a b h k=>M9 fun n=>by have:=l0 h n;rw[k] at this;cases this⟩
theorem dm {a b:Array aJ} (h:ak a=ak b):a=b:=by
 have key:∀l l':List aJ,(l.flatMap fun p=>(ay p).cells)=(l'.flatMap fun p=>(ay p).cells)->l=l':=by
  intro l
  induction l with
  | nil=>
    intro l' h;cases l' with
    |nil=>rfl
    |cons p l'=>simp[ay,V.cells] at h
  | cons p l ih=>
    intro l' h;cases l' with
    |nil=>simp[ay,V.cells] at h
    | cons p' l'=>
      simp only[MM] at h;obtain⟨h1,h2⟩:=List.append_inj h (by simp[ay,V.cells]);have e:ay p=ay p':=by obtain⟨x,y,z⟩:=p;obtain⟨x',y',z'⟩:=p';simp only[ay,V.cells] at h1⊢;rw[h1]
      rw[kC e,ih _ h2]
 exact Mm.1 (key _ _ h)
abbrev bu (g sf:FuncId) (gl gs:Array Value):V:= .agg [.x (.func (.func g) #[] gl),.x (.func (.func sf) #[] gs)]
section
variable (g sf:FuncId) (gl gs:Array Value)
def en2S3 (x:Nat×Nat×Array aJ):List V:=[.x (.int .i64 (x.1:Int)),.x (.int .i64 (x.2.1:Int)),.bx (ak x.2.2)]
def bg (x:Nat×Nat×Array aJ):List V:=[bu g sf gl gs,.x (.int .i64 (x.1:Int)),.x (.int .i64 (x.2.1:Int)),.bx (ak x.2.2)]
def bJ (x:Nat×Nat×Nat×Array aJ):List V:=[bu g sf gl gs,.x (.int .i64 (x.1:Int)),.x (.int .i64 (x.2.1:Int)),.x (.int .i64 (x.2.2.1:Int)),.bx (ak x.2.2.2)]
def gK (x:Nat×Nat×Nat×Array aJ):List V:=[bu g sf gl gs,.x (.int .i64 (x.1:Int)),.x (.int .i64 (x.2.1:Int)),.bx [.x (.int .i64 (x.2.2.1:Int))],.bx (ak x.2.2.2)]
def gL (x:Nat×Nat×Array aJ):List V:=[bu g sf gl gs,.x (.int .i64 (x.1:Int)),.bx [.x (.int .i64 (x.2.1:Int))],.bx (ak x.2.2)]
def fO (x:Nat×Nat×Nat×Nat×Array aJ):List V:=[bu g sf gl gs,.x (.int .i64 (x.1:Int)),.x (.int .i64 (x.2.1:Int)),.x (.int .i64 (x.2.2.1:Int)),.bx [.x (.int .i64 (x.2.2.2.1:Int))],.bx (ak x.2.2.2.2)]
end
theorem l6 (x y:Nat×Nat×Array aJ) (h:en2S3 x=en2S3 y):x=y:=by obtain⟨a,b,d⟩:=x;obtain⟨a',b',d'⟩:=y;simp only[en2S3,Nk,V.x.injEq,Value.int.injEq,V.bx.injEq,On,Oc,NP] at h;obtain⟨rfl,rfl,h⟩:=h;rw[dm h]
section
variable {g sf:FuncId} {gl gs:Array Value}
theorem dn (x y:Nat×Nat×Array aJ) (h:bg g sf gl gs x=bg g sf gl gs y):x=y:=by obtain⟨a,b,d⟩:=x;obtain⟨a',b',d'⟩:=y;simp only[bg,Nk,V.x.injEq,Value.int.injEq,V.bx.injEq,On,Oc,NP] at h;obtain⟨rfl,rfl,h⟩:=h;rw[dm h]
theorem eY (x y:Nat×Nat×Nat×Array aJ) (h:bJ g sf gl gs x=bJ g sf gl gs y):x=y:=by obtain⟨a,b,c,d⟩:=x;obtain⟨a',b',c',d'⟩:=y;simp only[bJ,Nk,V.x.injEq,Value.int.injEq,V.bx.injEq,On,Oc,NP] at h;obtain⟨rfl,rfl,rfl,h⟩:=h;rw[dm h]
theorem sc (x y:Nat×Nat×Nat×Array aJ) (h:gK g sf gl gs x=gK g sf gl gs y):x=y:=by obtain⟨a,b,c,d⟩:=x;obtain⟨a',b',c',d'⟩:=y;simp only[gK,Nk,V.x.injEq,Value.int.injEq,V.bx.injEq,On,Oc,NP] at h;obtain⟨rfl,rfl,rfl,h⟩:=h;rw[dm h]
theorem sd (x y:Nat×Nat×Array aJ) (h:gL g sf gl gs x=gL g sf gl gs y):x=y:=by obtain⟨a,c,d⟩:=x;obtain⟨a',c',d'⟩:=y;simp only[gL,Nk,V.x.injEq,Value.int.injEq,V.bx.injEq,On,Oc,NP] at h;obtain⟨rfl,rfl,h⟩:=h;rw[dm h]
theorem se (x y:Nat×Nat×Nat×Nat×Array aJ) (h:fO g sf gl gs x=fO g sf gl gs y):x=y:=by obtain⟨a,b,e,c,d⟩:=x;obtain⟨a',b',e',c',d'⟩:=y;simp only[fO,Nk,V.x.injEq,Value.int.injEq,V.bx.injEq,On,Oc,NP] at h;obtain⟨rfl,rfl,rfl,rfl,h⟩:=h;rw[dm h]
end
theorem aP (d:Array aJ) (i j:Nat):(swp d i j).size=d.size:=by simp[swp]
abbrev MXS3:Nat:=1000000
def GLessS3 (N:Nat) (x:Nat×Nat×Array aJ):Option (V×List (List V)):=if x.1<N∧x.2.1<N∧x.2.2.size=N then some (.x (.bool (ac x.2.2[x.1]! x.2.2[x.2.1]!)),[ak x.2.2]) else none
def GSwpS3 (N:Nat) (x:Nat×Nat×Array aJ):Option (V×List (List V)):=if x.1<N∧x.2.1<N∧x.2.2.size=N then some (.tup [],[ak (swp x.2.2 x.1 x.2.1)]) else none
def FunXVS3 (G:Nat->V) (bk:Nat) (f:FuncId) (lb:List Value) (F:List V->Option (V×List (List V))):Prop:=FunX (cL G (fun _ _=>none) 0) bk f lb F
structure SoOKS3 (G:Nat->V) (bk N:Nat) (g sf:FuncId) (gl gs:Array Value):Prop where
 gl0:gl.toList≠[]
 gs0:gs.toList≠[]
 ne:g≠sf
 N1:N<=MXS3
 less:FunXVS3 G bk g gl.toList (FE en2S3 (GLessS3 N))
 swap:FunXVS3 G bk sf gs.toList (FE en2S3 (GSwpS3 N))
def sg (G:Nat->V) (bk:Nat):List (Nat×(List V->Option (V×List (List V))))->Prop
 |[]=>True
 |p::l=>FunXVS3 G bk p.1 [] p.2∧sg G bk l
section
variable {G:Nat->V} {bk N:Nat} {g sf:FuncId} {gl gs:Array Value}
theorem cQ (hS:SoOKS3 G bk N g sf gl gs) (l:List (Nat×(List V->Option (V×List (List V))))) (hl:sg G bk l):∃X:FuncId->List Value->Option (List V->Option (V×List (List V))),(∀f lb F,X f lb=some F->FunXVS3 G bk f lb F)∧X g gl.toList=some (FE en2S3 (GLessS3 N))∧X sf gs.toList=some (FE en2S3 (GSwpS3 N))∧∀f,X f []=aW l f:=by
 classical
 refine⟨fun f lb=>if lb=[] then aW l f else if f=g∧lb=gl.toList then some (FE en2S3 (GLessS3 N)) else if f=sf∧lb=gs.toList then some (FE en2S3 (GSwpS3 N)) else none,fun f lb F h=>?_,?_,?_,fun f=>L0 rfl⟩
 . by_cases h0:lb=[]
   . simp only[h0,MH] at h⊢;have key:∀l,sg G bk l->aW l f=some F->FunXVS3 G bk f [] F:=by
      intro l
      induction l with
      |nil=>intro _ h;cases h
      | cons p l ih=>
        intro q hF;simp only[aW] at hF;split at hF
        . rename_i e;cases hF;exact e▸q.1
        . exact ih q.2 hF
     exact key l hl h
   . simp only[h0,ML] at h;split at h
     . rename_i e;cases h;rw[e.1,e.2];exact hS.less
     . split at h
       . rename_i e;cases h;rw[e.1,e.2];exact hS.swap
       . cases h
 . simp only[hS.gl0,ML,and_self,MH]
 . simp only[hS.gs0,ML,and_self,MH];rw[L1 (fun e=>hS.ne e.1.symm)]
theorem bc (i j:Nat) (d:Array aJ) (hi:i<N) (hj:j<N) (hd:d.size=N):FE en2S3 (GLessS3 N) [.x (.int .i64 (i:Int)),.x (.int .i64 (j:Int)),.bx (ak d)]=some (.x (.bool (ac d[i]! d[j]!)),[ak d]):=
 (c9 l6 (GLessS3 N) (i,j,d)).trans (L0 ⟨hi,hj,hd⟩)
theorem bA (i j:Nat) (d:Array aJ) (hi:i<N) (hj:j<N) (hd:d.size=N):FE en2S3 (GSwpS3 N) [.x (.int .i64 (i:Int)),.x (.int .i64 (j:Int)),.bx (ak d)]=some (.tup [],[ak (swp d i j)]):=
 (c9 l6 (GSwpS3 N) (i,j,d)).trans (L0 ⟨hi,hj,hd⟩)
end
variable {G:Nat->V} {X:FuncId->List Value->Option (List V->Option (V×List (List V)))} {f:FuncId} {fn:Func} {c:Code} {F:List V->Option (V×List (List V))} {k n bk:Nat}
theorem dX (hX:∀f lb F,X f lb=some F->FunXVS3 G bk f lb F) (hf:Try.prog.funcs[f]?=some fn) (hb:fn.body=some c)
 (hcall:∀args w,(callFunc f args).run Try.prog w= .ok (.enter f args) w) (hn:fn.ntmps=n) (hok:bV (fun _=>false) n c=true) (hk:k<n) (hn1:n<=1000)
 (hrun:∀us r outs,F us=some (r,outs)->∃cs,us.length=k+1∧us[k]?=some (.bx cs)∧run (cL G X (1000+k)) c ⟨au (cJ us).t k .undef,(cJ us).b⟩ (wV (cL G X (1000+k)) fn.results.toList us r outs)):FunXVS3 G bk f [] F:=by
 refine oc (E:=cL G X (1000+k)) (n:=n) (fun pm bk' h1 h2=>s9 G X (1000+k) (by omega) pm bk' h1 h2) (fun _ _=>rfl) (by kernel_rfl) hf hb hcall hn hok hk hn1 rfl hX (fun us r outs hF=>?_);obtain⟨cs,h1,h2,h3⟩:=hrun us r outs hF;refine⟨cs,h1,h2,_,Le.refl _,n8 (fun o st hk=>?_) h3⟩;cases o with
 |exit id=>exact hk
 |normal=>exact⟨.inr hk.1,hk.2⟩
 |ret=>exact⟨.inr hk.1,hk.2⟩
theorem bh (hX:∀f lb F,X f lb=some F->FunXVS3 G bk f lb F) (hf:Try.prog.funcs[f]?=some fn) (hb:fn.body=some c)
 (hcall:∀args w,(callFunc f args).run Try.prog w= .ok (.enter f args) w) (hn:fn.ntmps=n) (hk:k<n) (hn1:n<=1000)
 (hrun:∀us r outs,F us=some (r,outs)->∃cs,us.length=k+1∧us[k]?=some (.bx cs)∧∀pm m0 w0,EnvX (cL G X (1000+k)) pm->Sem (cL G X (1000+k)) n pm m0 w0 c ⟨au (cJ us).t k .undef,(cJ us).b⟩ (wV (cL G X (1000+k)) fn.results.toList us r outs)):FunXVS3 G bk f [] F:=by
 refine rt (E:=cL G X (1000+k)) (n:=n) (fun pm bk' h1 h2=>s9 G X (1000+k) (by omega) pm bk' h1 h2) (fun _ _=>rfl) (by kernel_rfl) hf hb hcall hn hk hn1 rfl hX (fun us r outs hF=>?_);obtain⟨cs,h1,h2,h3⟩:=hrun us r outs hF;refine⟨cs,h1,h2,fun pm m0 w0 hE=>Sem.mono (h3 pm m0 w0 hE) (fun o st hk=>?_)⟩;cases o with
 |exit id=>exact hk
 |normal=>exact⟨.inr hk.1,hk.2⟩
 |ret=>exact⟨.inr hk.1,hk.2⟩
theorem ae:Try.prog.follows .mixedOrders=true:=by kernel_rfl
def kH (N:Nat) (x:Nat×Nat×Array aJ):Option (V×List (List V)):=if x.1<=x.2.1∧x.2.1<=N∧x.2.2.size=N then some (.tup [],[ak (Go.Sort.insertionSort ac x.2.2 x.1 x.2.1)]) else none
variable {a:Nat} {d:Array aJ}
theorem jr {j:Nat} (h: ¬a<j):Go.Sort.insInner ac a j d=d:=by
 cases j with
 |zero=>rfl
 |succ j=>rw[Go.Sort.insInner];simp;intro h1;omega
variable {N:Nat} {g sf:FuncId} {gl gs:Array Value}
theorem Ci (hS:SoOKS3 G bk N g sf gl gs):FunXVS3 G bk 43 [] (FE (bg g sf gl gs) (kH N)):=by
 obtain⟨X,hX,X1,X2,X3⟩:=cQ hS [] trivial;have hN:=hS.N1;unfold MXS3 at hN;refine dX (k:=3) hX Try.func43 rfl (fun a w=>Try.call43 a w) Try.ntmps43 (by kernel_rfl) (by decide) (by decide) ?_;clear hX;intro us r outs hF;obtain⟨⟨a,b,d⟩,hus,hG⟩:=bX hF;clear hF;subst hus;unfold kH at hG;obtain⟨⟨hab,hbN,hd⟩,hG⟩:=bm hG;simp only at hab hbN hd;cases hG;refine⟨_,rfl,rfl,?_⟩;simp only[bg];have w1:av .i64 ((a:Int)+1)=((a+1:Nat):Int):=by rw[am (by unfold bS;omega)];omega
 simp +decide (maxDischargeDepth:=200) only[go_sem,X1,X2,X3,aW,w1];refine ee (X:={x:Nat×Array aJ//a+1<=x.1∧x.1<=N+1∧x.2.size=N∧Go.Sort.insOuter ac a b x.1 x.2=Go.Sort.insertionSort ac d a b}) (fun x=>[(1,.x (.int .i64 (a:Int))),(2,.x (.int .i64 (b:Int))),(3,.ptr 3 0),(6,.x (.int .i64 (x.1.1:Int)))]) (fun x=>[(3,[.x (.func (.func g) #[] gl),.x (.func (.func sf) #[] gs)]),(1003,ak x.1.2)]) (fun x=>b-x.1.1) ⟨(a+1,d),by omega,by omega,hd,rfl⟩ (by simp +decide only[go_sem]<;>(repeat' first|rfl|constructor)) (by simp +decide only[go_sem]<;>(repeat' first|rfl|constructor)) (fun⟨⟨i,dk⟩,hi1,hi2,hdk,heq⟩=>?_);simp only at hi1 hi2 hdk heq;by_cases hi:i<b
 . have c1:decide ((i:Int)<(b:Int))=true:=LP (by omega);rw[Go.Sort.insOuter,L0 hi] at heq;have w2:av .i64 ((i:Int)+1)=((i+1:Nat):Int):=by rw[am (by unfold bS;omega)];omega
   simp +decide (maxDischargeDepth:=200) only[go_sem,X1,X2,X3,aW,c1];refine ee (X:={y:Nat×Array aJ//a<=y.1∧y.1<=i∧y.2.size=N∧Go.Sort.insInner ac a y.1 y.2=Go.Sort.insInner ac a i dk}) (fun y=>[(1,.x (.int .i64 (a:Int))),(2,.x (.int .i64 (b:Int))),(3,.ptr 3 0),(6,.x (.int .i64 (i:Int))),(7,.x (.int .i64 (y.1.1:Int)))]) (fun y=>[(3,[.x (.func (.func g) #[] gl),.x (.func (.func sf) #[] gs)]),(1003,ak y.1.2)]) (fun y=>y.1.1) ⟨(i,dk),by omega,by omega,hdk,rfl⟩ (by simp +decide only[go_sem]<;>(repeat' first|rfl|constructor)) (by simp +decide only[go_sem]<;>(repeat' first|rfl|constructor)) (fun⟨⟨j,dj⟩,hj1,hj2,hdj,hej⟩=>?_);simp only at hj1 hj2 hdj hej;by_cases hj:a<j
   . obtain⟨k,rfl⟩:∃k,j=k+1:=⟨j-1,by omega⟩;have q1:decide ((a:Int)<((k+1:Nat):Int))=true:=LP (by omega);have q2:av .i64 (((k+1:Nat):Int)-1)=((k:Nat):Int):=by rw[am (by unfold bS;omega)];omega
     have l1:=bc (N:=N) (k+1) k dj (by omega) (by omega) hdj;have s1:=bA (N:=N) (k+1) k dj (by omega) (by omega) hdj;rw[Go.Sort.insInner] at hej;cases hl:ac dj[k+1]! dj[k]! with
     |false=>rw[hl] at l1 hej;simp only[Bool.and_false,Mq,ML] at hej;simp +decide (maxDischargeDepth:=200) only[go_sem,X1,X2,X3,aW,q1,q2,w2,l1];refine⟨⟨(i+1,dj),by omega,by omega,hdj,by rw[hej];exact heq⟩,?_,?_,by simp only;omega⟩<;>simp +decide only[go_sem]<;>(repeat' first|rfl|constructor)
     |true=>rw[hl] at l1 hej;simp only[Ns,Mi,Oo,hj,MH] at hej;simp +decide (maxDischargeDepth:=200) only[go_sem,X1,X2,X3,aW,q1,q2,w2,l1,s1];refine⟨⟨(k,swp dj (k+1) k),by omega,by omega,by rw[aP];exact hdj,hej⟩,?_,?_,by simp only;omega⟩<;>simp +decide only[go_sem]<;>(repeat' first|rfl|constructor)
   . have q1:decide ((a:Int)<((j:Nat):Int))=false:=LO (by omega);rw[jr hj] at hej;simp +decide (maxDischargeDepth:=200) only[go_sem,X1,X2,X3,aW,q1,w2];refine⟨⟨(i+1,dj),by omega,by omega,hdj,by rw[hej];exact heq⟩,?_,?_,by simp only;omega⟩<;>simp +decide only[go_sem]<;>(repeat' first|rfl|constructor)
 . have c1:decide ((i:Int)<(b:Int))=false:=LO (by omega);rw[Go.Sort.insOuter,L1 hi] at heq;subst heq;simp +decide (maxDischargeDepth:=200) only[go_sem,X1,X2,X3,aW,c1]
def ga (N:Nat) (x:Nat×Nat×Nat×Array aJ):Option (V×List (List V)):=if x.1<=N∧x.2.2.1+x.2.1<=N∧x.2.2.2.size=N then some (.tup [],[ak (Go.Sort.siftDown ac x.2.1 x.2.2.1 x.1 x.2.2.2)]) else none
def ij (N:Nat) (x:Nat×Nat×Array aJ):Option (V×List (List V)):=if x.1<=x.2.1∧x.2.1<=N∧x.2.2.size=N then some (.tup [],[ak (Go.Sort.heapSort ac x.2.2 x.1 x.2.1)]) else none
section
variable {hi F r:Nat} {d:Array aJ}
theorem iM (h: ¬2*r+1<hi):Go.Sort.siftDown ac hi F r d=d:=by rw[Go.Sort.siftDown,dif_pos (by omega)]
theorem zC (h:2*r+2<hi) (h1:ac d[F+(2*r+1)]! d[F+(2*r+1)+1]! =true):Go.Sort.siftDown ac hi F r d=if ac d[F+r]! d[F+(2*r+2)]! =true then Go.Sort.siftDown ac hi F (2*r+2) (swp d (F+r) (F+(2*r+2))) else d:=by
 rw[Go.Sort.siftDown,dif_neg (by omega)];have e:(decide (2*r+1+1<hi)&&ac d[F+(2*r+1)]! d[F+(2*r+1)+1]!)=true:=by rw[h1,Ns];exact LP (by omega)
 rw[L0 e];cases ac d[F+r]! d[F+(2*r+2)]! <;>simp[h]
theorem sh (h0:2*r+1<hi) (h1: ¬(2*r+2<hi∧ac d[F+(2*r+1)]! d[F+(2*r+1)+1]! =true)):Go.Sort.siftDown ac hi F r d=if ac d[F+r]! d[F+(2*r+1)]! =true then Go.Sort.siftDown ac hi F (2*r+1) (swp d (F+r) (F+(2*r+1))) else d:=by
 rw[Go.Sort.siftDown,dif_neg (by omega)];have e: ¬(decide (2*r+1+1<hi)&&ac d[F+(2*r+1)]! d[F+(2*r+1)+1]!)=true:=by intro e;rw[LR,Mi] at e;exact h1 ⟨by omega,e.2⟩
 rw[L1 e];cases ac d[F+r]! d[F+(2*r+1)]! <;>simp
end
theorem l7 (hi F:Nat):∀(n r:Nat) (d:Array aJ),hi-r<=n->(Go.Sort.siftDown ac hi F r d).size=d.size:=by
 intro n
 induction n with
 |zero=>intro r d h;rw[iM (by omega)]
 | succ n ih=>
   intro r d h;by_cases h0:2*r+1<hi
   . by_cases h1:2*r+2<hi∧ac d[F+(2*r+1)]! d[F+(2*r+1)+1]! =true
     . rw[zC h1.1 h1.2];split
       . rw[ih _ _ (by omega),aP]
       . rfl
     . rw[sh h0 h1];split
       . rw[ih _ _ (by omega),aP]
       . rfl
   . rw[iM h0]
theorem zD (hS:SoOKS3 G bk N g sf gl gs):FunXVS3 G bk 52 [] (FE (bJ g sf gl gs) (ga N)):=by
 obtain⟨X,hX,X1,X2,X3⟩:=cQ hS [] trivial;have hN:=hS.N1;unfold MXS3 at hN;refine dX (k:=4) hX Try.func52 rfl (fun a w=>Try.call52 a w) Try.ntmps52 (by kernel_rfl) (by decide) (by decide) ?_;clear hX;intro us r outs hF;obtain⟨⟨lo,hi,F,d⟩,hus,hG⟩:=bX hF;clear hF;subst hus;unfold ga at hG;obtain⟨⟨hlo,hFh,hd⟩,hG⟩:=bm hG;simp only at hlo hFh hd;cases hG;refine⟨_,rfl,rfl,?_⟩;simp only[bJ];simp +decide (maxDischargeDepth:=200) only[go_sem,X1,X2,X3,aW];refine ee (X:={x:Nat×Array aJ//x.1<=N∧x.2.size=N∧Go.Sort.siftDown ac hi F x.1 x.2=Go.Sort.siftDown ac hi F lo d}) (fun x=>[(1,.x (.int .i64 (lo:Int))),(2,.x (.int .i64 (hi:Int))),(3,.x (.int .i64 (F:Int))),(4,.ptr 4 0),(8,.x (.int .i64 (x.1.1:Int)))]) (fun x=>[(4,[.x (.func (.func g) #[] gl),.x (.func (.func sf) #[] gs)]),(1004,ak x.1.2)]) (fun x=>hi-x.1.1) ⟨(lo,d),by omega,hd,rfl⟩ (by simp +decide only[go_sem]<;>(repeat' first|rfl|constructor)) (by simp +decide only[go_sem]<;>(repeat' first|rfl|constructor)) (fun⟨⟨r,dk⟩,hr,hdk,heq⟩=>?_);simp only at hr hdk heq;have p1:av .i64 (2*((r:Nat):Int))=((2*r:Nat):Int):=by rw[am (by unfold bS;omega)];omega
 have p2:av .i64 (((2*r:Nat):Int)+1)=((2*r+1:Nat):Int):=by rw[am (by unfold bS;omega)];omega
 by_cases h0:2*r+1<hi
 . have c1:decide (((hi:Nat):Int)<=((2*r+1:Nat):Int))=false:=LO (by omega);have p3:av .i64 (((2*r+1:Nat):Int)+1)=((2*r+2:Nat):Int):=by rw[am (by unfold bS;omega)];omega
   by_cases h1:2*r+2<hi
   . have c2:decide (((2*r+2:Nat):Int)<((hi:Nat):Int))=true:=LP (by omega);have p4:av .i64 ((F:Int)+((2*r+1:Nat):Int))=((F+(2*r+1):Nat):Int):=by rw[am (by unfold bS;omega)];omega
     have p5:av .i64 (((F+(2*r+1):Nat):Int)+1)=((F+(2*r+1)+1:Nat):Int):=by rw[am (by unfold bS;omega)];omega
     have l1:=bc (N:=N) (F+(2*r+1)) (F+(2*r+1)+1) dk (by omega) (by omega) hdk;cases hl:ac dk[F+(2*r+1)]! dk[F+(2*r+1)+1]! with
     | true=>
       rw[zC h1 hl] at heq;rw[hl] at l1;have p6:av .i64 ((F:Int)+((r:Nat):Int))=((F+r:Nat):Int):=by rw[am (by unfold bS;omega)];omega
       have p7:av .i64 ((F:Int)+((2*r+2:Nat):Int))=((F+(2*r+2):Nat):Int):=by rw[am (by unfold bS;omega)];omega
       have l2:=bc (N:=N) (F+r) (F+(2*r+2)) dk (by omega) (by omega) hdk;have s2:=bA (N:=N) (F+r) (F+(2*r+2)) dk (by omega) (by omega) hdk;cases hl2:ac dk[F+r]! dk[F+(2*r+2)]! with
       |false=>rw[hl2] at l2 heq;simp only[Mq,ML] at heq;subst heq;simp +decide (maxDischargeDepth:=200) only[go_sem,X1,X2,X3,aW,p1,p2,c1,p3,p4,p5,c2,l1,p6,p7,l2]
       |true=>rw[hl2] at l2 heq;simp only[MH] at heq;simp +decide (maxDischargeDepth:=200) only[go_sem,X1,X2,X3,aW,p1,p2,c1,p3,p4,p5,c2,l1,p6,p7,l2,s2];refine⟨⟨(2*r+2,swp dk (F+r) (F+(2*r+2))),by omega,by rw[aP];exact hdk,heq⟩,?_,?_,by simp only;omega⟩<;>simp +decide only[go_sem]<;>(repeat' first|rfl|constructor)
     | false=>
       rw[sh h0 (by rw[hl];simp)] at heq;rw[hl] at l1;have p6:av .i64 ((F:Int)+((r:Nat):Int))=((F+r:Nat):Int):=by rw[am (by unfold bS;omega)];omega
       have p7:av .i64 ((F:Int)+((2*r+1:Nat):Int))=((F+(2*r+1):Nat):Int):=by rw[am (by unfold bS;omega)];omega
       have l2:=bc (N:=N) (F+r) (F+(2*r+1)) dk (by omega) (by omega) hdk;have s2:=bA (N:=N) (F+r) (F+(2*r+1)) dk (by omega) (by omega) hdk;cases hl2:ac dk[F+r]! dk[F+(2*r+1)]! with
       |false=>rw[hl2] at l2 heq;simp only[Mq,ML] at heq;subst heq;simp +decide (maxDischargeDepth:=200) only[go_sem,X1,X2,X3,aW,p1,p2,c1,p3,p4,p5,c2,l1,p6,p7,l2]
       |true=>rw[hl2] at l2 heq;simp only[MH] at heq;simp +decide (maxDischargeDepth:=200) only[go_sem,X1,X2,X3,aW,p1,p2,c1,p3,p4,p5,c2,l1,p6,p7,l2,s2];refine⟨⟨(2*r+1,swp dk (F+r) (F+(2*r+1))),by omega,by rw[aP];exact hdk,heq⟩,?_,?_,by simp only;omega⟩<;>simp +decide only[go_sem]<;>(repeat' first|rfl|constructor)
   . have c2:decide (((2*r+2:Nat):Int)<((hi:Nat):Int))=false:=LO (by omega);rw[sh h0 (by omega)] at heq;have p6:av .i64 ((F:Int)+((r:Nat):Int))=((F+r:Nat):Int):=by rw[am (by unfold bS;omega)];omega
     have p7:av .i64 ((F:Int)+((2*r+1:Nat):Int))=((F+(2*r+1):Nat):Int):=by rw[am (by unfold bS;omega)];omega
     have l2:=bc (N:=N) (F+r) (F+(2*r+1)) dk (by omega) (by omega) hdk;have s2:=bA (N:=N) (F+r) (F+(2*r+1)) dk (by omega) (by omega) hdk;cases hl2:ac dk[F+r]! dk[F+(2*r+1)]! with
     |false=>rw[hl2] at l2 heq;simp only[Mq,ML] at heq;subst heq;simp +decide (maxDischargeDepth:=200) only[go_sem,X1,X2,X3,aW,p1,p2,c1,p3,c2,p6,p7,l2]
     |true=>rw[hl2] at l2 heq;simp only[MH] at heq;simp +decide (maxDischargeDepth:=200) only[go_sem,X1,X2,X3,aW,p1,p2,c1,p3,c2,p6,p7,l2,s2];refine⟨⟨(2*r+1,swp dk (F+r) (F+(2*r+1))),by omega,by rw[aP];exact hdk,heq⟩,?_,?_,by simp only;omega⟩<;>simp +decide only[go_sem]<;>(repeat' first|rfl|constructor)
 . have c1:decide (((hi:Nat):Int)<=((2*r+1:Nat):Int))=true:=LP (by omega);rw[iM h0] at heq;subst heq;simp +decide (maxDischargeDepth:=200) only[go_sem,X1,X2,X3,aW,p1,p2,c1]
theorem l8 (lo hi F:Nat) (d:Array aJ) (h1:lo<=N) (h2:F+hi<=N) (h3:d.size=N):FE (bJ g sf gl gs) (ga N) [bu g sf gl gs,.x (.int .i64 (lo:Int)),.x (.int .i64 (hi:Int)),.x (.int .i64 (F:Int)),.bx (ak d)]=some (.tup [],[ak (Go.Sort.siftDown ac hi F lo d)]):=
 (c9 eY (ga N) (lo,hi,F,d)).trans (L0 ⟨h1,h2,h3⟩)
theorem si (hi F:Nat) (d:Array aJ) (h2:F+hi<=N) (h3:d.size=N):FE (bJ g sf gl gs) (ga N) [bu g sf gl gs,.x (.int .i64 0),.x (.int .i64 (hi:Int)),.x (.int .i64 (F:Int)),.bx (ak d)]=some (.tup [],[ak (Go.Sort.siftDown ac hi F 0 d)]):=l8 0 hi F d (LQ _) h2 h3
theorem zE (n:Nat) (h:n<=1000000):av .i64 (av .i64 ((n:Int)-1)|>.tdiv 2)=((((n-1)/2+1:Nat)):Int)-1:=by
 have e0:av .i64 ((n:Int)-1)=(n:Int)-1:=am (by unfold bS;omega);rw[e0];have e:((n:Int)-1).tdiv 2=((((n-1)/2+1:Nat)):Int)-1:=by
  cases n with
  |zero=>decide
  |succ n=>rw[show((n+1:Nat):Int)-1=((n:Nat):Int) from by omega,NR (by omega)];omega
 rw[e];exact am (by unfold bS;omega)
theorem zF (hS:SoOKS3 G bk N g sf gl gs):FunXVS3 G bk 44 [] (FE (bg g sf gl gs) (ij N)):=by
 obtain⟨X,hX,X1,X2,X3⟩:=cQ hS [(52,FE (bJ g sf gl gs) (ga N))] ⟨zD hS,trivial⟩;have hN:=hS.N1;unfold MXS3 at hN;refine dX (k:=3) hX Try.func44 rfl (fun a w=>Try.call44 a w) Try.ntmps44 (by kernel_rfl) (by decide) (by decide) ?_;clear hX;intro us r outs hF;obtain⟨⟨a,b,d⟩,hus,hG⟩:=bX hF;clear hF;subst hus;unfold ij at hG;obtain⟨⟨hab,hbN,hd⟩,hG⟩:=bm hG;simp only at hab hbN hd;cases hG;refine⟨_,rfl,rfl,?_⟩;simp only[bg];have w1:av .i64 ((b:Int)-(a:Int))=((b-a:Nat):Int):=by rw[am (by unfold bS;omega)];omega
 have w2:=zE (b-a) (by omega);simp +decide (maxDischargeDepth:=200) only[go_sem,X1,X2,X3,aW,w1,w2];refine ee (X:={x:Nat×Array aJ//x.1<=N+1∧x.2.size=N∧Go.Sort.heapPop ac a (b-a) (Go.Sort.heapBuild ac (b-a) a x.1 x.2)=Go.Sort.heapSort ac d a b}) (fun x=>[(1,.x (.int .i64 (a:Int))),(2,.x (.int .i64 (b:Int))),(3,.ptr 3 0),(6,.x (.int .i64 (a:Int))),(7,.x (.int .i64 0)),(8,.x (.int .i64 ((b-a:Nat):Int))),(9,.x (.int .i64 ((x.1.1:Int)-1)))]) (fun x=>[(3,[.x (.func (.func g) #[] gl),.x (.func (.func sf) #[] gs)]),(1003,ak x.1.2)]) (fun x=>x.1.1) ⟨((b-a-1)/2+1,d),by simp only;omega,hd,rfl⟩ (by simp +decide only[go_sem]<;>(repeat' first|rfl|constructor)) (by simp +decide only[go_sem]<;>(repeat' first|rfl|constructor)) (fun⟨⟨k,dk⟩,hk,hdk,heq⟩=>?_);simp only at hk hdk heq;cases k with
 | succ k=>
   have c1:decide ((0:Int)<=((k+1:Nat):Int)-1)=true:=LP (by omega);have e1:((k+1:Nat):Int)-1=((k:Nat):Int):=by omega
   have e2:av .i64 ((k:Int)-1)=(k:Int)-1:=am (by unfold bS;omega);have s1:=l8 (g:=g) (sf:=sf) (gl:=gl) (gs:=gs) (N:=N) k (b-a) a dk (by omega) (by omega) hdk;rw[Go.Sort.heapBuild] at heq;rw[e1] at c1⊢;simp +decide (maxDischargeDepth:=200) only[go_sem,X1,X2,X3,aW,c1,e2,s1];refine⟨⟨(k,Go.Sort.siftDown ac (b-a) a k dk),by simp only;omega,by rw[l7 _ _ _ _ _ (LM _)];exact hdk,heq⟩,?_,?_,by simp only;omega⟩<;>simp +decide only[go_sem]<;>(repeat' first|rfl|constructor)
 | zero=>
   have c1:decide ((0:Int)<=((0:Nat):Int)-1)=false:=LO (by omega);rw[Go.Sort.heapBuild] at heq;have e2:av .i64 (((b-a:Nat):Int)-1)=((b-a:Nat):Int)-1:=am (by unfold bS;omega);simp +decide (maxDischargeDepth:=200) only[go_sem,X1,X2,X3,aW,c1,e2];refine ee (X:={x:Nat×Array aJ//x.1<=b-a∧x.2.size=N∧Go.Sort.heapPop ac a x.1 x.2=Go.Sort.heapSort ac d a b}) (fun x=>[(1,.x (.int .i64 (a:Int))),(2,.x (.int .i64 (b:Int))),(3,.ptr 3 0),(6,.x (.int .i64 (a:Int))),(7,.x (.int .i64 0)),(8,.x (.int .i64 ((b-a:Nat):Int))),(10,.x (.int .i64 ((x.1.1:Int)-1)))]) (fun x=>[(3,[.x (.func (.func g) #[] gl),.x (.func (.func sf) #[] gs)]),(1003,ak x.1.2)]) (fun x=>x.1.1) ⟨(b-a,dk),by simp only;omega,hdk,heq⟩ (by simp +decide only[go_sem]<;>(repeat' first|rfl|constructor)) (by simp +decide only[go_sem]<;>(repeat' first|rfl|constructor)) (fun⟨⟨k,dk⟩,hk,hdk,heq⟩=>?_);simp only at hk hdk heq;clear c1;cases k with
   | succ k=>
     have c1:decide ((0:Int)<=((k+1:Nat):Int)-1)=true:=LP (by omega);have e1:((k+1:Nat):Int)-1=((k:Nat):Int):=by omega
     have e3:av .i64 ((k:Int)-1)=(k:Int)-1:=am (by unfold bS;omega);have e4:av .i64 ((a:Int)+(k:Int))=((a+k:Nat):Int):=by rw[am (by unfold bS;omega)];omega
     have t1:=bA (N:=N) a (a+k) dk (by omega) (by omega) hdk;have s1:=si (g:=g) (sf:=sf) (gl:=gl) (gs:=gs) (N:=N) k a (swp dk a (a+k)) (by omega) (by rw[aP];exact hdk);rw[Go.Sort.heapPop] at heq;rw[e1] at c1⊢;simp +decide (maxDischargeDepth:=200) only[go_sem,X1,X2,X3,aW,c1,e3,e4,t1,s1];refine⟨⟨(k,Go.Sort.siftDown ac k a 0 (swp dk a (a+k))),by simp only;omega,by rw[l7 _ _ _ _ _ (LM _),aP];exact hdk,heq⟩,?_,?_,by simp only;omega⟩<;>simp +decide only[go_sem]<;>(repeat' first|rfl|constructor)
   |zero=>have c1:decide ((0:Int)<=((0:Nat):Int)-1)=false:=LO (by omega);rw[Go.Sort.heapPop] at heq;subst heq;simp +decide (maxDischargeDepth:=200) only[go_sem,X1,X2,X3,aW,c1]
section
variable {p:aJ->Bool} {d:Array aJ}
theorem gb {i j:Nat} (h:i<=j) (hp:p d[i]! =true):Go.Sort.scanUp p d j i=Go.Sort.scanUp p d j (i+1):=by rw[Go.Sort.scanUp,L0 (by rw[hp,Ns];exact LP h)]
theorem cF {i j:Nat} (h: ¬(i<=j∧p d[i]! =true)):Go.Sort.scanUp p d j i=i:=by rw[Go.Sort.scanUp,L1 (by rw[LR,Mi];exact h)]
theorem jz {j:Nat}:∀(n i:Nat),j+1-i<=n->i<=Go.Sort.scanUp p d j i∧(Go.Sort.scanUp p d j i<=j+1∨Go.Sort.scanUp p d j i=i):=by
 intro n
 induction n with
 |zero=>intro i h;rw[cF (by omega)];omega
 | succ n ih=>
   intro i h;by_cases h0:i<=j∧p d[i]! =true
   . rw[gb h0.1 h0.2];have:=ih (i+1) (by omega);omega
   . rw[cF h0];omega
theorem gc {i j:Nat} (h:i<=j+1) (hp:p d[j+1]! =true):Go.Sort.scanDown p d i (j+1)=Go.Sort.scanDown p d i j:=by rw[Go.Sort.scanDown,L0 (by rw[hp,Ns];exact LP h)]
theorem cG {i j:Nat} (h: ¬(i<=j∧p d[j]! =true)):Go.Sort.scanDown p d i j=j:=by
 cases j with
 |zero=>rfl
 |succ j=>rw[Go.Sort.scanDown,L1 (by rw[LR,Mi];exact h)]
theorem jA {i:Nat} (hi:1<=i):∀j:Nat,Go.Sort.scanDown p d i j<=j∧(i<=Go.Sort.scanDown p d i j+1∨Go.Sort.scanDown p d i j=j):=by
 intro j
 induction j with
 |zero=>rw[cG (by omega)];omega
 | succ j ih=>
   by_cases h0:i<=j+1∧p d[j+1]! =true
   . rw[gc h0.1 h0.2];omega
   . rw[cG h0];omega
end
variable {I:Nat}
theorem iN {i j J:Nat} (hI:Go.Sort.scanUp (fun x=>ac x d[a]!) d j i=I) (hJ:Go.Sort.scanDown (fun x=> !ac x d[a]!) d I j=J) (h:J<I):Go.Sort.partLoop ac a i j d=(J,d):=by rw[Go.Sort.partLoop];simp only[hI,hJ,Oo,h,MH]
theorem l9 {i j J:Nat} (hI:Go.Sort.scanUp (fun x=>ac x d[a]!) d j i=I) (hJ:Go.Sort.scanDown (fun x=> !ac x d[a]!) d I j=J) (h: ¬J<I) (h2:J-1+1-(I+1)<j+1-i):Go.Sort.partLoop ac a i j d=Go.Sort.partLoop ac a (I+1) (J-1) (swp d I J):=by rw[Go.Sort.partLoop];simp only[hI,hJ,Oo,h,ML,h2,dif_pos]
theorem Cj:∀(n i j:Nat) (d:Array aJ),j+1-i<=n->1<=i->i<=j+2->(Go.Sort.partLoop ac a i j d).1<=j∧(Go.Sort.partLoop ac a i j d).2.size=d.size:=by
 intro n
 induction n with
 |zero=>intro i j d h h1 h3;have hI:=cF (p:=fun x=>ac x d[a]!) (d:=d) (i:=i) (j:=j) (by omega);have hJ:=cG (p:=fun x=> !ac x d[a]!) (d:=d) (i:=i) (j:=j) (by omega);rw[iN hI hJ (by omega)];exact⟨by simp only;omega,rfl⟩
 | succ n ih=>
   intro i j d h h1 h3;obtain⟨I,hI⟩:∃I,Go.Sort.scanUp (fun x=>ac x d[a]!) d j i=I:=⟨_,rfl⟩;obtain⟨J,hJ⟩:∃J,Go.Sort.scanDown (fun x=> !ac x d[a]!) d I j=J:=⟨_,rfl⟩;have b1:=jz (p:=fun x=>ac x d[a]!) (d:=d) (j:=j) _ i (LM _);rw[hI] at b1;have b2:=jA (p:=fun x=> !ac x d[a]!) (d:=d) (i:=I) (by omega) j;rw[hJ] at b2;by_cases hc:J<I
   . rw[iN hI hJ hc];exact⟨by simp only;omega,rfl⟩
   . rw[l9 hI hJ hc (by omega)];have:=ih (I+1) (J-1) (swp d I J) (by omega) (by omega) (by omega);rw[aP] at this;exact⟨by omega,this.2⟩
theorem vO {i j J:Nat} (hI:Go.Sort.scanUp (fun x=> !ac d[a]! x) d j i=I) (hJ:Go.Sort.scanDown (fun x=>ac d[a]! x) d I j=J) (h:J<I):Go.Sort.partEqLoop ac a i j d=(I,d):=by rw[Go.Sort.partEqLoop];simp only[hI,hJ,Oo,h,MH]
theorem vP {i j J:Nat} (hI:Go.Sort.scanUp (fun x=> !ac d[a]! x) d j i=I) (hJ:Go.Sort.scanDown (fun x=>ac d[a]! x) d I j=J) (h: ¬J<I) (h2:J-1+1-(I+1)<j+1-i):Go.Sort.partEqLoop ac a i j d=Go.Sort.partEqLoop ac a (I+1) (J-1) (swp d I J):=by rw[Go.Sort.partEqLoop];simp only[hI,hJ,Oo,h,ML,h2,dif_pos]
def ik (N:Nat) (x:Nat×Nat×Nat×Array aJ):Option (V×List (List V)):=if x.1<=x.2.2.1∧x.2.2.1<x.2.1∧x.2.1<=N∧x.2.2.2.size=N then some (.tup [.x (.int .i64 ((Go.Sort.partition ac x.2.2.2 x.1 x.2.1 x.2.2.1).1:Int)),.x (.bool (Go.Sort.partition ac x.2.2.2 x.1 x.2.1 x.2.2.1).2.1)],[ak (Go.Sort.partition ac x.2.2.2 x.1 x.2.1 x.2.2.1).2.2]) else none
def fP (N:Nat) (x:Nat×Nat×Nat×Array aJ):Option (V×List (List V)):=if x.1<=x.2.2.1∧x.2.2.1<x.2.1∧x.2.1<=N∧x.2.2.2.size=N then some (.x (.int .i64 ((Go.Sort.partitionEqual ac x.2.2.2 x.1 x.2.1 x.2.2.1).1:Int)),[ak (Go.Sort.partitionEqual ac x.2.2.2 x.1 x.2.1 x.2.2.1).2]) else none
variable {b pv:Nat} {d1:Array aJ}
theorem pu {J:Nat} (h1:swp d a pv=d1) (hI:Go.Sort.scanUp (fun x=>ac x d1[a]!) d1 (b-1) (a+1)=I) (hJ:Go.Sort.scanDown (fun x=> !ac x d1[a]!) d1 I (b-1)=J) (h:J<I):Go.Sort.partition ac d a b pv=(J,true,swp d1 J a):=by unfold Go.Sort.partition;simp only[h1,hI,hJ,Oo,h,MH]
theorem vQ {J:Nat} (h1:swp d a pv=d1) (hI:Go.Sort.scanUp (fun x=>ac x d1[a]!) d1 (b-1) (a+1)=I) (hJ:Go.Sort.scanDown (fun x=> !ac x d1[a]!) d1 I (b-1)=J) (h: ¬J<I):Go.Sort.partition ac d a b pv=((Go.Sort.partLoop ac a (I+1) (J-1) (swp d1 I J)).1,false,swp (Go.Sort.partLoop ac a (I+1) (J-1) (swp d1 I J)).2 (Go.Sort.partLoop ac a (I+1) (J-1) (swp d1 I J)).1 a):=by unfold Go.Sort.partition;simp only[h1,hI,hJ,Oo,h,ML]
theorem zG (hS:SoOKS3 G bk N g sf gl gs):FunXVS3 G bk 50 [] (FE (bJ g sf gl gs) (ik N)):=by
 obtain⟨X,hX,X1,X2,X3⟩:=cQ hS [] trivial;have hN:=hS.N1;unfold MXS3 at hN;refine bh (k:=4) hX Try.func50 rfl (fun a w=>Try.call50 a w) Try.ntmps50 (by decide) (by decide) ?_;clear hX;intro us r outs hF;obtain⟨⟨a,b,pv,d⟩,hus,hG⟩:=bX hF;clear hF;subst hus;unfold ik at hG;obtain⟨⟨hap,hpb,hbN,hd⟩,hG⟩:=bm hG;simp only at hap hpb hbN hd;cases hG;refine⟨_,rfl,rfl,fun pm m0 w0 hE=>?_⟩;simp only[bJ];have s0:=bA (N:=N) a pv d (by omega) (by omega) hd;obtain⟨d1,hd1⟩:∃d1,swp d a pv=d1:=⟨_,rfl⟩;have hz1:d1.size=N:=by rw[<-hd1,aP];exact hd
 rw[hd1] at s0;have w1:av .i64 ((a:Int)+1)=((a+1:Nat):Int):=by rw[am (by unfold bS;omega)];omega
 have w2:av .i64 ((b:Int)-1)=((b-1:Nat):Int):=by rw[am (by unfold bS;omega)];omega
 refine Sem.seq [(1,.x (.int .i64 (a:Int))),(2,.x (.int .i64 (b:Int))),(3,.x (.int .i64 (pv:Int))),(4,.ptr 4 0)] [(4,[.x (.func (.func g) #[] gl),.x (.func (.func sf) #[] gs)]),(1004,ak d)] (Sem.run hE ae (by kernel_rfl) (by simp +decide (maxDischargeDepth:=200) only[go_sem,X1,X2,X3,aW])) ?_;refine Sem.seq [(1,.x (.int .i64 (a:Int))),(2,.x (.int .i64 (b:Int))),(3,.x (.int .i64 (pv:Int))),(4,.ptr 4 0)] [(4,[.x (.func (.func g) #[] gl),.x (.func (.func sf) #[] gs)]),(1004,ak d1)] (Sem.run hE ae (by kernel_rfl) (by simp +decide (maxDischargeDepth:=200) only[go_sem,X1,X2,X3,aW,s0])) ?_;refine Sem.seq [(1,.x (.int .i64 (a:Int))),(4,.ptr 4 0),(10,.x (.int .i64 ((a+1:Nat):Int))),(11,.x (.int .i64 ((b-1:Nat):Int)))] [(4,[.x (.func (.func g) #[] gl),.x (.func (.func sf) #[] gs)]),(1004,ak d1)] (Sem.run hE ae (by kernel_rfl) (by simp +decide (maxDischargeDepth:=200) only[go_sem,X1,X2,X3,aW,w1,w2])) ?_;obtain⟨IF,hIF⟩:∃I,Go.Sort.scanUp (fun x=>ac x d1[a]!) d1 (b-1) (a+1)=I:=⟨_,rfl⟩;obtain⟨JF,hJF⟩:∃J,Go.Sort.scanDown (fun x=> !ac x d1[a]!) d1 IF (b-1)=J:=⟨_,rfl⟩;have buF:=jz (p:=fun x=>ac x d1[a]!) (d:=d1) (j:=b-1) _ (a+1) (LM _);rw[hIF] at buF;have bdF:=jA (p:=fun x=> !ac x d1[a]!) (d:=d1) (i:=IF) (by omega) (b-1);rw[hJF] at bdF;refine Sem.seq [(1,.x (.int .i64 (a:Int))),(4,.ptr 4 0),(10,.x (.int .i64 ((IF:Nat):Int))),(11,.x (.int .i64 ((b-1:Nat):Int)))] [(4,[.x (.func (.func g) #[] gl),.x (.func (.func sf) #[] gs)]),(1004,ak d1)] (Sem.block (Sem.loop (X:={i:Nat//a+1<=i∧(i<=b-1+1∨i=a+1)∧Go.Sort.scanUp (fun x=>ac x d1[a]!) d1 (b-1) i=IF}) (fun x=>[(1,.x (.int .i64 (a:Int))),(4,.ptr 4 0),(10,.x (.int .i64 ((x.1:Nat):Int))),(11,.x (.int .i64 ((b-1:Nat):Int)))]) (fun _=>[(4,[.x (.func (.func g) #[] gl),.x (.func (.func sf) #[] gs)]),(1004,ak d1)]) (fun x=>b-1+1-x.1) ⟨a+1,by omega,by omega,hIF⟩ (by simp +decide only[go_sem]<;>(repeat' first|rfl|constructor)) (by simp +decide only[go_sem]<;>(repeat' first|rfl|constructor)) (fun⟨i,hi1,hi2,hi3⟩=>Sem.run hE ae (by kernel_rfl) ?_))) ?_
 . simp only;by_cases hc:i<=b-1
   . have c1:decide (((i:Nat):Int)<=((b-1:Nat):Int))=true:=LP (by omega);have c2:av .i64 (((i:Nat):Int)+1)=((i+1:Nat):Int):=by rw[am (by unfold bS;omega)];omega
     have l1:=bc (N:=N) i a d1 (by omega) (by omega) hz1;cases hl:ac d1[i]! d1[a]! with
     |true=>rw[gb hc (by simp[hl])] at hi3;rw[hl] at l1;simp +decide (maxDischargeDepth:=200) only[go_sem,X1,X2,X3,aW,c1,c2,l1];refine⟨⟨i+1,by omega,by omega,hi3⟩,?_,?_,by simp only;omega⟩<;>simp +decide only[go_sem]<;>(repeat' first|rfl|constructor)
     |false=>rw[cF (by simp[hl])] at hi3;rw[hl] at l1;rw[<-hi3];simp +decide (maxDischargeDepth:=200) only[go_sem,X1,X2,X3,aW,c1,c2,l1]
   . have c1:decide (((i:Nat):Int)<=((b-1:Nat):Int))=false:=LO (by omega);rw[cF (fun h=>hc h.1)] at hi3;rw[<-hi3];simp +decide (maxDischargeDepth:=200) only[go_sem,X1,X2,X3,aW,c1]
 refine Sem.seq [(1,.x (.int .i64 (a:Int))),(4,.ptr 4 0),(10,.x (.int .i64 ((IF:Nat):Int))),(11,.x (.int .i64 ((JF:Nat):Int)))] [(4,[.x (.func (.func g) #[] gl),.x (.func (.func sf) #[] gs)]),(1004,ak d1)] (Sem.block (Sem.loop (X:={j:Nat//j<=b-1∧(IF<=j+1∨j=b-1)∧Go.Sort.scanDown (fun x=> !ac x d1[a]!) d1 IF j=JF}) (fun x=>[(1,.x (.int .i64 (a:Int))),(4,.ptr 4 0),(10,.x (.int .i64 ((IF:Nat):Int))),(11,.x (.int .i64 ((x.1:Nat):Int)))]) (fun _=>[(4,[.x (.func (.func g) #[] gl),.x (.func (.func sf) #[] gs)]),(1004,ak d1)]) (fun x=>x.1) ⟨b-1,by omega,by omega,hJF⟩ (by simp +decide only[go_sem]<;>(repeat' first|rfl|constructor)) (by simp +decide only[go_sem]<;>(repeat' first|rfl|constructor)) (fun⟨j,hj1,hj2,hj3⟩=>Sem.run hE ae (by kernel_rfl) ?_))) ?_
 . simp only;by_cases hc:IF<=j
   . obtain⟨k,rfl⟩:∃k,j=k+1:=⟨j-1,by omega⟩;have c1:decide (((IF:Nat):Int)<=((k+1:Nat):Int))=true:=LP (by omega);have c2:av .i64 (((k+1:Nat):Int)-1)=((k:Nat):Int):=by rw[am (by unfold bS;omega)];omega
     have l1:=bc (N:=N) (k+1) a d1 (by omega) (by omega) hz1;cases hl:ac d1[k+1]! d1[a]! with
     |false=>rw[gc hc (by simp[hl])] at hj3;rw[hl] at l1;simp +decide (maxDischargeDepth:=200) only[go_sem,X1,X2,X3,aW,c1,c2,l1];refine⟨⟨k,by omega,by omega,hj3⟩,?_,?_,by simp only;omega⟩<;>simp +decide only[go_sem]<;>(repeat' first|rfl|constructor)
     |true=>rw[cG (by simp[hl])] at hj3;rw[hl] at l1;rw[<-hj3];simp +decide (maxDischargeDepth:=200) only[go_sem,X1,X2,X3,aW,c1,c2,l1]
   . have c1:decide (((IF:Nat):Int)<=((j:Nat):Int))=false:=LO (by omega);rw[cG (fun h=>hc h.1)] at hj3;rw[<-hj3];simp +decide (maxDischargeDepth:=200) only[go_sem,X1,X2,X3,aW,c1]
 by_cases hc:JF<IF
 . rw[pu hd1 hIF hJF hc];have c1:decide (((JF:Nat):Int)<((IF:Nat):Int))=true:=LP (by omega);have s1:=bA (N:=N) JF a d1 (by omega) (by omega) hz1;refine Sem.seq_out (Sem.run hE ae (by kernel_rfl) ?_);simp +decide (maxDischargeDepth:=200) only[go_sem,X1,X2,X3,aW,c1,s1]
 . rw [vQ hd1 hIF hJF hc];have c1:decide (((JF:Nat):Int)<((IF:Nat):Int))=false:=LO (by omega);have c2:av .i64 (((IF:Nat):Int)+1)=((IF+1:Nat):Int):=by rw[am (by unfold bS;omega)];omega
   have c3:av .i64 (((JF:Nat):Int)-1)=((JF-1:Nat):Int):=by rw[am (by unfold bS;omega)];omega
   have s1:=bA (N:=N) IF JF d1 (by omega) (by omega) hz1;obtain⟨d2,hd2⟩:∃d2,swp d1 IF JF=d2:=⟨_,rfl⟩;have hz2:d2.size=N:=by rw[<-hd2,aP];exact hz1
   rw[hd2] at s1⊢;obtain⟨PL,hPL⟩:∃PL,Go.Sort.partLoop ac a (IF+1) (JF-1) d2=PL:=⟨_,rfl⟩;have bPL:=Cj (a:=a) _ (IF+1) (JF-1) d2 (LM _) (by omega) (by omega);rw[hPL] at bPL⊢;refine Sem.seq [(1,.x (.int .i64 (a:Int))),(4,.ptr 4 0),(10,.x (.int .i64 ((IF:Nat):Int))),(11,.x (.int .i64 ((JF:Nat):Int)))] [(4,[.x (.func (.func g) #[] gl),.x (.func (.func sf) #[] gs)]),(1004,ak d1)] (Sem.run hE ae (by kernel_rfl) (by simp +decide (maxDischargeDepth:=200) only[go_sem,X1,X2,X3,aW,c1])) ?_;refine Sem.seq [(1,.x (.int .i64 (a:Int))),(4,.ptr 4 0),(10,.x (.int .i64 ((IF:Nat):Int))),(11,.x (.int .i64 ((JF:Nat):Int)))] [(4,[.x (.func (.func g) #[] gl),.x (.func (.func sf) #[] gs)]),(1004,ak d2)] (Sem.run hE ae (by kernel_rfl) (by simp +decide (maxDischargeDepth:=200) only[go_sem,X1,X2,X3,aW,s1])) ?_;refine Sem.seq [(1,.x (.int .i64 (a:Int))),(4,.ptr 4 0),(10,.x (.int .i64 ((IF+1:Nat):Int))),(11,.x (.int .i64 ((JF:Nat):Int)))] [(4,[.x (.func (.func g) #[] gl),.x (.func (.func sf) #[] gs)]),(1004,ak d2)] (Sem.run hE ae (by kernel_rfl) (by simp +decide (maxDischargeDepth:=200) only[go_sem,X1,X2,X3,aW,c2])) ?_;refine Sem.seq [(1,.x (.int .i64 (a:Int))),(4,.ptr 4 0),(10,.x (.int .i64 ((IF+1:Nat):Int))),(11,.x (.int .i64 ((JF-1:Nat):Int)))] [(4,[.x (.func (.func g) #[] gl),.x (.func (.func sf) #[] gs)]),(1004,ak d2)] (Sem.run hE ae (by kernel_rfl) (by simp +decide (maxDischargeDepth:=200) only[go_sem,X1,X2,X3,aW,c3])) ?_;refine Sem.seq [(1,.x (.int .i64 (a:Int))),(4,.ptr 4 0),(11,.x (.int .i64 ((PL.1:Nat):Int)))] [(4,[.x (.func (.func g) #[] gl),.x (.func (.func sf) #[] gs)]),(1004,ak PL.2)] (Sem.block (Sem.loop (X:={x:Nat×Nat×Array aJ//a+1<=x.1∧x.1<=x.2.1+2∧x.2.1<b∧x.2.2.size=N∧Go.Sort.partLoop ac a x.1 x.2.1 x.2.2=PL}) (fun x=>[(1,.x (.int .i64 (a:Int))),(4,.ptr 4 0),(10,.x (.int .i64 ((x.1.1:Nat):Int))),(11,.x (.int .i64 ((x.1.2.1:Nat):Int)))]) (fun x=>[(4,[.x (.func (.func g) #[] gl),.x (.func (.func sf) #[] gs)]),(1004,ak x.1.2.2)]) (fun x=>x.1.2.1+1-x.1.1) ⟨(IF+1,JF-1,d2),by simp only;omega,by simp only;omega,by simp only;omega,hz2,hPL⟩ (by simp +decide only[go_sem]<;>(repeat' first|rfl|constructor)) (by simp +decide only[go_sem]<;>(repeat' first|rfl|constructor)) (fun⟨⟨i0,j0,dk⟩,hx1,hx2,hx3,hdk,heq⟩=>?_))) ?_
   . simp only at hx1 hx2 hx3 hdk heq⊢;refine Sem.block ?_;obtain⟨IL,hIL⟩:∃I,Go.Sort.scanUp (fun x=>ac x dk[a]!) dk (j0) (i0)=I:=⟨_,rfl⟩;obtain⟨JL,hJL⟩:∃J,Go.Sort.scanDown (fun x=> !ac x dk[a]!) dk IL (j0)=J:=⟨_,rfl⟩;have buL:=jz (p:=fun x=>ac x dk[a]!) (d:=dk) (j:=j0) _ (i0) (LM _);rw[hIL] at buL;have bdL:=jA (p:=fun x=> !ac x dk[a]!) (d:=dk) (i:=IL) (by omega) (j0);rw[hJL] at bdL;refine Sem.seq [(1,.x (.int .i64 (a:Int))),(4,.ptr 4 0),(10,.x (.int .i64 ((IL:Nat):Int))),(11,.x (.int .i64 ((j0:Nat):Int)))] [(4,[.x (.func (.func g) #[] gl),.x (.func (.func sf) #[] gs)]),(1004,ak dk)] (Sem.block (Sem.loop (X:={i:Nat//i0<=i∧(i<=j0+1∨i=i0)∧Go.Sort.scanUp (fun x=>ac x dk[a]!) dk (j0) i=IL}) (fun x=>[(1,.x (.int .i64 (a:Int))),(4,.ptr 4 0),(10,.x (.int .i64 ((x.1:Nat):Int))),(11,.x (.int .i64 ((j0:Nat):Int)))]) (fun _=>[(4,[.x (.func (.func g) #[] gl),.x (.func (.func sf) #[] gs)]),(1004,ak dk)]) (fun x=>j0+1-x.1) ⟨i0,by omega,by omega,hIL⟩ (by simp +decide only[go_sem]<;>(repeat' first|rfl|constructor)) (by simp +decide only[go_sem]<;>(repeat' first|rfl|constructor)) (fun⟨i,hi1,hi2,hi3⟩=>Sem.run hE ae (by kernel_rfl) ?_))) ?_
     . simp only;by_cases hc:i<=j0
       . have c1:decide (((i:Nat):Int)<=((j0:Nat):Int))=true:=LP (by omega);have c2:av .i64 (((i:Nat):Int)+1)=((i+1:Nat):Int):=by rw[am (by unfold bS;omega)];omega
         have l1:=bc (N:=N) i a dk (by omega) (by omega) hdk;cases hl:ac dk[i]! dk[a]! with
         |true=>rw[gb hc (by simp[hl])] at hi3;rw[hl] at l1;simp +decide (maxDischargeDepth:=200) only[go_sem,X1,X2,X3,aW,c1,c2,l1];refine⟨⟨i+1,by omega,by omega,hi3⟩,?_,?_,by simp only;omega⟩<;>simp +decide only[go_sem]<;>(repeat' first|rfl|constructor)
         |false=>rw[cF (by simp[hl])] at hi3;rw[hl] at l1;rw[<-hi3];simp +decide (maxDischargeDepth:=200) only[go_sem,X1,X2,X3,aW,c1,c2,l1]
       . have c1:decide (((i:Nat):Int)<=((j0:Nat):Int))=false:=LO (by omega);rw[cF (fun h=>hc h.1)] at hi3;rw[<-hi3];simp +decide (maxDischargeDepth:=200) only[go_sem,X1,X2,X3,aW,c1]
     refine Sem.seq [(1,.x (.int .i64 (a:Int))),(4,.ptr 4 0),(10,.x (.int .i64 ((IL:Nat):Int))),(11,.x (.int .i64 ((JL:Nat):Int)))] [(4,[.x (.func (.func g) #[] gl),.x (.func (.func sf) #[] gs)]),(1004,ak dk)] (Sem.block (Sem.loop (X:={j:Nat//j<=j0∧(IL<=j+1∨j=j0)∧Go.Sort.scanDown (fun x=> !ac x dk[a]!) dk IL j=JL}) (fun x=>[(1,.x (.int .i64 (a:Int))),(4,.ptr 4 0),(10,.x (.int .i64 ((IL:Nat):Int))),(11,.x (.int .i64 ((x.1:Nat):Int)))]) (fun _=>[(4,[.x (.func (.func g) #[] gl),.x (.func (.func sf) #[] gs)]),(1004,ak dk)]) (fun x=>x.1) ⟨j0,by omega,by omega,hJL⟩ (by simp +decide only[go_sem]<;>(repeat' first|rfl|constructor)) (by simp +decide only[go_sem]<;>(repeat' first|rfl|constructor)) (fun⟨j,hj1,hj2,hj3⟩=>Sem.run hE ae (by kernel_rfl) ?_))) ?_
     . simp only;by_cases hc:IL<=j
       . obtain⟨k,rfl⟩:∃k,j=k+1:=⟨j-1,by omega⟩;have c1:decide (((IL:Nat):Int)<=((k+1:Nat):Int))=true:=LP (by omega);have c2:av .i64 (((k+1:Nat):Int)-1)=((k:Nat):Int):=by rw[am (by unfold bS;omega)];omega
         have l1:=bc (N:=N) (k+1) a dk (by omega) (by omega) hdk;cases hl:ac dk[k+1]! dk[a]! with
         |false=>rw[gc hc (by simp[hl])] at hj3;rw[hl] at l1;simp +decide (maxDischargeDepth:=200) only[go_sem,X1,X2,X3,aW,c1,c2,l1];refine⟨⟨k,by omega,by omega,hj3⟩,?_,?_,by simp only;omega⟩<;>simp +decide only[go_sem]<;>(repeat' first|rfl|constructor)
         |true=>rw[cG (by simp[hl])] at hj3;rw[hl] at l1;rw[<-hj3];simp +decide (maxDischargeDepth:=200) only[go_sem,X1,X2,X3,aW,c1,c2,l1]
       . have c1:decide (((IL:Nat):Int)<=((j:Nat):Int))=false:=LO (by omega);rw[cG (fun h=>hc h.1)] at hj3;rw[<-hj3];simp +decide (maxDischargeDepth:=200) only[go_sem,X1,X2,X3,aW,c1]
     by_cases hc:JL<IL
     . rw[iN hIL hJL hc] at heq;have c1:decide (((JL:Nat):Int)<((IL:Nat):Int))=true:=LP (by omega);rw[<-heq];refine Sem.seq_out (Sem.run hE ae (by kernel_rfl) ?_);simp +decide (maxDischargeDepth:=200) only[go_sem,X1,X2,X3,aW,c1]
     . rw[l9 hIL hJL hc (by omega)] at heq;have c1:decide (((JL:Nat):Int)<((IL:Nat):Int))=false:=LO (by omega);have c2:av .i64 (((IL:Nat):Int)+1)=((IL+1:Nat):Int):=by rw[am (by unfold bS;omega)];omega
       have c3:av .i64 (((JL:Nat):Int)-1)=((JL-1:Nat):Int):=by rw[am (by unfold bS;omega)];omega
       have s1:=bA (N:=N) IL JL dk (by omega) (by omega) hdk;refine Sem.run hE ae (by kernel_rfl) ?_;simp +decide (maxDischargeDepth:=200) only[go_sem,X1,X2,X3,aW,c1,c2,c3,s1];refine⟨⟨(IL+1,JL-1,swp dk IL JL),by simp only;omega,by simp only;omega,by simp only;omega,by rw[aP];exact hdk,heq⟩,?_,?_,by simp only;omega⟩<;>simp +decide only[go_sem]<;>(repeat' first|rfl|constructor)
   have s3:=bA (N:=N) PL.1 a PL.2 (by omega) (by omega) (by omega);refine Sem.run hE ae (by kernel_rfl) ?_;simp +decide (maxDischargeDepth:=200) only[go_sem,X1,X2,X3,aW,s3]
theorem vR (hS:SoOKS3 G bk N g sf gl gs):FunXVS3 G bk 49 [] (FE (bJ g sf gl gs) (fP N)):=by
 obtain⟨X,hX,X1,X2,X3⟩:=cQ hS [] trivial;have hN:=hS.N1;unfold MXS3 at hN;refine bh (k:=4) hX Try.func49 rfl (fun a w=>Try.call49 a w) Try.ntmps49 (by decide) (by decide) ?_;clear hX;intro us r outs hF;obtain⟨⟨a,b,pv,d⟩,hus,hG⟩:=bX hF;clear hF;subst hus;unfold fP at hG;obtain⟨⟨hap,hpb,hbN,hd⟩,hG⟩:=bm hG;simp only at hap hpb hbN hd;cases hG;refine⟨_,rfl,rfl,fun pm m0 w0 hE=>?_⟩;simp only[bJ];have s0:=bA (N:=N) a pv d (by omega) (by omega) hd;obtain⟨d1,hd1⟩:∃d1,swp d a pv=d1:=⟨_,rfl⟩;have hz1:d1.size=N:=by rw[<-hd1,aP];exact hd
 rw[hd1] at s0;have w1:av .i64 ((a:Int)+1)=((a+1:Nat):Int):=by rw[am (by unfold bS;omega)];omega
 have w2:av .i64 ((b:Int)-1)=((b-1:Nat):Int):=by rw[am (by unfold bS;omega)];omega
 unfold Go.Sort.partitionEqual;rw[hd1];obtain⟨PL,hPL⟩:∃PL,Go.Sort.partEqLoop ac a (a+1) (b-1) d1=PL:=⟨_,rfl⟩;rw[hPL];refine Sem.seq [(1,.x (.int .i64 (a:Int))),(2,.x (.int .i64 (b:Int))),(3,.x (.int .i64 (pv:Int))),(4,.ptr 4 0)] [(4,[.x (.func (.func g) #[] gl),.x (.func (.func sf) #[] gs)]),(1004,ak d)] (Sem.run hE ae (by kernel_rfl) (by simp +decide (maxDischargeDepth:=200) only[go_sem,X1,X2,X3,aW])) ?_;refine Sem.seq [(1,.x (.int .i64 (a:Int))),(2,.x (.int .i64 (b:Int))),(3,.x (.int .i64 (pv:Int))),(4,.ptr 4 0)] [(4,[.x (.func (.func g) #[] gl),.x (.func (.func sf) #[] gs)]),(1004,ak d1)] (Sem.run hE ae (by kernel_rfl) (by simp +decide (maxDischargeDepth:=200) only[go_sem,X1,X2,X3,aW,s0])) ?_;refine Sem.seq [(1,.x (.int .i64 (a:Int))),(4,.ptr 4 0),(9,.x (.int .i64 ((a+1:Nat):Int))),(10,.x (.int .i64 ((b-1:Nat):Int)))] [(4,[.x (.func (.func g) #[] gl),.x (.func (.func sf) #[] gs)]),(1004,ak d1)] (Sem.run hE ae (by kernel_rfl) (by simp +decide (maxDischargeDepth:=200) only[go_sem,X1,X2,X3,aW,w1,w2])) ?_;refine Sem.seq [(9,.x (.int .i64 ((PL.1:Nat):Int)))] [(4,[.x (.func (.func g) #[] gl),.x (.func (.func sf) #[] gs)]),(1004,ak PL.2)] (Sem.block (Sem.loop (X:={x:Nat×Nat×Array aJ//a+1<=x.1∧x.1<=x.2.1+2∧x.2.1<b∧x.2.2.size=N∧Go.Sort.partEqLoop ac a x.1 x.2.1 x.2.2=PL}) (fun x=>[(1,.x (.int .i64 (a:Int))),(4,.ptr 4 0),(9,.x (.int .i64 ((x.1.1:Nat):Int))),(10,.x (.int .i64 ((x.1.2.1:Nat):Int)))]) (fun x=>[(4,[.x (.func (.func g) #[] gl),.x (.func (.func sf) #[] gs)]),(1004,ak x.1.2.2)]) (fun x=>x.1.2.1+1-x.1.1) ⟨(a+1,b-1,d1),by simp only;omega,by simp only;omega,by simp only;omega,hz1,hPL⟩ (by simp +decide only[go_sem]<;>(repeat' first|rfl|constructor)) (by simp +decide only[go_sem]<;>(repeat' first|rfl|constructor)) (fun⟨⟨i0,j0,dk⟩,hx1,hx2,hx3,hdk,heq⟩=>?_))) ?_
 . simp only at hx1 hx2 hx3 hdk heq⊢;refine Sem.block ?_;obtain⟨IL,hIL⟩:∃I,Go.Sort.scanUp (fun x=> !ac dk[a]! x) dk (j0) (i0)=I:=⟨_,rfl⟩;obtain⟨JL,hJL⟩:∃J,Go.Sort.scanDown (fun x=>ac dk[a]! x) dk IL (j0)=J:=⟨_,rfl⟩;have buL:=jz (p:=fun x=> !ac dk[a]! x) (d:=dk) (j:=j0) _ (i0) (LM _);rw[hIL] at buL;have bdL:=jA (p:=fun x=>ac dk[a]! x) (d:=dk) (i:=IL) (by omega) (j0);rw[hJL] at bdL;refine Sem.seq [(1,.x (.int .i64 (a:Int))),(4,.ptr 4 0),(9,.x (.int .i64 ((IL:Nat):Int))),(10,.x (.int .i64 ((j0:Nat):Int)))] [(4,[.x (.func (.func g) #[] gl),.x (.func (.func sf) #[] gs)]),(1004,ak dk)] (Sem.block (Sem.loop (X:={i:Nat//i0<=i∧(i<=j0+1∨i=i0)∧Go.Sort.scanUp (fun x=> !ac dk[a]! x) dk (j0) i=IL}) (fun x=>[(1,.x (.int .i64 (a:Int))),(4,.ptr 4 0),(9,.x (.int .i64 ((x.1:Nat):Int))),(10,.x (.int .i64 ((j0:Nat):Int)))]) (fun _=>[(4,[.x (.func (.func g) #[] gl),.x (.func (.func sf) #[] gs)]),(1004,ak dk)]) (fun x=>j0+1-x.1) ⟨i0,by omega,by omega,hIL⟩ (by simp +decide only[go_sem]<;>(repeat' first|rfl|constructor)) (by simp +decide only[go_sem]<;>(repeat' first|rfl|constructor)) (fun⟨i,hi1,hi2,hi3⟩=>Sem.run hE ae (by kernel_rfl) ?_))) ?_
   . simp only;by_cases hc:i<=j0
     . have c1:decide (((i:Nat):Int)<=((j0:Nat):Int))=true:=LP (by omega);have c2:av .i64 (((i:Nat):Int)+1)=((i+1:Nat):Int):=by rw[am (by unfold bS;omega)];omega
       have l1:=bc (N:=N) a i dk (by omega) (by omega) hdk;cases hl:ac dk[a]! dk[i]! with
       |false=>rw[gb hc (by simp[hl])] at hi3;rw[hl] at l1;simp +decide (maxDischargeDepth:=200) only[go_sem,X1,X2,X3,aW,c1,c2,l1];refine⟨⟨i+1,by omega,by omega,hi3⟩,?_,?_,by simp only;omega⟩<;>simp +decide only[go_sem]<;>(repeat' first|rfl|constructor)
       |true=>rw[cF (by simp[hl])] at hi3;rw[hl] at l1;rw[<-hi3];simp +decide (maxDischargeDepth:=200) only[go_sem,X1,X2,X3,aW,c1,c2,l1]
     . have c1:decide (((i:Nat):Int)<=((j0:Nat):Int))=false:=LO (by omega);rw[cF (fun h=>hc h.1)] at hi3;rw[<-hi3];simp +decide (maxDischargeDepth:=200) only[go_sem,X1,X2,X3,aW,c1]
   refine Sem.seq [(1,.x (.int .i64 (a:Int))),(4,.ptr 4 0),(9,.x (.int .i64 ((IL:Nat):Int))),(10,.x (.int .i64 ((JL:Nat):Int)))] [(4,[.x (.func (.func g) #[] gl),.x (.func (.func sf) #[] gs)]),(1004,ak dk)] (Sem.block (Sem.loop (X:={j:Nat//j<=j0∧(IL<=j+1∨j=j0)∧Go.Sort.scanDown (fun x=>ac dk[a]! x) dk IL j=JL}) (fun x=>[(1,.x (.int .i64 (a:Int))),(4,.ptr 4 0),(9,.x (.int .i64 ((IL:Nat):Int))),(10,.x (.int .i64 ((x.1:Nat):Int)))]) (fun _=>[(4,[.x (.func (.func g) #[] gl),.x (.func (.func sf) #[] gs)]),(1004,ak dk)]) (fun x=>x.1) ⟨j0,by omega,by omega,hJL⟩ (by simp +decide only[go_sem]<;>(repeat' first|rfl|constructor)) (by simp +decide only[go_sem]<;>(repeat' first|rfl|constructor)) (fun⟨j,hj1,hj2,hj3⟩=>Sem.run hE ae (by kernel_rfl) ?_))) ?_
   . simp only;by_cases hc:IL<=j
     . obtain⟨k,rfl⟩:∃k,j=k+1:=⟨j-1,by omega⟩;have c1:decide (((IL:Nat):Int)<=((k+1:Nat):Int))=true:=LP (by omega);have c2:av .i64 (((k+1:Nat):Int)-1)=((k:Nat):Int):=by rw[am (by unfold bS;omega)];omega
       have l1:=bc (N:=N) a (k+1) dk (by omega) (by omega) hdk;cases hl:ac dk[a]! dk[k+1]! with
       |true=>rw[gc hc (by simp[hl])] at hj3;rw[hl] at l1;simp +decide (maxDischargeDepth:=200) only[go_sem,X1,X2,X3,aW,c1,c2,l1];refine⟨⟨k,by omega,by omega,hj3⟩,?_,?_,by simp only;omega⟩<;>simp +decide only[go_sem]<;>(repeat' first|rfl|constructor)
       |false=>rw[cG (by simp[hl])] at hj3;rw[hl] at l1;rw[<-hj3];simp +decide (maxDischargeDepth:=200) only[go_sem,X1,X2,X3,aW,c1,c2,l1]
     . have c1:decide (((IL:Nat):Int)<=((j:Nat):Int))=false:=LO (by omega);rw[cG (fun h=>hc h.1)] at hj3;rw[<-hj3];simp +decide (maxDischargeDepth:=200) only[go_sem,X1,X2,X3,aW,c1]
   by_cases hc:JL<IL
   . rw[vO hIL hJL hc] at heq;have c1:decide (((JL:Nat):Int)<((IL:Nat):Int))=true:=LP (by omega);rw[<-heq];refine Sem.seq_out (Sem.run hE ae (by kernel_rfl) ?_);simp +decide (maxDischargeDepth:=200) only[go_sem,X1,X2,X3,aW,c1]
   . rw[vP hIL hJL hc (by omega)] at heq;have c1:decide (((JL:Nat):Int)<((IL:Nat):Int))=false:=LO (by omega);have c2:av .i64 (((IL:Nat):Int)+1)=((IL+1:Nat):Int):=by rw[am (by unfold bS;omega)];omega
     have c3:av .i64 (((JL:Nat):Int)-1)=((JL-1:Nat):Int):=by rw[am (by unfold bS;omega)];omega
     have s1:=bA (N:=N) IL JL dk (by omega) (by omega) hdk;refine Sem.run hE ae (by kernel_rfl) ?_;simp +decide (maxDischargeDepth:=200) only[go_sem,X1,X2,X3,aW,c1,c2,c3,s1];refine⟨⟨(IL+1,JL-1,swp dk IL JL),by simp only;omega,by simp only;omega,by simp only;omega,by rw[aP];exact hdk,heq⟩,?_,?_,by simp only;omega⟩<;>simp +decide only[go_sem]<;>(repeat' first|rfl|constructor)
 refine Sem.run hE ae (by kernel_rfl) ?_;simp +decide (maxDischargeDepth:=200) only[go_sem,X1,X2,X3,aW]
theorem ma {i:Nat} (h:i<b) (hl:ac d[i]! d[i-1]! =false):Go.Sort.scanSorted ac d b i=Go.Sort.scanSorted ac d b (i+1):=by rw[Go.Sort.scanSorted,L0 (by rw[hl];simpa using h)]
theorem gd {i:Nat} (h: ¬(i<b∧ac d[i]! d[i-1]! =false)):Go.Sort.scanSorted ac d b i=i:=by rw[Go.Sort.scanSorted,L1 (by simpa using h)]
theorem Ck:∀(n i:Nat),b-i<=n->i<=b->i<=Go.Sort.scanSorted ac d b i∧Go.Sort.scanSorted ac d b i<=b:=by
 intro n
 induction n with
 |zero=>intro i h hi;rw[gd (by omega)];omega
 | succ n ih=>
   intro i h hi;by_cases h0:i<b∧ac d[i]! d[i-1]! =false
   . rw[ma h0.1 h0.2];have:=ih (i+1) (by omega) (by omega);omega
   . rw[gd h0];omega
theorem kI:∀(j:Nat) (d:Array aJ),(Go.Sort.shiftDown ac j d).size=d.size
 |0,d=>rfl
 | j+1,d=>by
   rw[Go.Sort.shiftDown];split
   . rfl
   . rw[kI j,aP]
theorem sj (b:Nat):∀(n j:Nat) (d:Array aJ),b-j<=n->(Go.Sort.shiftUp ac b j d).size=d.size:=by
 intro n
 induction n with
 |zero=>intro j d h;rw[Go.Sort.shiftUp,L1 (by omega)]
 | succ n ih=>
   intro j d h;rw[Go.Sort.shiftUp];split
   . split
     . rfl
     . rw[ih _ _ (by omega),aP]
   . rfl
section
variable {a b s i I:Nat} {d:Array aJ}
theorem Et (hI:Go.Sort.scanSorted ac d b i=I) (h:I=b):Go.Sort.partialIns ac a b (s+1) i d=(d,true):=by rw[Go.Sort.partialIns];simp only[hI,h,MH]
theorem Eu (hI:Go.Sort.scanSorted ac d b i=I) (h: ¬I=b) (h2:b-a<50):Go.Sort.partialIns ac a b (s+1) i d=(d,false):=by rw[Go.Sort.partialIns];simp only[hI,h,ML,h2,MH]
theorem Ev (hI:Go.Sort.scanSorted ac d b i=I) (h: ¬I=b) (h2: ¬b-a<50):Go.Sort.partialIns ac a b (s+1) i d=Go.Sort.partialIns ac a b s I (if b-I≥2 then Go.Sort.shiftUp ac b (I+1) (if I-a≥2 then Go.Sort.shiftDown ac (I-1) (swp d I (I-1)) else swp d I (I-1)) else (if I-a≥2 then Go.Sort.shiftDown ac (I-1) (swp d I (I-1)) else swp d I (I-1))):=by rw[Go.Sort.partialIns];simp only[hI,h,ML,h2]
end
def il (N:Nat) (x:Nat×Nat×Array aJ):Option (V×List (List V)):=if x.1<x.2.1∧x.2.1<=N∧x.2.2.size=N then some (.x (.bool (Go.Sort.partialInsertionSort ac x.2.2 x.1 x.2.1).2),[ak (Go.Sort.partialInsertionSort ac x.2.2 x.1 x.2.1).1]) else none
def kJ (N:Nat) (x:Nat×Nat×Array aJ):Option (V×List (List V)):=if x.1<x.2.1∧x.2.1<=N∧x.2.2.size=N then some (.tup [],[ak (Go.Sort.reverseRange x.2.2 x.1 x.2.1)]) else none
theorem zH (hS:SoOKS3 G bk N g sf gl gs):FunXVS3 G bk 48 [] (FE (bg g sf gl gs) (il N)):=by
 obtain⟨X,hX,X1,X2,X3⟩:=cQ hS [] trivial;have hN:=hS.N1;unfold MXS3 at hN;refine bh (k:=3) hX Try.func48 rfl (fun a w=>Try.call48 a w) Try.ntmps48 (by decide) (by decide) ?_;clear hX;intro us r outs hF;obtain⟨⟨a,b,d⟩,hus,hG⟩:=bX hF;clear hF;subst hus;unfold il at hG;obtain⟨⟨hab,hbN,hd⟩,hG⟩:=bm hG;simp only at hab hbN hd;cases hG;refine⟨_,rfl,rfl,fun pm m0 w0 hE=>?_⟩;simp only[bg];have w1:av .i64 ((a:Int)+1)=((a+1:Nat):Int):=by rw[am (by unfold bS;omega)];omega
 unfold Go.Sort.partialInsertionSort;obtain⟨PI,hPI⟩:∃PI,Go.Sort.partialIns ac a b 5 (a+1) d=PI:=⟨_,rfl⟩;rw[hPI];refine Sem.seq [(1,.x (.int .i64 (a:Int))),(2,.x (.int .i64 (b:Int))),(3,.ptr 3 0)] [(3,[.x (.func (.func g) #[] gl),.x (.func (.func sf) #[] gs)]),(1003,ak d)] (Sem.run hE ae (by kernel_rfl) (by simp +decide (maxDischargeDepth:=200) only[go_sem,X1,X2,X3,aW])) ?_;refine Sem.seq [(1,.x (.int .i64 (a:Int))),(2,.x (.int .i64 (b:Int))),(3,.ptr 3 0),(7,.x (.int .i64 ((a+1:Nat):Int)))] [(3,[.x (.func (.func g) #[] gl),.x (.func (.func sf) #[] gs)]),(1003,ak d)] (Sem.run hE ae (by kernel_rfl) (by simp +decide (maxDischargeDepth:=200) only[go_sem,X1,X2,X3,aW,w1])) ?_;refine Sem.seqQ (PI.2=false) [] [(3,[.x (.func (.func g) #[] gl),.x (.func (.func sf) #[] gs)]),(1003,ak PI.1)] ?_ (fun hf=>?_)
 rotate_left
 . refine Sem.run hE ae (by kernel_rfl) ?_;simp +decide (maxDischargeDepth:=200) only[go_sem,X1,X2,X3,aW,hf]
 refine Sem.seq [(1,.x (.int .i64 (a:Int))),(2,.x (.int .i64 (b:Int))),(3,.ptr 3 0),(7,.x (.int .i64 ((a+1:Nat):Int))),(8,.x (.int .i64 (0)))] [(3,[.x (.func (.func g) #[] gl),.x (.func (.func sf) #[] gs)]),(1003,ak d)] (Sem.run hE ae (by kernel_rfl) (by simp +decide (maxDischargeDepth:=200) only[go_sem,X1,X2,X3,aW])) ?_;refine Sem.block (Sem.loop (X:={x:Nat×Nat×Array aJ//x.1<=5∧a+1<=x.2.1∧x.2.1<=b∧x.2.2.size=N∧Go.Sort.partialIns ac a b x.1 x.2.1 x.2.2=PI}) (fun x=>[(1,.x (.int .i64 (a:Int))),(2,.x (.int .i64 (b:Int))),(3,.ptr 3 0),(7,.x (.int .i64 ((x.1.2.1:Nat):Int))),(8,.x (.int .i64 (5-(x.1.1:Int))))]) (fun x=>[(3,[.x (.func (.func g) #[] gl),.x (.func (.func sf) #[] gs)]),(1003,ak x.1.2.2)]) (fun x=>x.1.1) ⟨(5,a+1,d),by simp only;omega,by simp only;omega,by simp only;omega,hd,hPI⟩ (by simp +decide only[go_sem]<;>(repeat' first|rfl|constructor)) (by simp +decide only[go_sem]<;>(repeat' first|rfl|constructor)) (fun⟨⟨s,i0,d0⟩,hs,hi1,hi2,hd0,heq⟩=>?_));simp only at hs hi1 hi2 hd0 heq⊢;cases s with
 |zero=>have c0:decide (5-((0:Nat):Int)<5)=false:=LO (by omega);rw[Go.Sort.partialIns] at heq;rw[<-heq];refine Sem.seq_out (Sem.run hE ae (by kernel_rfl) ?_);simp +decide (maxDischargeDepth:=200) only[go_sem,X1,X2,X3,aW,c0]
 | succ s=>
   have c0:decide (5-((s+1:Nat):Int)<5)=true:=LP (by omega);have e0:av .i64 (5-((s+1:Nat):Int)+1)=5-((s:Nat):Int):=by rw[am (by unfold bS;omega)];omega
   refine Sem.seq [(1,.x (.int .i64 (a:Int))),(2,.x (.int .i64 (b:Int))),(3,.ptr 3 0),(7,.x (.int .i64 ((i0:Nat):Int))),(8,.x (.int .i64 (5-((s+1:Nat):Int))))] [(3,[.x (.func (.func g) #[] gl),.x (.func (.func sf) #[] gs)]),(1003,ak d0)] (Sem.run hE ae (by kernel_rfl) (by simp +decide (maxDischargeDepth:=200) only[go_sem,X1,X2,X3,aW,c0])) ?_;obtain⟨I,hI⟩:∃I,Go.Sort.scanSorted ac d0 b i0=I:=⟨_,rfl⟩;have bI:=Ck (d:=d0) (b:=b) _ i0 (LM _) hi2;rw[hI] at bI;obtain⟨D0,hD0⟩:∃D0,swp d0 I (I-1)=D0:=⟨_,rfl⟩;obtain⟨D1,hD1⟩:∃D1,(if I-a≥2 then Go.Sort.shiftDown ac (I-1) D0 else D0)=D1:=⟨_,rfl⟩;obtain⟨D2,hD2⟩:∃D2,(if b-I≥2 then Go.Sort.shiftUp ac b (I+1) D1 else D1)=D2:=⟨_,rfl⟩;have z0:D0.size=N:=by rw[<-hD0,aP];exact hd0
   have z1:D1.size=N:=by
    rw[<-hD1];split
    . rw[kI];exact z0
    . exact z0
   have z2:D2.size=N:=by
    rw[<-hD2];split
    . rw[sj _ _ _ _ (LM _)];exact z1
    . exact z1
   obtain⟨Q,hQ1,hQ2⟩:∃Q:Prop,(Q-> ¬I=b∧ ¬b-a<50)∧(¬I=b-> ¬b-a<50->Q):=⟨_,id,fun h1 h2=>⟨h1,h2⟩⟩;refine Sem.seqQ Q [(1,.x (.int .i64 (a:Int))),(2,.x (.int .i64 (b:Int))),(3,.ptr 3 0),(7,.x (.int .i64 ((I:Nat):Int))),(8,.x (.int .i64 (5-((s+1:Nat):Int))))] [(3,[.x (.func (.func g) #[] gl),.x (.func (.func sf) #[] gs)]),(1003,ak D2)] (Sem.block ?_) (fun hQ=>?_)
   rotate_left
   . have hQ:=hQ1 hQ;rw[Ev hI hQ.1 hQ.2,hD0,hD1,hD2] at heq;refine Sem.run hE ae (by kernel_rfl) ?_;simp +decide (maxDischargeDepth:=200) only[go_sem,X1,X2,X3,aW,e0];refine⟨⟨(s,I,D2),by simp only;omega,by simp only;omega,by simp only;omega,z2,heq⟩,?_,?_,by simp only;omega⟩<;>simp +decide only[go_sem]<;>(repeat' first|rfl|constructor)
   refine Sem.seq [(1,.x (.int .i64 (a:Int))),(2,.x (.int .i64 (b:Int))),(3,.ptr 3 0),(7,.x (.int .i64 ((I:Nat):Int))),(8,.x (.int .i64 (5-((s+1:Nat):Int))))] [(3,[.x (.func (.func g) #[] gl),.x (.func (.func sf) #[] gs)]),(1003,ak d0)] (Sem.block (Sem.loop (X:={i:Nat//i0<=i∧i<=b∧Go.Sort.scanSorted ac d0 b i=I}) (fun x=>[(1,.x (.int .i64 (a:Int))),(2,.x (.int .i64 (b:Int))),(3,.ptr 3 0),(7,.x (.int .i64 ((x.1:Nat):Int))),(8,.x (.int .i64 (5-((s+1:Nat):Int))))]) (fun _=>[(3,[.x (.func (.func g) #[] gl),.x (.func (.func sf) #[] gs)]),(1003,ak d0)]) (fun x=>b-x.1) ⟨i0,by omega,by omega,hI⟩ (by simp +decide only[go_sem]<;>(repeat' first|rfl|constructor)) (by simp +decide only[go_sem]<;>(repeat' first|rfl|constructor)) (fun⟨i,hi1,hi2,hi3⟩=>Sem.run hE ae (by kernel_rfl) ?_))) ?_
   . simp only;by_cases hc:i<b
     . have c1:decide (((i:Nat):Int)<((b:Nat):Int))=true:=LP (by omega);have c2:av .i64 (((i:Nat):Int)+1)=((i+1:Nat):Int):=by rw[am (by unfold bS;omega)];omega
       have c3:av .i64 (((i:Nat):Int)-1)=((i-1:Nat):Int):=by rw[am (by unfold bS;omega)];omega
       have l1:=bc (N:=N) i (i-1) d0 (by omega) (by omega) hd0;cases hl:ac d0[i]! d0[i-1]! with
       |false=>rw[ma hc hl] at hi3;rw[hl] at l1;simp +decide (maxDischargeDepth:=200) only[go_sem,X1,X2,X3,aW,c1,c2,c3,l1];refine⟨⟨i+1,by omega,by omega,hi3⟩,?_,?_,by simp only;omega⟩<;>simp +decide only[go_sem]<;>(repeat' first|rfl|constructor)
       |true=>rw[gd (by rw[hl];simp)] at hi3;rw[hl] at l1;rw[<-hi3];simp +decide (maxDischargeDepth:=200) only[go_sem,X1,X2,X3,aW,c1,c2,c3,l1]
     . have c1:decide (((i:Nat):Int)<((b:Nat):Int))=false:=LO (by omega);rw[gd (fun h=>hc h.1)] at hi3;rw[<-hi3];simp +decide (maxDischargeDepth:=200) only[go_sem,X1,X2,X3,aW,c1]
   by_cases hIb:I=b
   . rw[Et hI hIb] at heq;have c1:decide (((I:Nat):Int)=((b:Nat):Int))=true:=LP (by omega);rw[<-heq];refine Sem.seq_out (Sem.run hE ae (by kernel_rfl) ?_);simp +decide (maxDischargeDepth:=200) only[go_sem,X1,X2,X3,aW,c1]
   have c1:decide (((I:Nat):Int)=((b:Nat):Int))=false:=LO (by omega);have w2:av .i64 ((b:Int)-(a:Int))=((b-a:Nat):Int):=by rw[am (by unfold bS;omega)];omega
   refine Sem.seq [(1,.x (.int .i64 (a:Int))),(2,.x (.int .i64 (b:Int))),(3,.ptr 3 0),(7,.x (.int .i64 ((I:Nat):Int))),(8,.x (.int .i64 (5-((s+1:Nat):Int))))] [(3,[.x (.func (.func g) #[] gl),.x (.func (.func sf) #[] gs)]),(1003,ak d0)] (Sem.run hE ae (by kernel_rfl) (by simp +decide (maxDischargeDepth:=200) only[go_sem,X1,X2,X3,aW,c1])) ?_;by_cases h50:b-a<50
   . rw[Eu hI hIb h50] at heq;have c2:decide (((b-a:Nat):Int)<50)=true:=LP (by omega);rw[<-heq];refine Sem.seq_out (Sem.run hE ae (by kernel_rfl) ?_);simp +decide (maxDischargeDepth:=200) only[go_sem,X1,X2,X3,aW,w2,c2]
   have c2:decide (((b-a:Nat):Int)<50)=false:=LO (by omega);have q:=hQ2 hIb h50;have w3:av .i64 ((I:Int)-1)=((I-1:Nat):Int):=by rw[am (by unfold bS;omega)];omega
   have w4:av .i64 ((I:Int)-(a:Int))=((I-a:Nat):Int):=by rw[am (by unfold bS;omega)];omega
   have w5:av .i64 ((b:Int)-(I:Int))=((b-I:Nat):Int):=by rw[am (by unfold bS;omega)];omega
   have w6:av .i64 ((I:Int)+1)=((I+1:Nat):Int):=by rw[am (by unfold bS;omega)];omega
   have s1:=bA (N:=N) I (I-1) d0 (by omega) (by omega) hd0;rw[hD0] at s1;refine Sem.seq [(1,.x (.int .i64 (a:Int))),(2,.x (.int .i64 (b:Int))),(3,.ptr 3 0),(7,.x (.int .i64 ((I:Nat):Int))),(8,.x (.int .i64 (5-((s+1:Nat):Int))))] [(3,[.x (.func (.func g) #[] gl),.x (.func (.func sf) #[] gs)]),(1003,ak d0)] (Sem.run hE ae (by kernel_rfl) (by simp +decide (maxDischargeDepth:=200) only[go_sem,X1,X2,X3,aW,w2,c2])) ?_;refine Sem.seq [(1,.x (.int .i64 (a:Int))),(2,.x (.int .i64 (b:Int))),(3,.ptr 3 0),(7,.x (.int .i64 ((I:Nat):Int))),(8,.x (.int .i64 (5-((s+1:Nat):Int))))] [(3,[.x (.func (.func g) #[] gl),.x (.func (.func sf) #[] gs)]),(1003,ak D0)] (Sem.run hE ae (by kernel_rfl) (by simp +decide (maxDischargeDepth:=200) only[go_sem,X1,X2,X3,aW,w3,s1])) ?_;refine Sem.seq [(1,.x (.int .i64 (a:Int))),(2,.x (.int .i64 (b:Int))),(3,.ptr 3 0),(7,.x (.int .i64 ((I:Nat):Int))),(8,.x (.int .i64 (5-((s+1:Nat):Int))))] [(3,[.x (.func (.func g) #[] gl),.x (.func (.func sf) #[] gs)]),(1003,ak D1)] ?_ ?_
   . by_cases h2:I-a≥2
     . rw[L0 h2] at hD1;have c3:decide (2<=((I-a:Nat):Int))=true:=LP (by omega);refine Sem.seq [(1,.x (.int .i64 (a:Int))),(2,.x (.int .i64 (b:Int))),(3,.ptr 3 0),(7,.x (.int .i64 ((I:Nat):Int))),(8,.x (.int .i64 (5-((s+1:Nat):Int)))),(47,.x (.bool true))] [(3,[.x (.func (.func g) #[] gl),.x (.func (.func sf) #[] gs)]),(1003,ak D0)] (Sem.run hE ae (by kernel_rfl) (by simp +decide (maxDischargeDepth:=200) only[go_sem,X1,X2,X3,aW,w4,c3])) ?_;refine Sem.cond (t:=true) (by simp +decide (maxDischargeDepth:=200) only[go_sem,X1,X2,X3,aW]) (fun _=>?_) (fun h=>by cases h);refine Sem.seq [(1,.x (.int .i64 (a:Int))),(2,.x (.int .i64 (b:Int))),(3,.ptr 3 0),(7,.x (.int .i64 ((I:Nat):Int))),(8,.x (.int .i64 (5-((s+1:Nat):Int)))),(9,.x (.int .i64 ((I-1:Nat):Int)))] [(3,[.x (.func (.func g) #[] gl),.x (.func (.func sf) #[] gs)]),(1003,ak D0)] (Sem.run hE ae (by kernel_rfl) (by simp +decide (maxDischargeDepth:=200) only[go_sem,X1,X2,X3,aW,w3])) ?_;refine Sem.block (Sem.loop (X:={x:Nat×Array aJ//x.1<=I-1∧x.2.size=N∧Go.Sort.shiftDown ac x.1 x.2=D1}) (fun x=>[(1,.x (.int .i64 (a:Int))),(2,.x (.int .i64 (b:Int))),(3,.ptr 3 0),(7,.x (.int .i64 ((I:Nat):Int))),(8,.x (.int .i64 (5-((s+1:Nat):Int)))),(9,.x (.int .i64 ((x.1.1:Nat):Int)))]) (fun x=>[(3,[.x (.func (.func g) #[] gl),.x (.func (.func sf) #[] gs)]),(1003,ak x.1.2)]) (fun x=>x.1.1) ⟨(I-1,D0),by simp only;omega,z0,hD1⟩ (by simp +decide only[go_sem]<;>(repeat' first|rfl|constructor)) (by simp +decide only[go_sem]<;>(repeat' first|rfl|constructor)) (fun⟨⟨j,dj⟩,hj1,hj2,hj3⟩=>Sem.run hE ae (by kernel_rfl) ?_));simp only at hj1 hj2 hj3⊢;cases j with
       |zero=>have c4:decide (1<=((0:Nat):Int))=false:=LO (by omega);rw[Go.Sort.shiftDown] at hj3;rw[<-hj3];simp +decide (maxDischargeDepth:=200) only[go_sem,X1,X2,X3,aW,c4]
       | succ j=>
         have c4:decide (1<=((j+1:Nat):Int))=true:=LP (by omega);have c5:av .i64 (((j+1:Nat):Int)-1)=((j:Nat):Int):=by rw[am (by unfold bS;omega)];omega
         have l1:=bc (N:=N) (j+1) j dj (by omega) (by omega) hj2;have s2:=bA (N:=N) (j+1) j dj (by omega) (by omega) hj2;rw[Go.Sort.shiftDown] at hj3;cases hl:ac dj[j+1]! dj[j]! with
         |false=>rw[hl] at l1 hj3;simp only[NA,MH] at hj3;rw[<-hj3];simp +decide (maxDischargeDepth:=200) only[go_sem,X1,X2,X3,aW,c4,c5,l1]
         |true=>rw[hl] at l1 hj3;simp only[M7,Mq,ML] at hj3;simp +decide (maxDischargeDepth:=200) only[go_sem,X1,X2,X3,aW,c4,c5,l1,s2];refine⟨⟨(j,swp dj (j+1) j),by simp only;omega,by rw[aP];exact hj2,hj3⟩,?_,?_,by simp only;omega⟩<;>simp +decide only[go_sem]<;>(repeat' first|rfl|constructor)
     . rw[L1 h2] at hD1;have c3:decide (2<=((I-a:Nat):Int))=false:=LO (by omega);rw[<-hD1];refine Sem.run hE ae (by kernel_rfl) ?_;simp +decide (maxDischargeDepth:=200) only[go_sem,X1,X2,X3,aW,w4,c3]
   by_cases h2:b-I≥2
   . rw[L0 h2] at hD2;have c3:decide (2<=((b-I:Nat):Int))=true:=LP (by omega);refine Sem.seq [(1,.x (.int .i64 (a:Int))),(2,.x (.int .i64 (b:Int))),(3,.ptr 3 0),(7,.x (.int .i64 ((I:Nat):Int))),(8,.x (.int .i64 (5-((s+1:Nat):Int)))),(70,.x (.bool true))] [(3,[.x (.func (.func g) #[] gl),.x (.func (.func sf) #[] gs)]),(1003,ak D1)] (Sem.run hE ae (by kernel_rfl) (by simp +decide (maxDischargeDepth:=200) only[go_sem,X1,X2,X3,aW,w5,c3])) ?_;refine Sem.cond (t:=true) (by simp +decide (maxDischargeDepth:=200) only[go_sem,X1,X2,X3,aW]) (fun _=>?_) (fun h=>by cases h);refine Sem.seq [(1,.x (.int .i64 (a:Int))),(2,.x (.int .i64 (b:Int))),(3,.ptr 3 0),(7,.x (.int .i64 ((I:Nat):Int))),(8,.x (.int .i64 (5-((s+1:Nat):Int)))),(10,.x (.int .i64 ((I+1:Nat):Int)))] [(3,[.x (.func (.func g) #[] gl),.x (.func (.func sf) #[] gs)]),(1003,ak D1)] (Sem.run hE ae (by kernel_rfl) (by simp +decide (maxDischargeDepth:=200) only[go_sem,X1,X2,X3,aW,w6])) ?_;refine Sem.block (Sem.loop (X:={x:Nat×Array aJ//I+1<=x.1∧x.1<=b∧x.2.size=N∧Go.Sort.shiftUp ac b x.1 x.2=D2}) (fun x=>[(1,.x (.int .i64 (a:Int))),(2,.x (.int .i64 (b:Int))),(3,.ptr 3 0),(7,.x (.int .i64 ((I:Nat):Int))),(8,.x (.int .i64 (5-((s+1:Nat):Int)))),(10,.x (.int .i64 ((x.1.1:Nat):Int)))]) (fun x=>[(3,[.x (.func (.func g) #[] gl),.x (.func (.func sf) #[] gs)]),(1003,ak x.1.2)]) (fun x=>b-x.1.1) ⟨(I+1,D1),by simp only;omega,by simp only;omega,z1,hD2⟩ (by simp +decide only[go_sem]<;>(repeat' first|rfl|constructor)) (by simp +decide only[go_sem]<;>(repeat' first|rfl|constructor)) (fun⟨⟨j,dj⟩,hj0,hj1,hj2,hj3⟩=>Sem.run hE ae (by kernel_rfl) ?_));simp only at hj0 hj1 hj2 hj3⊢;rw[Go.Sort.shiftUp] at hj3;by_cases hjb:j<b
     . have c4:decide (((j:Nat):Int)<((b:Nat):Int))=true:=LP (by omega);have c5:av .i64 (((j:Nat):Int)-1)=((j-1:Nat):Int):=by rw[am (by unfold bS;omega)];omega
       have c6:av .i64 (((j:Nat):Int)+1)=((j+1:Nat):Int):=by rw[am (by unfold bS;omega)];omega
       have l1:=bc (N:=N) j (j-1) dj (by omega) (by omega) hj2;have s2:=bA (N:=N) j (j-1) dj (by omega) (by omega) hj2;rw[L0 hjb] at hj3;cases hl:ac dj[j]! dj[j-1]! with
       |false=>rw[hl] at l1 hj3;simp only[NA,MH] at hj3;rw[<-hj3];simp +decide (maxDischargeDepth:=200) only[go_sem,X1,X2,X3,aW,c4,c5,l1,q]
       |true=>rw[hl] at l1 hj3;simp only[M7,Mq,ML] at hj3;simp +decide (maxDischargeDepth:=200) only[go_sem,X1,X2,X3,aW,c4,c5,c6,l1,s2];refine⟨⟨(j+1,swp dj j (j-1)),by simp only;omega,by simp only;omega,by rw[aP];exact hj2,hj3⟩,?_,?_,by simp only;omega⟩<;>simp +decide only[go_sem]<;>(repeat' first|rfl|constructor)
     . have c4:decide (((j:Nat):Int)<((b:Nat):Int))=false:=LO (by omega);rw[L1 hjb] at hj3;rw[<-hj3];simp +decide (maxDischargeDepth:=200) only[go_sem,X1,X2,X3,aW,c4,q]
   . rw[L1 h2] at hD2;have c3:decide (2<=((b-I:Nat):Int))=false:=LO (by omega);rw[<-hD2];refine Sem.run hE ae (by kernel_rfl) ?_;simp +decide (maxDischargeDepth:=200) only[go_sem,X1,X2,X3,aW,w5,c3,q]
theorem Cl (hS:SoOKS3 G bk N g sf gl gs):FunXVS3 G bk 47 [] (FE (bg g sf gl gs) (kJ N)):=by
 obtain⟨X,hX,X1,X2,X3⟩:=cQ hS [] trivial;have hN:=hS.N1;unfold MXS3 at hN;refine bh (k:=3) hX Try.func47 rfl (fun a w=>Try.call47 a w) Try.ntmps47 (by decide) (by decide) ?_;clear hX;intro us r outs hF;obtain⟨⟨a,b,d⟩,hus,hG⟩:=bX hF;clear hF;subst hus;unfold kJ at hG;obtain⟨⟨hab,hbN,hd⟩,hG⟩:=bm hG;simp only at hab hbN hd;cases hG;refine⟨_,rfl,rfl,fun pm m0 w0 hE=>?_⟩;simp only[bg];have w1:av .i64 ((b:Int)-1)=((b-1:Nat):Int):=by rw[am (by unfold bS;omega)];omega
 refine Sem.run hE ae (by kernel_rfl) ?_;simp +decide (maxDischargeDepth:=200) only[go_sem,X1,X2,X3,aW,w1];refine ee (X:={x:Nat×Nat×Array aJ//x.1<=N∧x.2.1<N∧x.2.2.size=N∧Go.Sort.reverseLoop x.1 x.2.1 x.2.2=Go.Sort.reverseRange d a b}) (fun x=>[(3,.ptr 3 0),(6,.x (.int .i64 ((x.1.1:Nat):Int))),(7,.x (.int .i64 ((x.1.2.1:Nat):Int)))]) (fun x=>[(3,[.x (.func (.func g) #[] gl),.x (.func (.func sf) #[] gs)]),(1003,ak x.1.2.2)]) (fun x=>x.1.2.1-x.1.1) ⟨(a,b-1,d),by simp only;omega,by simp only;omega,hd,rfl⟩ (by simp +decide only[go_sem]<;>(repeat' first|rfl|constructor)) (by simp +decide only[go_sem]<;>(repeat' first|rfl|constructor)) (fun⟨⟨i,j,dk⟩,hi,hj,hdk,heq⟩=>?_);simp only at hi hj hdk heq;by_cases hc:i<j
 . have c1:decide (((i:Nat):Int)<((j:Nat):Int))=true:=LP (by omega);have c2:av .i64 (((i:Nat):Int)+1)=((i+1:Nat):Int):=by rw[am (by unfold bS;omega)];omega
   have c3:av .i64 (((j:Nat):Int)-1)=((j-1:Nat):Int):=by rw[am (by unfold bS;omega)];omega
   have s1:=bA (N:=N) i j dk (by omega) (by omega) hdk;rw[Go.Sort.reverseLoop,L0 hc] at heq;simp +decide (maxDischargeDepth:=200) only[go_sem,X1,X2,X3,aW,c1,c2,c3,s1];refine⟨⟨(i+1,j-1,swp dk i j),by simp only;omega,by simp only;omega,by rw[aP];exact hdk,heq⟩,?_,?_,by simp only;omega⟩<;>simp +decide only[go_sem]<;>(repeat' first|rfl|constructor)
 . have c1:decide (((i:Nat):Int)<((j:Nat):Int))=false:=LO (by omega);rw[Go.Sort.reverseLoop,L1 hc] at heq;subst heq;simp +decide (maxDischargeDepth:=200) only[go_sem,X1,X2,X3,aW,c1]
theorem im (d:Array aJ) (a b s M:Nat) (ha:a<M) (hb:b<M):(Go.Sort.order2 ac d a b s).1<M∧(Go.Sort.order2 ac d a b s).2.1<M∧(Go.Sort.order2 ac d a b s).2.2<=s+1:=by unfold Go.Sort.order2;split<;>exact⟨by assumption,by assumption,by simp only;omega⟩
theorem m7 (d:Array aJ) (a b c s M:Nat) (ha:a<M) (hb:b<M) (hc:c<M):(Go.Sort.median ac d a b c s).1<M∧(Go.Sort.median ac d a b c s).2<=s+3:=by unfold Go.Sort.median;simp only;have h1:=im d a b s M ha hb;have h2:=im d _ c (Go.Sort.order2 ac d a b s).2.2 M h1.2.1 hc;have h3:=im d _ _ (Go.Sort.order2 ac d (Go.Sort.order2 ac d a b s).2.1 c (Go.Sort.order2 ac d a b s).2.2).2.2 M h1.1 h2.1;exact⟨h3.2.1,by omega⟩
def pw (N:Nat) (x:Nat×Nat×Nat×Array aJ):Option (V×List (List V)):=if x.1<N∧x.2.1<N∧x.2.2.1<=1000∧x.2.2.2.size=N then some (.tup [.x (.int .i64 ((Go.Sort.order2 ac x.2.2.2 x.1 x.2.1 x.2.2.1).1:Int)),.x (.int .i64 ((Go.Sort.order2 ac x.2.2.2 x.1 x.2.1 x.2.2.1).2.1:Int))],[[.x (.int .i64 ((Go.Sort.order2 ac x.2.2.2 x.1 x.2.1 x.2.2.1).2.2:Int))],ak x.2.2.2]) else none
def iP (N:Nat) (x:Nat×Nat×Nat×Nat×Array aJ):Option (V×List (List V)):=if x.1<N∧x.2.1<N∧x.2.2.1<N∧x.2.2.2.1<=900∧x.2.2.2.2.size=N then some (.x (.int .i64 ((Go.Sort.median ac x.2.2.2.2 x.1 x.2.1 x.2.2.1 x.2.2.2.1).1:Int)),[[.x (.int .i64 ((Go.Sort.median ac x.2.2.2.2 x.1 x.2.1 x.2.2.1 x.2.2.2.1).2:Int))],ak x.2.2.2.2]) else none
def px (N:Nat) (x:Nat×Nat×Array aJ):Option (V×List (List V)):=if 1<=x.1∧x.1+1<N∧x.2.1<=900∧x.2.2.size=N then some (.x (.int .i64 ((Go.Sort.medianAdjacent ac x.2.2 x.1 x.2.1).1:Int)),[[.x (.int .i64 ((Go.Sort.medianAdjacent ac x.2.2 x.1 x.2.1).2:Int))],ak x.2.2]) else none
def kK (N:Nat) (x:Nat×Nat×Array aJ):Option (V×List (List V)):=if x.1<x.2.1∧x.2.1<=N∧x.2.2.size=N then some (.tup [.x (.int .i64 ((Go.Sort.choosePivot ac x.2.2 x.1 x.2.1).1:Int)),.x (.int .i64 (Go.Sort.hintCode (Go.Sort.choosePivot ac x.2.2 x.1 x.2.1).2))],[ak x.2.2]) else none
section
variable {g sf:FuncId} {gl gs:Array Value} {N:Nat}
theorem m8 (a b s:Nat) (d:Array aJ) (h1:a<N) (h2:b<N) (h3:s<=1000) (h4:d.size=N):FE (gK g sf gl gs) (pw N) [bu g sf gl gs,.x (.int .i64 (a:Int)),.x (.int .i64 (b:Int)),.bx [.x (.int .i64 (s:Int))],.bx (ak d)]=some (.tup [.x (.int .i64 ((Go.Sort.order2 ac d a b s).1:Int)),.x (.int .i64 ((Go.Sort.order2 ac d a b s).2.1:Int))],[[.x (.int .i64 ((Go.Sort.order2 ac d a b s).2.2:Int))],ak d]):=
 (c9 sc (pw N) (a,b,s,d)).trans (L0 ⟨h1,h2,h3,h4⟩)
theorem kL (a b c s:Nat) (d:Array aJ) (h1:a<N) (h2:b<N) (h0:c<N) (h3:s<=900) (h4:d.size=N):FE (fO g sf gl gs) (iP N) [bu g sf gl gs,.x (.int .i64 (a:Int)),.x (.int .i64 (b:Int)),.x (.int .i64 (c:Int)),.bx [.x (.int .i64 (s:Int))],.bx (ak d)]=some (.x (.int .i64 ((Go.Sort.median ac d a b c s).1:Int)),[[.x (.int .i64 ((Go.Sort.median ac d a b c s).2:Int))],ak d]):=
 (c9 se (iP N) (a,b,c,s,d)).trans (L0 ⟨h1,h2,h0,h3,h4⟩)
theorem m9 (a s:Nat) (d:Array aJ) (h1:1<=a) (h2:a+1<N) (h3:s<=900) (h4:d.size=N):FE (gL g sf gl gs) (px N) [bu g sf gl gs,.x (.int .i64 (a:Int)),.bx [.x (.int .i64 (s:Int))],.bx (ak d)]=some (.x (.int .i64 ((Go.Sort.medianAdjacent ac d a s).1:Int)),[[.x (.int .i64 ((Go.Sort.medianAdjacent ac d a s).2:Int))],ak d]):=
 (c9 sd (px N) (a,s,d)).trans (L0 ⟨h1,h2,h3,h4⟩)
end
theorem Ew (hS:SoOKS3 G bk N g sf gl gs):FunXVS3 G bk 57 [] (FE (gK g sf gl gs) (pw N)):=by
 obtain⟨X,hX,X1,X2,X3⟩:=cQ hS [] trivial;have hN:=hS.N1;unfold MXS3 at hN;refine bh (k:=4) hX Try.func57 rfl (fun a w=>Try.call57 a w) Try.ntmps57 (by decide) (by decide) ?_;clear hX;intro us r outs hF;obtain⟨⟨a,b,s,d⟩,hus,hG⟩:=bX hF;clear hF;subst hus;unfold pw at hG;obtain⟨⟨ha,hb,hs,hd⟩,hG⟩:=bm hG;simp only at ha hb hs hd;cases hG;refine⟨_,rfl,rfl,fun pm m0 w0 hE=>?_⟩;simp only[gK];have w1:av .i64 ((s:Int)+1)=((s+1:Nat):Int):=by rw[am (by unfold bS;omega)];omega
 have l1:=bc (N:=N) b a d hb ha hd;refine Sem.run hE ae (by kernel_rfl) ?_;unfold Go.Sort.order2;cases hl:ac d[b]! d[a]! with
 |true=>rw[hl] at l1;simp +decide (maxDischargeDepth:=200) only[go_sem,X1,X2,X3,aW,w1,l1]
 |false=>rw[hl] at l1;simp +decide (maxDischargeDepth:=200) only[go_sem,X1,X2,X3,aW,w1,l1]
theorem tw (hS:SoOKS3 G bk N g sf gl gs):FunXVS3 G bk 56 [] (FE (fO g sf gl gs) (iP N)):=by obtain⟨X,hX,X1,X2,X3⟩:=cQ hS [(57,FE (gK g sf gl gs) (pw N))] ⟨Ew hS,trivial⟩;have hN:=hS.N1;unfold MXS3 at hN;refine bh (k:=5) hX Try.func56 rfl (fun a w=>Try.call56 a w) Try.ntmps56 (by decide) (by decide) ?_;clear hX;intro us r outs hF;obtain⟨⟨a,b,c,s,d⟩,hus,hG⟩:=bX hF;clear hF;subst hus;unfold iP at hG;obtain⟨⟨ha,hb,hc,hs,hd⟩,hG⟩:=bm hG;simp only at ha hb hc hs hd;cases hG;refine⟨_,rfl,rfl,fun pm m0 w0 hE=>?_⟩;simp only[fO];unfold Go.Sort.median;simp only;have b1:=im d a b s N ha hb;have e1:=m8 (g:=g) (sf:=sf) (gl:=gl) (gs:=gs) (N:=N) a b s d ha hb (by omega) hd;generalize Go.Sort.order2 ac d a b s=r1 at b1 e1⊢;have b2:=im d r1.2.1 c r1.2.2 N b1.2.1 hc;have e2:=m8 (g:=g) (sf:=sf) (gl:=gl) (gs:=gs) (N:=N) r1.2.1 c r1.2.2 d b1.2.1 hc (by omega) hd;generalize Go.Sort.order2 ac d r1.2.1 c r1.2.2=r2 at b2 e2⊢;have e3:=m8 (g:=g) (sf:=sf) (gl:=gl) (gs:=gs) (N:=N) r1.1 r2.1 r2.2.2 d b1.1 b2.1 (by omega) hd;generalize Go.Sort.order2 ac d r1.1 r2.1 r2.2.2=r3 at e3⊢;refine Sem.run hE ae (by kernel_rfl) ?_;simp +decide (maxDischargeDepth:=200) only[go_sem,X1,X2,X3,aW,e1,e2,e3]
theorem Ex (hS:SoOKS3 G bk N g sf gl gs):FunXVS3 G bk 55 [] (FE (gL g sf gl gs) (px N)):=by
 obtain⟨X,hX,X1,X2,X3⟩:=cQ hS [(56,FE (fO g sf gl gs) (iP N))] ⟨tw hS,trivial⟩;have hN:=hS.N1;unfold MXS3 at hN;refine bh (k:=3) hX Try.func55 rfl (fun a w=>Try.call55 a w) Try.ntmps55 (by decide) (by decide) ?_;clear hX;intro us r outs hF;obtain⟨⟨a,s,d⟩,hus,hG⟩:=bX hF;clear hF;subst hus;unfold px at hG;obtain⟨⟨h1,h2,hs,hd⟩,hG⟩:=bm hG;simp only at h1 h2 hs hd;cases hG;refine⟨_,rfl,rfl,fun pm m0 w0 hE=>?_⟩;simp only[gL];unfold Go.Sort.medianAdjacent;have w1:av .i64 ((a:Int)+1)=((a+1:Nat):Int):=by rw[am (by unfold bS;omega)];omega
 have w2:av .i64 ((a:Int)-1)=((a-1:Nat):Int):=by rw[am (by unfold bS;omega)];omega
 have e1:=kL (g:=g) (sf:=sf) (gl:=gl) (gs:=gs) (N:=N) (a-1) a (a+1) s d (by omega) (by omega) (by omega) hs hd;refine Sem.run hE ae (by kernel_rfl) ?_;simp +decide (maxDischargeDepth:=200) only[go_sem,X1,X2,X3,aW,w1,w2,e1]
theorem Cm (hS:SoOKS3 G bk N g sf gl gs):FunXVS3 G bk 46 [] (FE (bg g sf gl gs) (kK N)):=by
 obtain⟨X,hX,X1,X2,X3⟩:=cQ hS [(55,FE (gL g sf gl gs) (px N)),(56,FE (fO g sf gl gs) (iP N))] ⟨Ex hS,tw hS,trivial⟩;have hN:=hS.N1;unfold MXS3 at hN;refine bh (k:=3) hX Try.func46 rfl (fun a w=>Try.call46 a w) Try.ntmps46 (by decide) (by decide) ?_;clear hX;intro us r outs hF;obtain⟨⟨a,b,d⟩,hus,hG⟩:=bX hF;clear hF;subst hus;unfold kK at hG;obtain⟨⟨hab,hbN,hd⟩,hG⟩:=bm hG;simp only at hab hbN hd;cases hG;refine⟨_,rfl,rfl,fun pm m0 w0 hE=>?_⟩;simp only[bg];obtain⟨l,hl⟩:∃l,b-a=l:=⟨_,rfl⟩;obtain⟨i,hi⟩:∃i,a+l/4*1=i:=⟨_,rfl⟩;obtain⟨j,hj⟩:∃j,a+l/4*2=j:=⟨_,rfl⟩;obtain⟨k,hk⟩:∃k,a+l/4*3=k:=⟨_,rfl⟩;have w0:av .i64 ((b:Int)-(a:Int))=((l:Nat):Int):=by rw[am (by unfold bS;omega)];omega
 have q1:av .i64 ((l:Int).tdiv 4)=((l/4:Nat):Int):=by rw[NR (by omega),am (by unfold bS;omega)];omega
 have w1:av .i64 (((l/4:Nat):Int)*1)=((l/4*1:Nat):Int):=by rw[am (by unfold bS;omega)];omega
 have w2:av .i64 (((l/4:Nat):Int)*2)=((l/4*2:Nat):Int):=by rw[am (by unfold bS;omega)];omega
 have w3:av .i64 (((l/4:Nat):Int)*3)=((l/4*3:Nat):Int):=by rw[am (by unfold bS;omega)];omega
 have w4:av .i64 ((a:Int)+((l/4*1:Nat):Int))=((i:Nat):Int):=by rw[am (by unfold bS;omega)];omega
 have w5:av .i64 ((a:Int)+((l/4*2:Nat):Int))=((j:Nat):Int):=by rw[am (by unfold bS;omega)];omega
 have w6:av .i64 ((a:Int)+((l/4*3:Nat):Int))=((k:Nat):Int):=by rw[am (by unfold bS;omega)];omega
 obtain⟨r,hr⟩:∃r:Nat×Nat,(if l≥8 then if l≥50 then Go.Sort.median ac d (Go.Sort.medianAdjacent ac d i 0).1 (Go.Sort.medianAdjacent ac d j (Go.Sort.medianAdjacent ac d i 0).2).1 (Go.Sort.medianAdjacent ac d k (Go.Sort.medianAdjacent ac d j (Go.Sort.medianAdjacent ac d i 0).2).2).1 (Go.Sort.medianAdjacent ac d k (Go.Sort.medianAdjacent ac d j (Go.Sort.medianAdjacent ac d i 0).2).2).2 else Go.Sort.median ac d i j k 0 else (j,0))=r:=⟨_,rfl⟩;have hch:Go.Sort.choosePivot ac d a b=(r.1,if r.2=0 then .increasing else if r.2=12 then .decreasing else .unknown):=by unfold Go.Sort.choosePivot;simp only[hl,hi,hj,hk,hr]
 rw[hch];refine Sem.seq [(3,.ptr 3 0),(1,.x (.int .i64 (a:Int))),(2,.x (.int .i64 (b:Int)))] [(3,[.x (.func (.func g) #[] gl),.x (.func (.func sf) #[] gs)]),(1003,ak d)] (Sem.run hE ae (by kernel_rfl) (by simp +decide (maxDischargeDepth:=200) only[go_sem,X1,X2,X3,aW])) ?_;refine Sem.seq [(3,.ptr 3 0),(1,.x (.int .i64 (a:Int))),(8,.x (.int .i64 ((l:Nat):Int)))] [(3,[.x (.func (.func g) #[] gl),.x (.func (.func sf) #[] gs)]),(1003,ak d)] (Sem.run hE ae (by kernel_rfl) (by simp +decide (maxDischargeDepth:=200) only[go_sem,X1,X2,X3,aW,w0])) ?_;refine Sem.seq [(3,.ptr 3 0),(1,.x (.int .i64 (a:Int))),(8,.x (.int .i64 ((l:Nat):Int))),(9,.ptr 9 0)] [(3,[.x (.func (.func g) #[] gl),.x (.func (.func sf) #[] gs)]),(9,[.x (.int .i64 0)]),(1003,ak d)] (Sem.run hE ae (by kernel_rfl) (by simp +decide (maxDischargeDepth:=200) only[go_sem,X1,X2,X3,aW])) ?_;refine Sem.seq [(3,.ptr 3 0),(1,.x (.int .i64 (a:Int))),(8,.x (.int .i64 ((l:Nat):Int))),(9,.ptr 9 0),(10,.x (.int .i64 ((i:Nat):Int)))] [(3,[.x (.func (.func g) #[] gl),.x (.func (.func sf) #[] gs)]),(9,[.x (.int .i64 0)]),(1003,ak d)] (Sem.run hE ae (by kernel_rfl) (by simp +decide (maxDischargeDepth:=200) only[go_sem,X1,X2,X3,aW,q1,w1,w4])) ?_;refine Sem.seq [(3,.ptr 3 0),(1,.x (.int .i64 (a:Int))),(8,.x (.int .i64 ((l:Nat):Int))),(9,.ptr 9 0),(10,.x (.int .i64 ((i:Nat):Int))),(11,.x (.int .i64 ((j:Nat):Int)))] [(3,[.x (.func (.func g) #[] gl),.x (.func (.func sf) #[] gs)]),(9,[.x (.int .i64 0)]),(1003,ak d)] (Sem.run hE ae (by kernel_rfl) (by simp +decide (maxDischargeDepth:=200) only[go_sem,X1,X2,X3,aW,q1,w2,w5])) ?_;refine Sem.seq [(3,.ptr 3 0),(8,.x (.int .i64 ((l:Nat):Int))),(9,.ptr 9 0),(10,.x (.int .i64 ((i:Nat):Int))),(11,.x (.int .i64 ((j:Nat):Int))),(12,.x (.int .i64 ((k:Nat):Int)))] [(3,[.x (.func (.func g) #[] gl),.x (.func (.func sf) #[] gs)]),(9,[.x (.int .i64 0)]),(1003,ak d)] (Sem.run hE ae (by kernel_rfl) (by simp +decide (maxDischargeDepth:=200) only[go_sem,X1,X2,X3,aW,q1,w3,w6])) ?_;refine Sem.seq [(9,.ptr 9 0),(11,.x (.int .i64 ((r.1:Nat):Int)))] [(3,[.x (.func (.func g) #[] gl),.x (.func (.func sf) #[] gs)]),(9,[.x (.int .i64 ((r.2:Nat):Int))]),(1003,ak d)] (Sem.run hE ae (by kernel_rfl) ?_) ?_
 . by_cases h8:l≥8
   . rw[L0 h8] at hr;have c1:decide (8<=((l:Nat):Int))=true:=LP (by omega);by_cases h50:l≥50
     . rw[L0 h50] at hr;have c2:decide (50<=((l:Nat):Int))=true:=LP (by omega);have e1:=m9 (g:=g) (sf:=sf) (gl:=gl) (gs:=gs) (N:=N) i 0 d (by omega) (by omega) (by omega) hd;have b1:=m7 d (i-1) i (i+1) 0 N (by omega) (by omega) (by omega);change (Go.Sort.medianAdjacent ac d i 0).1<N∧(Go.Sort.medianAdjacent ac d i 0).2<=0+3 at b1;generalize Go.Sort.medianAdjacent ac d i 0=r1 at hr e1 b1;have e2:=m9 (g:=g) (sf:=sf) (gl:=gl) (gs:=gs) (N:=N) j r1.2 d (by omega) (by omega) (by omega) hd;have b2:=m7 d (j-1) j (j+1) r1.2 N (by omega) (by omega) (by omega);change (Go.Sort.medianAdjacent ac d j r1.2).1<N∧(Go.Sort.medianAdjacent ac d j r1.2).2<=r1.2+3 at b2;generalize Go.Sort.medianAdjacent ac d j r1.2=r2 at hr e2 b2;have e3:=m9 (g:=g) (sf:=sf) (gl:=gl) (gs:=gs) (N:=N) k r2.2 d (by omega) (by omega) (by omega) hd;have b3:=m7 d (k-1) k (k+1) r2.2 N (by omega) (by omega) (by omega);change (Go.Sort.medianAdjacent ac d k r2.2).1<N∧(Go.Sort.medianAdjacent ac d k r2.2).2<=r2.2+3 at b3;generalize Go.Sort.medianAdjacent ac d k r2.2=r3 at hr e3 b3;have e4:=kL (g:=g) (sf:=sf) (gl:=gl) (gs:=gs) (N:=N) r1.1 r2.1 r3.1 r3.2 d b1.1 b2.1 b3.1 (by omega) hd;rw[hr] at e4;rw[show((0:Nat):Int)=0 from rfl] at e1;simp +decide (maxDischargeDepth:=200) only[go_sem,X1,X2,X3,aW,c1,c2,e1,e2,e3,e4]
     . rw[L1 h50] at hr;have c2:decide (50<=((l:Nat):Int))=false:=LO (by omega);have e4:=kL (g:=g) (sf:=sf) (gl:=gl) (gs:=gs) (N:=N) i j k 0 d (by omega) (by omega) (by omega) (by omega) hd;rw[hr] at e4;rw[show((0:Nat):Int)=0 from rfl] at e4;simp +decide (maxDischargeDepth:=200) only[go_sem,X1,X2,X3,aW,c1,c2,e4]
   . rw[L1 h8] at hr;have c1:decide (8<=((l:Nat):Int))=false:=LO (by omega);rw[<-hr];simp +decide (maxDischargeDepth:=200) only[go_sem,X1,X2,X3,aW,c1];rfl
 . refine Sem.run hE ae (by kernel_rfl) ?_;by_cases h0:r.2=0
   . rw[L0 h0];have c1:decide (((r.2:Nat):Int)=0)=true:=LP (by omega);simp +decide (maxDischargeDepth:=200) only[go_sem,X1,X2,X3,aW,c1,Go.Sort.hintCode]
   . rw[L1 h0];have c1:decide (((r.2:Nat):Int)=0)=false:=LO (by omega);by_cases h12:r.2=12
     . rw[L0 h12];have c2:decide (((r.2:Nat):Int)=12)=true:=LP (by omega);simp +decide (maxDischargeDepth:=200) only[go_sem,X1,X2,X3,aW,c1,c2,Go.Sort.hintCode]
     . rw[L1 h12];have c2:decide (((r.2:Nat):Int)=12)=false:=LO (by omega);simp +decide (maxDischargeDepth:=200) only[go_sem,X1,X2,X3,aW,c1,c2,Go.Sort.hintCode]
theorem mb {ρ:Type} {p:Prop} {_inst:Decidable p} {o:Option ρ} {r:ρ} (h:(if p then o else none)=some r):p∧o=some r:=by
 by_cases hp:p
 . rw[L0 hp] at h;exact⟨hp,h⟩
 . rw[L1 hp] at h;cases h
open Go.Sort (SWO Below rd PermIn SortedIn)
theorem dp:SWO ac:=by
 refine⟨pt.irr,pt.trans,fun x y z h1 h2=>?_⟩;cases h3:ac x z with
 |false=>rfl
 | true=>
   cases h4:ac y x with
   |true=>rw[pt.trans _ _ _ h4 h3] at h2;cases h2
   |false=>have:=pt.tri _ _ h1 h4;subst this;rw[h3] at h2;cases h2
def gM (N:Nat) (x:Nat×Nat×Array aJ):Option (V×List (List V)):=if x.1<=x.2.1∧x.2.1<=N∧x.2.2.size=N then some (.tup [],[ak (Go.Sort.breakPatterns x.2.2 x.1 x.2.1)]) else none
open Classical in
noncomputable def fQ (N n:Nat) (x:Nat×Nat×Nat×Array aJ):Option (V×List (List V)):=if x.2.1-x.1<n∧x.1<=x.2.1∧x.2.1<=N∧x.2.2.1<=100∧x.2.2.2.size=N∧Below ac x.1 x.2.1 x.2.2.2 then some (.tup [],[ak (Go.Sort.pdq ac x.2.2.2 x.1 x.2.1 x.2.2.1 true true)]) else none
section
variable {g sf:FuncId} {gl gs:Array Value} {N:Nat}
theorem zI (a b:Nat) (d:Array aJ) (h1:a<=b) (h2:b<=N) (h3:d.size=N):FE (bg g sf gl gs) (kH N) [bu g sf gl gs,.x (.int .i64 (a:Int)),.x (.int .i64 (b:Int)),.bx (ak d)]=some (.tup [],[ak (Go.Sort.insertionSort ac d a b)]):=
 (c9 dn (kH N) (a,b,d)).trans (L0 ⟨h1,h2,h3⟩)
theorem vS (a b:Nat) (d:Array aJ) (h1:a<=b) (h2:b<=N) (h3:d.size=N):FE (bg g sf gl gs) (ij N) [bu g sf gl gs,.x (.int .i64 (a:Int)),.x (.int .i64 (b:Int)),.bx (ak d)]=some (.tup [],[ak (Go.Sort.heapSort ac d a b)]):=
 (c9 dn (ij N) (a,b,d)).trans (L0 ⟨h1,h2,h3⟩)
theorem zJ (a b:Nat) (d:Array aJ) (h1:a<=b) (h2:b<=N) (h3:d.size=N):FE (bg g sf gl gs) (gM N) [bu g sf gl gs,.x (.int .i64 (a:Int)),.x (.int .i64 (b:Int)),.bx (ak d)]=some (.tup [],[ak (Go.Sort.breakPatterns d a b)]):=
 (c9 dn (gM N) (a,b,d)).trans (L0 ⟨h1,h2,h3⟩)
theorem zK (a b:Nat) (d:Array aJ) (h1:a<b) (h2:b<=N) (h3:d.size=N):FE (bg g sf gl gs) (kK N) [bu g sf gl gs,.x (.int .i64 (a:Int)),.x (.int .i64 (b:Int)),.bx (ak d)]=some (.tup [.x (.int .i64 ((Go.Sort.choosePivot ac d a b).1:Int)),.x (.int .i64 (Go.Sort.hintCode (Go.Sort.choosePivot ac d a b).2))],[ak d]):=
 (c9 dn (kK N) (a,b,d)).trans (L0 ⟨h1,h2,h3⟩)
theorem zM (a b:Nat) (d:Array aJ) (h1:a<b) (h2:b<=N) (h3:d.size=N):FE (bg g sf gl gs) (kJ N) [bu g sf gl gs,.x (.int .i64 (a:Int)),.x (.int .i64 (b:Int)),.bx (ak d)]=some (.tup [],[ak (Go.Sort.reverseRange d a b)]):=
 (c9 dn (kJ N) (a,b,d)).trans (L0 ⟨h1,h2,h3⟩)
theorem vT (a b:Nat) (d:Array aJ) (h1:a<b) (h2:b<=N) (h3:d.size=N):FE (bg g sf gl gs) (il N) [bu g sf gl gs,.x (.int .i64 (a:Int)),.x (.int .i64 (b:Int)),.bx (ak d)]=some (.x (.bool (Go.Sort.partialInsertionSort ac d a b).2),[ak (Go.Sort.partialInsertionSort ac d a b).1]):=
 (c9 dn (il N) (a,b,d)).trans (L0 ⟨h1,h2,h3⟩)
theorem vU (a b pv:Nat) (d:Array aJ) (h1:a<=pv) (h0:pv<b) (h2:b<=N) (h3:d.size=N):FE (bJ g sf gl gs) (ik N) [bu g sf gl gs,.x (.int .i64 (a:Int)),.x (.int .i64 (b:Int)),.x (.int .i64 (pv:Int)),.bx (ak d)]=some (.tup [.x (.int .i64 ((Go.Sort.partition ac d a b pv).1:Int)),.x (.bool (Go.Sort.partition ac d a b pv).2.1)],[ak (Go.Sort.partition ac d a b pv).2.2]):=
 (c9 eY (ik N) (a,b,pv,d)).trans (L0 ⟨h1,h0,h2,h3⟩)
theorem sk (a b pv:Nat) (d:Array aJ) (h1:a<=pv) (h0:pv<b) (h2:b<=N) (h3:d.size=N):FE (bJ g sf gl gs) (fP N) [bu g sf gl gs,.x (.int .i64 (a:Int)),.x (.int .i64 (b:Int)),.x (.int .i64 (pv:Int)),.bx (ak d)]=some (.x (.int .i64 ((Go.Sort.partitionEqual ac d a b pv).1:Int)),[ak (Go.Sort.partitionEqual ac d a b pv).2]):=
 (c9 eY (fP N) (a,b,pv,d)).trans (L0 ⟨h1,h0,h2,h3⟩)
theorem kM (n a b lim:Nat) (d:Array aJ) (h0:b-a<n) (h1:a<=b) (h2:b<=N) (h3:lim<=100) (h4:d.size=N) (h5:Below ac a b d):FE (bJ g sf gl gs) (fQ N n) [bu g sf gl gs,.x (.int .i64 (a:Int)),.x (.int .i64 (b:Int)),.x (.int .i64 (lim:Int)),.bx (ak d)]=some (.tup [],[ak (Go.Sort.pdq ac d a b lim true true)]):=
 (c9 eY (fQ N n) (a,b,lim,d)).trans (L0 ⟨h0,h1,h2,h3,h4,h5⟩)
end
theorem sm (hS:SoOKS3 G bk N g sf gl gs) (hB:FunXVS3 G bk 45 [] (FE (bg g sf gl gs) (gM N))) (n:Nat) (ih:FunXVS3 G bk 29 [] (FE (bJ g sf gl gs) (fQ N n))):FunXVS3 G bk 29 [] (FE (bJ g sf gl gs) (fQ N (n+1))):=by
 obtain⟨X,hX,X1,X2,X3⟩:=cQ hS [(43,FE (bg g sf gl gs) (kH N)),(44,FE (bg g sf gl gs) (ij N)),(45,FE (bg g sf gl gs) (gM N)),(46,FE (bg g sf gl gs) (kK N)),(47,FE (bg g sf gl gs) (kJ N)),(48,FE (bg g sf gl gs) (il N)),(49,FE (bJ g sf gl gs) (fP N)),(50,FE (bJ g sf gl gs) (ik N)),(29,FE (bJ g sf gl gs) (fQ N n))] ⟨Ci hS,zF hS,hB,Cm hS,Cl hS,zH hS,vR hS,zG hS,ih,trivial⟩;have hN:=hS.N1;unfold MXS3 at hN;refine bh (k:=4) hX Try.func29 rfl (fun a w=>Try.call29 a w) Try.ntmps29 (by decide) (by decide) ?_;clear hX;intro us r outs hF;obtain⟨⟨a,b,lim,d⟩,hus,hG⟩:=bX hF;clear hF;subst hus;unfold fQ at hG;obtain⟨⟨hn,hab,hbN,hlim,hd,hBel⟩,hG⟩:=mb hG;simp only at hn hab hbN hlim hd hBel;cases hG;refine⟨_,rfl,rfl,fun pm m0 w0 hE=>?_⟩;simp only[bJ];obtain⟨P,hP⟩:∃P,Go.Sort.pdq ac d a b lim true true=P:=⟨_,rfl⟩;rw[hP];refine Sem.seq [(1,.x (.int .i64 (a:Int))),(2,.x (.int .i64 (b:Int))),(3,.x (.int .i64 (lim:Int))),(4,.ptr 4 0)] [(4,[.x (.func (.func g) #[] gl),.x (.func (.func sf) #[] gs)]),(1004,ak d)] (Sem.run hE ae (by kernel_rfl) (by simp +decide (maxDischargeDepth:=200) only[go_sem,X1,X2,X3,aW])) ?_;refine Sem.seq [(1,.x (.int .i64 (a:Int))),(2,.x (.int .i64 (b:Int))),(3,.x (.int .i64 (lim:Int))),(4,.ptr 4 0),(8,.x (.bool true))] [(4,[.x (.func (.func g) #[] gl),.x (.func (.func sf) #[] gs)]),(1004,ak d)] (Sem.run hE ae (by kernel_rfl) (by simp +decide (maxDischargeDepth:=200) only[go_sem,X1,X2,X3,aW])) ?_;refine Sem.seq [(1,.x (.int .i64 ((a:Nat):Int))),(2,.x (.int .i64 ((b:Nat):Int))),(3,.x (.int .i64 ((lim:Nat):Int))),(4,.ptr 4 0),(8,.x (.bool true)),(9,.x (.bool true))] [(4,[.x (.func (.func g) #[] gl),.x (.func (.func sf) #[] gs)]),(1004,ak d)] (Sem.run hE ae (by kernel_rfl) (by simp +decide (maxDischargeDepth:=200) only[go_sem,X1,X2,X3,aW])) ?_;refine Sem.block (Sem.loop (X:={x:Nat×Nat×Nat×Bool×Bool×Array aJ//x.1<=x.2.1∧x.2.1<=N∧x.2.1-x.1<=b-a∧x.2.2.1<=lim∧x.2.2.2.2.2.size=N∧Below ac x.1 x.2.1 x.2.2.2.2.2∧Go.Sort.pdq ac x.2.2.2.2.2 x.1 x.2.1 x.2.2.1 x.2.2.2.1 x.2.2.2.2.1=P}) (fun x=>[(1,.x (.int .i64 ((x.1.1:Nat):Int))),(2,.x (.int .i64 ((x.1.2.1:Nat):Int))),(3,.x (.int .i64 ((x.1.2.2.1:Nat):Int))),(4,.ptr 4 0),(8,.x (.bool x.1.2.2.2.1)),(9,.x (.bool x.1.2.2.2.2.1))]) (fun x=>[(4,[.x (.func (.func g) #[] gl),.x (.func (.func sf) #[] gs)]),(1004,ak x.1.2.2.2.2.2)]) (fun x=>x.1.2.1-x.1.1) ⟨(a,b,lim,true,true,d),hab,hbN,LM _,LM _,hd,hBel,hP⟩ (by simp +decide only[go_sem]<;>(repeat' first|rfl|constructor)) (by simp +decide only[go_sem]<;>(repeat' first|rfl|constructor)) (fun⟨⟨a1,b1,l1,wb,wp,dk⟩,x1,x2,x3,x4,hdk,hBk,heq⟩=>Sem.block ?_));simp only at x1 x2 x3 x4 hdk hBk heq⊢;have w1:av .i64 ((b1:Int)-(a1:Int))=((b1-a1:Nat):Int):=by rw[am (by unfold bS;omega)];omega
 refine Sem.seq [(1,.x (.int .i64 ((a1:Nat):Int))),(2,.x (.int .i64 ((b1:Nat):Int))),(3,.x (.int .i64 ((l1:Nat):Int))),(4,.ptr 4 0),(8,.x (.bool wb)),(9,.x (.bool wp)),(10,.x (.int .i64 ((b1-a1:Nat):Int)))] [(4,[.x (.func (.func g) #[] gl),.x (.func (.func sf) #[] gs)]),(1004,ak dk)] (Sem.run hE ae (by kernel_rfl) (by simp +decide (maxDischargeDepth:=200) only[go_sem,X1,X2,X3,aW,w1])) ?_;by_cases h12:b1-a1<=12
 . have c1:decide (((b1-a1:Nat):Int)<=12)=true:=LP (by omega);have e1:=zI (g:=g) (sf:=sf) (gl:=gl) (gs:=gs) (N:=N) a1 b1 dk x1 x2 hdk;rw[<-heq,Go.Sort.pdq_small h12];refine Sem.seq_out (Sem.run hE ae (by kernel_rfl) ?_);simp +decide (maxDischargeDepth:=200) only[go_sem,X1,X2,X3,aW,c1,e1]
 have c1:decide (((b1-a1:Nat):Int)<=12)=false:=LO (by omega);refine Sem.seq [(1,.x (.int .i64 ((a1:Nat):Int))),(2,.x (.int .i64 ((b1:Nat):Int))),(3,.x (.int .i64 ((l1:Nat):Int))),(4,.ptr 4 0),(8,.x (.bool wb)),(9,.x (.bool wp)),(10,.x (.int .i64 ((b1-a1:Nat):Int)))] [(4,[.x (.func (.func g) #[] gl),.x (.func (.func sf) #[] gs)]),(1004,ak dk)] (Sem.run hE ae (by kernel_rfl) (by simp +decide (maxDischargeDepth:=200) only[go_sem,X1,X2,X3,aW,c1])) ?_;by_cases hl0:l1=0
 . have c2:decide (((l1:Nat):Int)=0)=true:=LP (by omega);have e1:=vS (g:=g) (sf:=sf) (gl:=gl) (gs:=gs) (N:=N) a1 b1 dk x1 x2 hdk;rw[<-heq,Go.Sort.pdq_heap h12 hl0];refine Sem.seq_out (Sem.run hE ae (by kernel_rfl) ?_);simp +decide (maxDischargeDepth:=200) only[go_sem,X1,X2,X3,aW,c2,e1]
 have c2:decide (((l1:Nat):Int)=0)=false:=LO (by omega);refine Sem.seq [(1,.x (.int .i64 ((a1:Nat):Int))),(2,.x (.int .i64 ((b1:Nat):Int))),(3,.x (.int .i64 ((l1:Nat):Int))),(4,.ptr 4 0),(8,.x (.bool wb)),(9,.x (.bool wp)),(10,.x (.int .i64 ((b1-a1:Nat):Int)))] [(4,[.x (.func (.func g) #[] gl),.x (.func (.func sf) #[] gs)]),(1004,ak dk)] (Sem.run hE ae (by kernel_rfl) (by simp +decide (maxDischargeDepth:=200) only[go_sem,X1,X2,X3,aW,c2])) ?_;obtain⟨R,hR⟩:∃R,rd ac dk a1 b1 l1 wb wp=R:=⟨_,rfl⟩;obtain⟨s1,B1,hc1,s2,B2,hpv,s3,B3⟩:=Go.Sort.rd_facts (lt:=ac) (limit:=l1) (wb:=wb) (wp:=wp) dp Go.Sort.partialInsertionSort_holds Go.Sort.reverseRange_holds (show a1<b1 by omega) (show b1<=dk.size by omega) hBk;have hlm:=Go.Sort.rd_lim_le (lt:=ac) (d:=dk) (a:=a1) (b:=b1) (limit:=l1) (wb:=wb) (wp:=wp);rw[hR] at s1 B1 hc1 s2 B2 hpv s3 B3 hlm;refine Sem.seq [(1,.x (.int .i64 ((a1:Nat):Int))),(2,.x (.int .i64 ((b1:Nat):Int))),(3,.x (.int .i64 ((R.lim:Nat):Int))),(4,.ptr 4 0),(8,.x (.bool wb)),(9,.x (.bool wp)),(10,.x (.int .i64 ((b1-a1:Nat):Int)))] [(4,[.x (.func (.func g) #[] gl),.x (.func (.func sf) #[] gs)]),(1004,ak R.d1)] (Sem.run hE ae (by kernel_rfl) ?_) ?_
 . cases wb with
   |true=>obtain⟨q1,q2⟩:=Go.Sort.rd_true (lt:=ac) (d:=dk) (a:=a1) (b:=b1) (limit:=l1) (wp:=wp);rw[hR] at q1 q2;rw[q1,q2];simp +decide (maxDischargeDepth:=200) only[go_sem,X1,X2,X3,aW]
   | false=>
     obtain⟨q1,q2⟩:=Go.Sort.rd_false (lt:=ac) (d:=dk) (a:=a1) (b:=b1) (limit:=l1) (wp:=wp);rw[hR] at q1 q2;have e1:=zJ (g:=g) (sf:=sf) (gl:=gl) (gs:=gs) (N:=N) a1 b1 dk x1 x2 hdk;have w2:av .i64 ((l1:Int)-1)=((l1-1:Nat):Int):=by rw[am (by unfold bS;omega)];omega
     rw[q1,q2];simp +decide (maxDischargeDepth:=200) only[go_sem,X1,X2,X3,aW,e1,w2]
 have ec:=Go.Sort.rd_c (lt:=ac) (d:=dk) (a:=a1) (b:=b1) (limit:=l1) (wb:=wb) (wp:=wp);rw[hR] at ec;have e2:=zK (g:=g) (sf:=sf) (gl:=gl) (gs:=gs) (N:=N) a1 b1 R.d1 (by omega) x2 (s1.trans hdk);rw[<-ec] at e2;refine Sem.seq [(1,.x (.int .i64 ((a1:Nat):Int))),(2,.x (.int .i64 ((b1:Nat):Int))),(3,.x (.int .i64 ((R.lim:Nat):Int))),(4,.ptr 4 0),(8,.x (.bool wb)),(9,.x (.bool wp)),(10,.x (.int .i64 ((b1-a1:Nat):Int))),(11,.x (.int .i64 ((R.c.1:Nat):Int))),(12,.x (.int .i64 (Go.Sort.hintCode R.c.2)))] [(4,[.x (.func (.func g) #[] gl),.x (.func (.func sf) #[] gs)]),(1004,ak R.d1)] (Sem.run hE ae (by kernel_rfl) (by simp +decide (maxDischargeDepth:=200) only[go_sem,X1,X2,X3,aW,e2])) ?_;refine Sem.seq [(1,.x (.int .i64 ((a1:Nat):Int))),(2,.x (.int .i64 ((b1:Nat):Int))),(3,.x (.int .i64 ((R.lim:Nat):Int))),(4,.ptr 4 0),(8,.x (.bool wb)),(9,.x (.bool wp)),(10,.x (.int .i64 ((b1-a1:Nat):Int))),(11,.x (.int .i64 ((R.pivot:Nat):Int))),(12,.x (.int .i64 (Go.Sort.hintCode R.hint)))] [(4,[.x (.func (.func g) #[] gl),.x (.func (.func sf) #[] gs)]),(1004,ak R.d2)] (Sem.run hE ae (by kernel_rfl) ?_) ?_
 . by_cases hh:R.c.2= .decreasing
   . obtain⟨q1,q2,q3⟩:=Go.Sort.rd_dec (lt:=ac) (d:=dk) (a:=a1) (b:=b1) (limit:=l1) (wb:=wb) (wp:=wp) (by rw[hR];exact hh);rw[hR] at q1 q2 q3;have e3:=zM (g:=g) (sf:=sf) (gl:=gl) (gs:=gs) (N:=N) a1 b1 R.d1 (by omega) x2 (s1.trans hdk);rw[<-q1] at e3;have c3:decide (Go.Sort.hintCode R.c.2=2)=true:=by rw[hh];rfl
     have c4:Go.Sort.hintCode R.hint=1:=by rw[q3];rfl
     have w2:av .i64 ((b1:Int)-1)=((b1-1:Nat):Int):=by rw[am (by unfold bS;omega)];omega
     have w3:av .i64 (((R.c.1:Nat):Int)-(a1:Int))=((R.c.1-a1:Nat):Int):=by rw[am (by unfold bS;omega)];omega
     have w4:av .i64 (((b1-1:Nat):Int)-((R.c.1-a1:Nat):Int))=((R.pivot:Nat):Int):=by rw[am (by unfold bS;omega)];omega
     rw[c4];simp +decide (maxDischargeDepth:=200) only[go_sem,X1,X2,X3,aW,c3,e3,w2,w3,w4]
   . obtain⟨q1,q2,q3⟩:=Go.Sort.rd_not (lt:=ac) (d:=dk) (a:=a1) (b:=b1) (limit:=l1) (wb:=wb) (wp:=wp) (by rw[hR];exact hh);rw[hR] at q1 q2 q3
     have c3:decide (Go.Sort.hintCode R.c.2=2)=false:=LO (fun h=>hh (by generalize R.c.2=h0 at h;cases h0<;>first|rfl|(simp[Go.Sort.hintCode] at h)))
     rw[q1,q2,q3];simp +decide (maxDischargeDepth:=200) only[go_sem,X1,X2,X3,aW,c3]
 obtain⟨Q,hQ1,hQ2⟩:∃Q:Prop,(Q->R.pi.2=false)∧(R.pi.2=false->Q):=⟨_,id,id⟩;refine Sem.seqQ Q [(1,.x (.int .i64 ((a1:Nat):Int))),(2,.x (.int .i64 ((b1:Nat):Int))),(3,.x (.int .i64 ((R.lim:Nat):Int))),(4,.ptr 4 0),(8,.x (.bool wb)),(9,.x (.bool wp)),(10,.x (.int .i64 ((b1-a1:Nat):Int))),(11,.x (.int .i64 ((R.pivot:Nat):Int)))] [(4,[.x (.func (.func g) #[] gl),.x (.func (.func sf) #[] gs)]),(1004,ak R.pi.1)] (Sem.run hE ae (by kernel_rfl) ?_) (fun hq=>?_)
 . by_cases hin:R.hint= .increasing
   . have c5:decide (Go.Sort.hintCode R.hint=1)=true:=by rw[hin];rfl
     cases hw:(wb&&wp) with
     | true=>
       rw[LR] at hw;obtain⟨hwb,hwp⟩:=hw;have epi:=Go.Sort.rd_pi_yes (lt:=ac) (d:=dk) (a:=a1) (b:=b1) (limit:=l1) (wb:=wb) (wp:=wp) (by rw[hR,hin,hwb,hwp];rfl);rw[hR] at epi;have e4:=vT (g:=g) (sf:=sf) (gl:=gl) (gs:=gs) (N:=N) a1 b1 R.d2 (by omega) x2 (s2.trans hdk);rw[<-epi] at e4;cases h2:R.pi.2 with
       |true=>rw[h2] at e4;have hf:=Go.Sort.pdq_done (lt:=ac) (wb:=wb) (wp:=wp) h12 hl0 (by rw[hR];exact h2);rw[hR,heq] at hf;rw[hf];simp +decide (maxDischargeDepth:=200) only[go_sem,X1,X2,X3,aW,hwb,hwp,c5,e4]
       |false=>rw[h2] at e4;have q:=hQ2 h2;simp +decide (maxDischargeDepth:=200) only[go_sem,X1,X2,X3,aW,hwb,hwp,c5,e4,q]
     | false=>
       have epi:=Go.Sort.rd_pi_no (lt:=ac) (d:=dk) (a:=a1) (b:=b1) (limit:=l1) (wb:=wb) (wp:=wp) (by rw[hw];rfl);rw[hR] at epi;have q:=hQ2 (by rw[epi]);rw[epi];cases wb with
       |false=>simp +decide (maxDischargeDepth:=200) only[go_sem,X1,X2,X3,aW,c5,q]
       | true=>
         have hwp:wp=false:=by simpa using hw
         simp +decide (maxDischargeDepth:=200) only[go_sem,X1,X2,X3,aW,hwp,c5,q]
   . have c5:decide (Go.Sort.hintCode R.hint=1)=false:=LO (fun h=>hin (by generalize R.hint=h0 at h;cases h0<;>first|rfl|(simp[Go.Sort.hintCode] at h)))
     have epi:=Go.Sort.rd_pi_no (lt:=ac) (d:=dk) (a:=a1) (b:=b1) (limit:=l1) (wb:=wb) (wp:=wp) (by rw[hR,LO hin,Bool.and_false]);rw[hR] at epi;have q:=hQ2 (by rw[epi]);rw[epi];cases wb with
     |false=>simp +decide (maxDischargeDepth:=200) only[go_sem,X1,X2,X3,aW,c5,q]
     | true=>cases wp with
       |false=>simp +decide (maxDischargeDepth:=200) only[go_sem,X1,X2,X3,aW,c5,q]
       |true=>simp +decide (maxDischargeDepth:=200) only[go_sem,X1,X2,X3,aW,c5,q]
 have hp2:=hQ1 hq;clear hQ1 hQ2 hq Q;obtain⟨D,hD⟩:∃D,R.pi.1=D:=⟨_,rfl⟩;rw[hD] at s3 B3⊢;have z3:D.size=N:=s3.trans hdk;cases h87:(decide (a1>0)&& !ac D[a1-1]! D[R.pivot]!) with
 | true=>
   have h87':=h87;simp only[LR,Mi,MN] at h87';obtain⟨mid,d4,hx⟩:∃mid d4,Go.Sort.partitionEqual ac D a1 b1 R.pivot=(mid,d4):=⟨_,_,rfl⟩;obtain⟨r1,r2,r3,r4,_⟩:=Go.Sort.round_eq dp (Go.Sort.partitionEqual_holds ac) h87'.1 hpv.1 hpv.2 (show b1<=D.size by omega) B3 h87'.2 hx;have e5:=sk (g:=g) (sf:=sf) (gl:=gl) (gs:=gs) (N:=N) a1 b1 R.pivot D hpv.1 hpv.2 x2 z3;rw[hx] at e5;have hl:=bc (N:=N) (a1-1) R.pivot D (by omega) (by omega) z3;rw[h87'.2] at hl;have c6:decide ((0:Int)<((a1:Nat):Int))=true:=LP (by omega);have w5:av .i64 ((a1:Int)-1)=((a1-1:Nat):Int):=by rw[am (by unfold bS;omega)];omega
   have hf:=Go.Sort.pdq_eq (lt:=ac) (wb:=wb) (wp:=wp) h12 hl0 (by rw[hR];exact hp2) (by rw[hR,hD];exact h87) (by rw[hR,hD,hx];exact⟨r1,r2⟩);rw[hR,hD,hx,heq] at hf;simp only at hf;refine Sem.seq_out (Sem.run hE ae (by kernel_rfl) ?_);simp +decide (maxDischargeDepth:=200) only[go_sem,X1,X2,X3,aW,c6,w5,hl,e5];refine⟨⟨(mid,b1,R.lim,wb,wp,d4),by simp only;omega,by simp only;omega,by simp only;omega,by simp only;omega,r3.trans z3,r4,hf.symm⟩,?_,?_,by simp only;omega⟩<;>simp +decide only[go_sem]<;>(repeat' first|rfl|constructor)
 | false=>
   refine Sem.seq [(1,.x (.int .i64 ((a1:Nat):Int))),(2,.x (.int .i64 ((b1:Nat):Int))),(3,.x (.int .i64 ((R.lim:Nat):Int))),(4,.ptr 4 0),(8,.x (.bool wb)),(9,.x (.bool wp)),(10,.x (.int .i64 ((b1-a1:Nat):Int))),(11,.x (.int .i64 ((R.pivot:Nat):Int)))] [(4,[.x (.func (.func g) #[] gl),.x (.func (.func sf) #[] gs)]),(1004,ak D)] (Sem.run hE ae (by kernel_rfl) ?_) ?_
   . by_cases ha0:0<a1
     . have c6:decide ((0:Int)<((a1:Nat):Int))=true:=LP (by omega);have w5:av .i64 ((a1:Int)-1)=((a1-1:Nat):Int):=by rw[am (by unfold bS;omega)];omega
       have hl:=bc (N:=N) (a1-1) R.pivot D (by omega) (by omega) z3;rw[LP (show a1>0 from ha0),Nm,Bool.not_eq_false'] at h87;rw[h87] at hl;simp +decide (maxDischargeDepth:=200) only[go_sem,X1,X2,X3,aW,c6,w5,hl]
     . have c6:decide ((0:Int)<((a1:Nat):Int))=false:=LO (by omega);simp +decide (maxDischargeDepth:=200) only[go_sem,X1,X2,X3,aW,c6]
   obtain⟨mid,ap,d4,hx⟩:∃mid ap d4,Go.Sort.partition ac D a1 b1 R.pivot=(mid,ap,d4):=⟨_,_,_,rfl⟩;obtain⟨r1,r2,r3,r4,r5,r6,r7⟩:=Go.Sort.round_part dp (Go.Sort.partition_holds ac) hpv.1 hpv.2 (show b1<=D.size by omega) B3 hx;have e5:=vU (g:=g) (sf:=sf) (gl:=gl) (gs:=gs) (N:=N) a1 b1 R.pivot D hpv.1 hpv.2 x2 z3;rw[hx] at e5;have z4:d4.size=N:=r3.trans z3;have w6:av .i64 (((mid:Nat):Int)-(a1:Int))=((mid-a1:Nat):Int):=by rw[am (by unfold bS;omega)];omega
   have w7:av .i64 ((b1:Int)-((mid:Nat):Int))=((b1-mid:Nat):Int):=by rw[am (by unfold bS;omega)];omega
   have w8:av .i64 (((mid:Nat):Int)+1)=((mid+1:Nat):Int):=by rw[am (by unfold bS;omega)];omega
   have w9:av .i64 (((b1-a1:Nat):Int).tdiv 8)=(((b1-a1)/8:Nat):Int):=by rw[NR (by omega),am (by unfold bS;omega)];omega
   refine Sem.seq [(1,.x (.int .i64 ((a1:Nat):Int))),(2,.x (.int .i64 ((b1:Nat):Int))),(3,.x (.int .i64 ((R.lim:Nat):Int))),(4,.ptr 4 0),(8,.x (.bool wb)),(9,.x (.bool wp)),(10,.x (.int .i64 ((b1-a1:Nat):Int))),(14,.x (.int .i64 ((mid:Nat):Int))),(15,.x (.bool ap))] [(4,[.x (.func (.func g) #[] gl),.x (.func (.func sf) #[] gs)]),(1004,ak d4)] (Sem.run hE ae (by kernel_rfl) (by simp +decide (maxDischargeDepth:=200) only[go_sem,X1,X2,X3,aW,e5])) ?_;refine Sem.seq [(1,.x (.int .i64 ((a1:Nat):Int))),(2,.x (.int .i64 ((b1:Nat):Int))),(3,.x (.int .i64 ((R.lim:Nat):Int))),(4,.ptr 4 0),(8,.x (.bool wb)),(9,.x (.bool ap)),(10,.x (.int .i64 ((b1-a1:Nat):Int))),(14,.x (.int .i64 ((mid:Nat):Int)))] [(4,[.x (.func (.func g) #[] gl),.x (.func (.func sf) #[] gs)]),(1004,ak d4)] (Sem.run hE ae (by kernel_rfl) (by simp +decide (maxDischargeDepth:=200) only[go_sem,X1,X2,X3,aW])) ?_;refine Sem.seq [(1,.x (.int .i64 ((a1:Nat):Int))),(2,.x (.int .i64 ((b1:Nat):Int))),(3,.x (.int .i64 ((R.lim:Nat):Int))),(4,.ptr 4 0),(8,.x (.bool wb)),(9,.x (.bool ap)),(10,.x (.int .i64 ((b1-a1:Nat):Int))),(14,.x (.int .i64 ((mid:Nat):Int))),(16,.x (.int .i64 ((mid-a1:Nat):Int))),(17,.x (.int .i64 ((b1-mid:Nat):Int)))] [(4,[.x (.func (.func g) #[] gl),.x (.func (.func sf) #[] gs)]),(1004,ak d4)] (Sem.run hE ae (by kernel_rfl) (by simp +decide (maxDischargeDepth:=200) only[go_sem,X1,X2,X3,aW,w6,w7])) ?_;refine Sem.seq [(1,.x (.int .i64 ((a1:Nat):Int))),(2,.x (.int .i64 ((b1:Nat):Int))),(3,.x (.int .i64 ((R.lim:Nat):Int))),(4,.ptr 4 0),(8,.x (.bool wb)),(9,.x (.bool ap)),(14,.x (.int .i64 ((mid:Nat):Int))),(16,.x (.int .i64 ((mid-a1:Nat):Int))),(17,.x (.int .i64 ((b1-mid:Nat):Int))),(18,.x (.int .i64 (((b1-a1)/8:Nat):Int)))] [(4,[.x (.func (.func g) #[] gl),.x (.func (.func sf) #[] gs)]),(1004,ak d4)] (Sem.run hE ae (by kernel_rfl) (by simp +decide (maxDischargeDepth:=200) only[go_sem,X1,X2,X3,aW,w9])) ?_;by_cases h4:mid-a1<b1-mid
   . have c7:decide (((mid-a1:Nat):Int)<((b1-mid:Nat):Int))=true:=LP (by omega);have e8:decide ((((b1-a1)/8:Nat):Int)<=((mid-a1:Nat):Int))=decide (mid-a1≥(b1-a1)/8):=decide_eq_decide.2 ⟨fun h=>by omega,fun h=>by omega⟩;have e9:=kM (g:=g) (sf:=sf) (gl:=gl) (gs:=gs) (N:=N) n a1 mid R.lim d4 (by omega) r1 (by omega) (by omega) z4 r4;obtain⟨pL,sL⟩:=Go.Sort.pdq_sorts ac dp d4 a1 mid R.lim true true r1 (by omega) r4;have hf:=Go.Sort.pdq_left (lt:=ac) (wb:=wb) (wp:=wp) h12 hl0 (by rw[hR];exact hp2) (by rw[hR,hD];exact h87) (by rw[hR,hD,hx];exact⟨r1,r2⟩) (by rw[hR,hD,hx];exact h4);rw[hR,hD,hx,heq] at hf;simp only at hf;generalize hB8:decide (mid-a1≥(b1-a1)/8)=b8 at e8 hf;have z5:=pL.1.trans z4;have B5:=(r6 _ pL sL).1;generalize Go.Sort.pdq ac d4 a1 mid R.lim true true=d5 at e9 hf z5 B5;refine Sem.run hE ae (by kernel_rfl) ?_;simp +decide (maxDischargeDepth:=200) only[go_sem,X1,X2,X3,aW,c7,e8,e9,w8];refine⟨⟨(mid+1,b1,R.lim,b8,ap,d5),by simp only;omega,by simp only;omega,by simp only;omega,by simp only;omega,z5,B5,hf.symm⟩,?_,?_,by simp only;omega⟩<;>simp +decide only[go_sem]<;>(repeat' first|rfl|constructor)
   . have c7:decide (((mid-a1:Nat):Int)<((b1-mid:Nat):Int))=false:=LO (by omega);have e8:decide ((((b1-a1)/8:Nat):Int)<=((b1-mid:Nat):Int))=decide (b1-mid≥(b1-a1)/8):=decide_eq_decide.2 ⟨fun h=>by omega,fun h=>by omega⟩;have e9:=kM (g:=g) (sf:=sf) (gl:=gl) (gs:=gs) (N:=N) n (mid+1) b1 R.lim d4 (by omega) (by omega) (by omega) (by omega) z4 r5;obtain⟨pL,sL⟩:=Go.Sort.pdq_sorts ac dp d4 (mid+1) b1 R.lim true true (by omega) (by omega) r5;have hf:=Go.Sort.pdq_right (lt:=ac) (wb:=wb) (wp:=wp) h12 hl0 (by rw[hR];exact hp2) (by rw[hR,hD];exact h87) (by rw[hR,hD,hx];exact⟨r1,r2⟩) (by rw[hR,hD,hx];exact h4);rw[hR,hD,hx,heq] at hf;simp only at hf;generalize hB8:decide (b1-mid≥(b1-a1)/8)=b8 at e8 hf;have z5:=pL.1.trans z4;have B5:=(r7 _ pL sL).1;generalize Go.Sort.pdq ac d4 (mid+1) b1 R.lim true true=d5 at e9 hf z5 B5;refine Sem.run hE ae (by kernel_rfl) ?_;simp +decide (maxDischargeDepth:=200) only[go_sem,X1,X2,X3,aW,c7,e8,e9,w8];refine⟨⟨(a1,mid,R.lim,b8,ap,d5),by simp only;omega,by simp only;omega,by simp only;omega,by simp only;omega,z5,B5,hf.symm⟩,?_,?_,by simp only;omega⟩<;>simp +decide only[go_sem]<;>(repeat' first|rfl|constructor)
theorem Co (hS:SoOKS3 G bk N g sf gl gs) (hB:FunXVS3 G bk 45 [] (FE (bg g sf gl gs) (gM N))) (n:Nat):FunXVS3 G bk 29 [] (FE (bJ g sf gl gs) (fQ N n)):=by
 induction n with
 |zero=>intro m w vs us bs gs hs r outs hF;obtain⟨⟨a,b,l,d⟩,_,hG⟩:=bX hF;unfold fQ at hG;obtain⟨⟨h,_⟩,_⟩:=mb hG;exact absurd h (Np _)
 |succ n ih=>exact sm hS hB n ih
end Go.Proofs.Ytenmccehpkiamaa
