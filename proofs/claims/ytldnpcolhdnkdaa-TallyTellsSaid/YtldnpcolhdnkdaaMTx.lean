/- Counts by stamp in a map. -/
import Derived.Test.YtldnpcolhdnkdaaMFr
import Derived.Test.YtldnpcolhdnkdaaMHy
import Derived.Test.YtldnpcolhdnkdaaMFa
import Derived.Test.YtldnpcolhdnkdaaMSd
import Derived.Test.YtldnpcolhdnkdaaMHx
namespace Go.Proofs.Ytldnpcolhdnkdaa
set_option linter.unusedSimpArgs false
set_option maxHeartbeats 64000000
set_option maxRecDepth 100000
open Go Go.RowKit
attribute [go_sem] Try.results3 Try.results5 Try.results8 Try.results9
def cX (L:List Ch):List V:=L.map fun x=>aJ x.1
def dE (L:List Ch):List V:=L.map fun x=> .x (.int .i64 x.2)
def bR (s:aK) (n:Int):List Ch->List Ch
 |[]=>[(s,n)]
 |x::L=>if x.1=s then (s,n)::L else x::bR s n L
def fY (s:aK):List Ch->List Ch
 |[]=>[]
 |x::L=>if x.1=s then L else x::fY s L
def fJ (s:aK):List Ch->Option Nat
 |[]=>none
 |x::L=>if x.1=s then some 0 else (fJ s L).map (· +1)
abbrev dC (L:List Ch):Prop:=(L.map (·.1)).Nodup
theorem FC (a b:aK):zt Try.prog 20 32 (aJ a) (aJ b)=some (cW a b):=by obtain⟨s,c,r⟩:=a;obtain⟨s',c',r'⟩:=b;rw[cW,<-ca];simp +decide only[go_sem,aJ]
theorem kf (a:aK):dF Try.prog 32 (aJ a)=true:=by obtain⟨s,c,r⟩:=a;unfold dF;simp +decide [go_sem,aJ,plainK,pz,cM]
theorem gN (s:aK):∀(L:List Ch) (i:Nat),gf Try.prog 32 (aJ s) (cX L) i=some ((fJ s L).map (· +i))
 |[],_=>rfl
 | x ::L,i=>by
   have e:gf Try.prog 32 (aJ s) (cX (x::L)) i=(match zt Try.prog 20 32 (aJ s) (aJ x.1) with
    |some true=>some (some i)
    |some false=>gf Try.prog 32 (aJ s) (cX L) (i+1)
    |none=>none):=rfl
   rw[e,FC];by_cases h:x.1=s
   . rw[show cW s x.1=true from gH.2 h.symm,fJ,PO h];simp
   . rw[show cW s x.1=false from vY.2 (QT h),fJ,PS h];show gf _ _ _ _ _=_;rw[gN s L (i+1)];cases fJ s L with
     |none=>rfl
     |some j=>simp only[Qd];congr 2;omega
theorem cf {s:aK}:∀{L:List Ch} {i:Nat},fJ s L=some i->∃n,L[i]?=some (s,n)∧bn L s=n∧(∀n',bR s n' L=L.set i (s,n'))∧fY s L=L.eraseIdx i
 |[],i,h=>by cases h
 | x::L,i,h=>by
   rw[fJ] at h;by_cases e:x.1=s
   . rw[PO e] at h;cases h;subst e;refine⟨x.2,rfl,by rw[bn,PO rfl],fun n'=>by rw[bR,PO rfl];rfl,by rw[fY,PO rfl];rfl⟩
   . rw[PS e] at h;obtain⟨j,hj,rfl⟩:=PK.1 h;obtain⟨n,h1,h2,h3,h4⟩:=cf hj;exact⟨n,h1,by rw[bn,PS e,h2],fun n'=>by rw[bR,PS e,h3];rfl,by rw[fY,PS e,h4];rfl⟩
theorem bK {s:aK}:∀{L:List Ch},fJ s L=none->(∀x∈L,x.1≠s)∧(∀n,bR s n L=L++[(s,n)])∧fY s L=L
 |[],_=>⟨(fun x hx=>by cases hx),fun _=>rfl,rfl⟩
 | x ::L,h=>by
   rw[fJ] at h;by_cases e:x.1=s
   . rw[PO e] at h;cases h
   . rw[PS e,Option.map_eq_none_iff] at h;obtain⟨h1,h2,h3⟩:=bK h;refine⟨fun y hy=>?_,fun n=>by rw[bR,PS e,h2];rfl,by rw[fY,PS e,h3]⟩;rcases PY.1 hy with rfl|hy
     . exact e
     . exact h1 y hy
theorem mF (L:List Ch) (s:aK) (z:Nat):ed Try.prog 38 (.mp z (cX L) (dE L)) (aJ s) false=some (.x (.int .i64 (bn L s))):=by
 unfold ed;rw[Try.underlying38];simp only[V.kv,kf,Qt,gN];cases h:fJ s L with
 |none=>rw[gI (bK h).1];simp only[QR,OK];rfl
 | some i=>
   obtain⟨n,h1,h2,_⟩:=cf h;have h3:(dE L)[i+0]?=some (.x (.int .i64 n)):=by rw[iO,dE,PF,h1];rfl
   simp only[Qd,h3,h2];rfl
theorem yV (s:aK) (z:Nat):ed Try.prog 38 (.mp z [] []) (aJ s) false=some (.x (.int .i64 0)):=mF [] s z
theorem wi (L:List Ch) (s:aK) (n:Int):putM Try.prog 38 (cX L) (dE L) (aJ s) (.x (.int .i64 n))=some (cX (bR s n L),dE (bR s n L)):=by
 unfold putM;rw[Try.underlying38];have hd:(V.x (.int .i64 n)).dat=true:=rfl;simp only[kf,hd,and_self,Qt,gN];cases h:fJ s L with
 |none=>obtain⟨_,h2,_⟩:=bK h;rw[h2,cX,dE,cX,dE,Qj,Qj];rfl
 | some i=>
   obtain⟨m,h1,_,h2,_⟩:=cf h;have h3:(cX L)[i+0]?=some (aJ s):=by rw[iO,cX,PF,h1];rfl
   simp only[Qd,h3,Qt];rw[h2,iO];congr 2
   . rw[cX,cX,R0];exact(rE (by rw[PF,h1];rfl)).symm
   . rw[dE,dE,R0]
theorem kg {α β:Type} (f:α->β):∀(L:List α) (i:Nat),(L.eraseIdx i).map f=(L.map f).eraseIdx i
 |[],_=>rfl
 |_::_,0=>rfl
 |x::L,i+1=>by simp only[List.eraseIdx_cons_succ,QU,kg f L i]
theorem wj (L:List Ch) (s:aK):uG Try.prog 38 (cX L) (dE L) (aJ s)=some (cX (fY s L),dE (fY s L)):=by
 unfold uG;rw[Try.underlying38];simp only[kf,Qt,gN];cases h:fJ s L with
 |none=>obtain⟨_,_,h2⟩:=bK h;rw[h2];rfl
 |some i=>obtain⟨m,h1,_,_,h2⟩:=cf h;simp only[Qd,iO];rw[h2,cX,dE,cX,dE,kg,kg]
theorem jA (s:aK) (n:Int):∀(L:List Ch) (t:aK),bn (bR s n L) t=if t=s then n else bn L t
 | [],t=>by
   show(if s=t then n else 0)=if t=s then n else 0
   by_cases h:t=s
   . rw[PO h,PO h.symm]
   . rw[PS h,PS (QT h)]
 | x ::L,t=>by
   rw[bR];by_cases e:x.1=s
   . rw[PO e,bn];by_cases h:t=s
     . rw[PO h.symm,PO h]
     . rw[PS (QT h),PS h,bn,PS (fun q=>h (q.symm.trans e))]
   . rw[PS e,bn,jA s n L t];by_cases h:t=s
     . rw[PO h,PO h,PS (fun q=>e (q.trans h))]
     . rw[PS h,PS h,bn]
theorem rQ (s:aK):∀{L:List Ch},dC L->∀(t:aK),bn (fY s L) t=if t=s then 0 else bn L t
 |[],_,t=>by simp[fY,bn]
 | x ::L,h,t=>by
   rw[dC,QU,QF] at h;rw[fY];by_cases e:x.1=s
   . rw[PO e];by_cases q:t=s
     . rw[PO q,q,<-e];exact gI fun y hy he=>h.1 (Qi.2 ⟨y,hy,he⟩)
     . rw[PS q,bn,PS (fun q2=>q (q2.symm.trans e))]
   . rw[PS e,bn,rQ s h.2 t];by_cases q:t=s
     . rw[PO q,PO q,PS (fun q2=>e (q2.trans q))]
     . rw[PS q,PS q,bn]
theorem eT:∀{L:List Ch},dC L->∀{x:Ch},x∈L->bn L x.1=x.2
 | y::L,h,x,hx=>by
   rw[dC,QU,QF] at h;rcases PY.1 hx with rfl|hx
   . rw[bn,PO rfl]
   . rw[bn,PS (fun e=>h.1 (Qi.2 ⟨x,hx,e.symm⟩))];exact eT h.2 hx
variable {s:aK} {n:Int} {L:List Ch}
theorem od (h:dC L):dC (bR s n L):=by
 cases e:fJ s L with
 |none=>obtain⟨h1,h2,_⟩:=bK e;rw[h2,dC,Qj];exact QJ.2 ⟨h,by simp,fun a ha b hb q=>by obtain⟨x,hx,rfl⟩:=Qi.1 ha;simp at hb;exact h1 x hx (q.trans hb)⟩
 | some i=>
   obtain⟨m,h1,_,h2,_⟩:=cf e;rw[h2,dC,R0];have:(L.map (·.1)).set i s=L.map (·.1):=by
    apply QI;intro j;rw[RC];split
    . rename_i q;subst q;rw[PF,h1];simp[(PE.1 h1).1]
    . rfl
   rw[this];exact h
theorem yW (h:dC L):dC (fY s L):=by
 cases e:fJ s L with
 |none=>rw[(bK e).2.2];exact h
 |some i=>obtain⟨m,_,_,_,h2⟩:=cf e;rw[h2];exact List.Nodup.sublist ((Sq ..).map _) h
theorem CJ (hn:n≠0) (h:∀x∈L,x.2≠0):∀x∈bR s n L,x.2≠0:=fun x hx=>by
 cases e:fJ s L with
 | none=>
   rw[(bK e).2.1] at hx;rcases PU.1 hx with hx|hx
   . exact h x hx
   . rw[PQ.1 hx];exact hn
 | some i=>
   obtain⟨m,_,_,h2,_⟩:=cf e;rw[h2] at hx;rcases RK hx with hx|rfl
   . exact h x hx
   . exact hn
theorem CK {x:Ch} (hx:x∈fY s L):x∈L:=by
 cases e:fJ s L with
 |none=>rwa [(bK e).2.2] at hx
 |some i=>obtain⟨m,_,_,_,h2⟩:=cf e;rw[h2] at hx;exact Se hx
theorem rR (s:aK) (n:Int) (L:List Ch):(bR s n L).length<=L.length+1:=by
 cases e:fJ s L with
 |none=>rw[(bK e).2.1];simp
 |some i=>obtain⟨m,_,_,h2,_⟩:=cf e;rw[h2,RW];omega
theorem CL (s:aK) (L:List Ch):(fY s L).length<=L.length:=by
 cases e:fJ s L with
 |none=>rw[(bK e).2.2];exact PB _
 |some i=>obtain⟨m,_,_,_,h2⟩:=cf e;rw[h2];exact(Sq ..).length_le
def MapO (H:HH):Option Nat->List Ch->Prop
 |none,L=>L=[]
 |some g,L=>MapH H g (cX L) (dE L)
variable {H H':HH} {g:Option Nat}
theorem MapO.to (h:MapO H g L) (e:∀y,g=some y->H' y=H y):MapO H' g L:=by
 cases g with
 |none=>exact h
 |some g=>exact MapH.to h (e g rfl)
variable {T:V->HH->Prop}
theorem pj (h:MapO H g L) (hT:T (.x (.int .i64 (bn L s))) H):Gl Try.prog 38 H (.agg [.x (.int .i64 s.1),.x (.int .i64 s.2.1),.x (.int .i64 s.2.2)]) false T g:=by
 cases g with
 |none=>have e:L=[]:=h;subst e;exact⟨_,rfl,yV s 0,hT⟩
 |some g=>exact⟨_,_,_,h,rfl,mF L s 0,hT⟩
theorem CM {g:Nat} (h:MapH H g (cX L) (dE L)) (hT:∀Hx,MapH Hx g (cX (bR s n L)) (dE (bR s n L))->(∀y,y≠g->Hx y=H y)->T .undef Hx):Ku Try.prog 38 H g (.agg [.x (.int .i64 s.1),.x (.int .i64 s.2.1),.x (.int .i64 s.2.2)]) (.x (.int .i64 n)) T:=
 ⟨_,_,_,_,h,rfl,⟨rfl,_,rfl⟩,wi L s n,fun _ hm=>hT _ hm fun _ hy=>ae _ _ hy⟩
theorem mG (h:MapO H g L):∀g',g=some g'->∃ks vs,MapH H g' ks vs:=fun g' e=>by subst e;exact⟨_,_,h⟩
theorem H0:∃kt et,Try.prog.underlying 38=some (.map kt et):=⟨_,_,Try.underlying38⟩
theorem wl (h:dC L) {i j:Nat} {x y:Ch} (hx:L[i]?=some x) (hy:L[j]?=some y) (e:x.1=y.1):i=j:=by obtain⟨hi,rfl⟩:=PE.1 hx;obtain⟨hj,rfl⟩:=PE.1 hy;exact(List.getElem_inj (xs:=L.map (·.1)) (h₀:=by simpa using hi) (h₁:=by simpa using hj) h).1 (by simpa using e)
variable {r:Nat} {vis:List Nat}
theorem ItO.to (h:ItO H r g vis) (e:H' r=H r) (e':∀y,g=some y->H' y=H y):ItO H' r g vis:=by
 cases g with
 |none=>obtain⟨⟨a,s,b,h⟩,h2⟩:=h;exact⟨⟨a,s,b,e.trans h⟩,h2⟩
 |some g=>exact IterH.to h (e' g rfl) e
variable {Hx:HH}
theorem rS (hM:MapO Hx g L) (hI:ItO Hx r g vis)
 (h0:(∀i,i<L.length->i∈vis)->T (.tup [.x (.bool false)]) Hx) (h1:∀(i:Nat) (x:Ch) ob,L[i]?=some x->i∉vis->ItO (aw Hx r (some ob)) r g (vis++[i])->T (.tup [.x (.bool true),.agg [.x (.int .i64 x.1.1),.x (.int .i64 x.1.2.1),.x (.int .i64 x.1.2.2)],.x (.int .i64 x.2)]) (aw Hx r (some ob))):Ci Hx r T:=by
 cases g with
 |none=>have e:L=[]:=hM;subst e;exact .inr ⟨hI.1,h0 fun i hi=>by simp at hi⟩
 |some g=>have hM':MapH Hx g (cX L) (dE L):=hM;refine .inl ⟨g,_,_,vis,hM',hI,fun h=>h0 fun i hi=>h i (by simpa[cX] using hi),fun i k v hk1 hv1 hn ob hI2=>?_⟩;rw[cX,PF] at hk1;rw[dE,PF] at hv1;obtain⟨x,hx,rfl⟩:=PK.1 hk1;rw[hx] at hv1;cases hv1;exact h1 i x ob hx hn hI2
theorem oe {i:Nat} {x:Ch} (hM:MapO Hx g L) (hI:ItO Hx r g (vis++[i])) (hx:L[i]?=some x)
 (h1:T (.tup [.agg [.x (.int .i64 x.1.1),.x (.int .i64 x.1.2.1),.x (.int .i64 x.1.2.2)],.x (.int .i64 x.2)]) Hx):uH Hx r T:=by
 cases g with
 |none=>have e:L=[]:=hM;rw[e] at hx;simp at hx
 |some g=>have hM':MapH Hx g (cX L) (dE L):=hM;exact⟨g,_,_,vis,i,aJ x.1,_,hM',hI,by rw[cX,PF,hx];rfl,by rw[dE,PF,hx];rfl,h1⟩
def cv:List Ch->Cn
 |[],_=>0
 |x::l,s=>(if x.1=s then x.2 else 0)+cv l s
def bN:List eD->Cn
 |[],_=>0
 |r::l,s=>cv r.2.2 s+bN l s
theorem mH (a b:List Ch) (s:aK):cv (a++b) s=cv a s+cv b s:=by
 induction a with
 |nil=>simp[cv]
 |cons x a ih=>simp only[QM,cv,ih];omega
theorem jB (a b:List eD) (s:aK):bN (a++b) s=bN a s+bN b s:=by
 induction a with
 |nil=>simp[bN]
 |cons x a ih=>simp only[QM,bN,ih];omega
def bH:List eD->Nat
 |[]=>0
 |r::l=>r.2.2.length+bH l
theorem d6 (a b:List eD):bH (a++b)=bH a+bH b:=by
 induction a with
 |nil=>simp[bH]
 |cons x a ih=>simp only[QM,bH,ih];omega
theorem gO (l:List eD):bY l=l.length+bH l:=by
 induction l with
 |nil=>rfl
 |cons x l ih=>simp only[bY,bH,ih,P5];omega
theorem fZ {l:List Ch} (h:l.all jJ=true) (s:aK): -((l.length:Int)*1099511627776)<=cv l s∧cv l s<=(l.length:Int)*1099511627776:=by
 induction l with
 |nil=>simp[cv]
 |cons x l ih=>rw[Rf,PG] at h;have:=ih h.2;have hb:=h.1;simp only[jJ,PG,Qx,Ra] at hb;simp only[cv,P5];split<;>omega
variable {l:List eD}
theorem f5 (h:∀r∈l,r.2.2.all jJ=true) (s:aK): -((bH l:Int)*1099511627776)<=bN l s∧bN l s<=(bH l:Int)*1099511627776:=by
 induction l with
 |nil=>simp[bN,bH]
 |cons x l ih=>have h1:=ih (fun r hr=>h r (P4 _ hr));have h2:=fZ (h x (PZ ..)) s;simp only[bN,bH];omega
def SumIs (c:Cn) (out:List Ch):Prop:=eP out∧(∀x∈out,x.2≠0)∧∀s,bn out s=c s
theorem wo:∀{a b:List Ch},eP a->eP b->(∀x,x∈a↔x∈b)->a=b
 |[],[],_,_,_=>rfl
 |[],y::b,_,_,h=>absurd ((h y).2 (PZ ..)) (by simp)
 |x::a,[],_,_,h=>absurd ((h x).1 (PZ ..)) (by simp)
 | x ::a,y::b,h1,h2,h=>by
   rw [eP,Q6] at h1 h2;have e:x=y:=by
    rcases PY.1 ((h x).1 (PZ ..)) with e|ha
    . exact e
    . rcases PY.1 ((h y).2 (PZ ..)) with e|hb
      . exact e.symm
      . have:=rJ (h2.1 x ha);rw[h1.1 y hb] at this;cases this
   subst e;have hn:∀{l:List Ch},(∀t∈l,ac x.1 t.1=true)->x∉l:=fun hh hm=>by have:=hh x hm;rw[cP] at this;cases this
   refine RB (x:: ·) (wo h1.2 h2.2 fun z=>?_);have:=h z;simp only[PY] at this;constructor
   . intro hs;rcases this.1 (.inr hs) with e|h
     . subst e;exact absurd hs (hn h1.1)
     . exact h
   . intro hs;rcases this.2 (.inr hs) with e|h
     . subst e;exact absurd hs (hn h2.1)
     . exact h
variable {c:Cn}
theorem SumIs.uniq {a b:List Ch} (ha:SumIs c a) (hb:SumIs c b):a=b:=by
 have key:∀{a b:List Ch},SumIs c a->SumIs c b->∀x∈a,x∈b:=fun {a b} ha hb x hx=>by have h1:=fb ha.1 hx;rw[ha.2.2,<-hb.2.2] at h1;obtain⟨y,hy,e⟩:=ka (L:=b) (s:=x.1) (by rw[h1];exact ha.2.1 x hx);have h2:=fb hb.1 hy;rw[e,h1] at h2;obtain⟨y1,y2⟩:=y;obtain⟨x1,x2⟩:=x;simp only at e h2;subst e h2;exact hy
 exact wo ha.1 hb.1 fun x=>⟨key ha hb x,key hb ha x⟩
variable {cap:Nat}
theorem CN {m:Lim} {w:World} {ad:Option Addr} (h:RowV H (.slice ad L.length cap) 4 (aF L)) (hw:∀g ob,H g=some ob->w.heap[g]?=some ob) (hm:∀g,blkOf (.slice ad L.length cap)=some g->m g=none):Rd m w (.slice ad L.length cap) (.sl (decide (ad=none)) 4 (L.map cD) none):=by
 rcases h with⟨h,e⟩|⟨g,off,n,cp,cur,ty,e,h0,h1,h2,h3⟩
 . have hl:=bG L;rw[h] at hl;have hL:L=[]:=Qu.1 (by simp only[Qk] at hl;omega);subst hL;cases e;exact .nil _ _
 . cases e;have hh:=hw g _ h0;rw[PC (by simp)];have hlm:(L.map cD).length=L.length:=eq ..;have:=Rd.sl (m:=m) (w:=w) g off cap 4 (L.map cD) none (fun k=>((aF L)[k]?).getD Go.undef) (al hh) (by rw[hlm];exact h1) (fun i e he=>?_) (fun k hk=>?_) (fun fr hf=>?_) (fun i e he j d hd=>?_)
   . rwa [hlm] at this
   . rw[PF] at he;obtain⟨y,_,rfl⟩:=PK.1 he;rfl
   . rw[hlm] at hk;have hk':k<(aF L).length:=by rw[bG];exact hk
     rw[Box.cell hh,<-PN,Io hk'];have h5:(cur.toList.drop off)[k]?=(aF L)[k]?:=by rw[<-h3,P9,PO hk]
     rw[Qm,Io hk'] at h5;exact h5
   . rw[hm g rfl] at hf;cases hf
   . rw[PF] at he;obtain⟨y,hy,rfl⟩:=PK.1 he;have h6:=vZ hy;have h7:=RB (fun l=>l[j]?) h6;simp only[P9,Qm] at h7;rcases j with _|_|_|_|j
     all_goals first|(cases hd;done)|(cases hd;rw[PO (by decide)] at h7;rw[h7];exact .x _)
def yX (us:List V) (H:HH) (T:V->HH->Prop):Prop:=∃q,us=eE q∧nj q∧(bY q.2.2<=100∧∀r∈q.2.2,r.2.2.all jJ=true)∧∀out nl z,SumIs (bN q.2.2) out->(nl=true->out=[])->(out≠[]->z=4)->T (.sl nl z (out.map cD) none) H
def Kz (p i k:Nat) (nl nr:Bool) (l:List eD) (R:List Ch) (x:Ch):Nat->V
 |23=> .x (ar p)
 |24=> .sl nl 1 (l.map eQ) none
 |25=> .x (.int .i64 ((i:Nat):Int))
 |26=> .ip [.sl nr 4 (R.map cD) none]
 |27=> .sl nr 4 (R.map cD) none
 |28=> .x (.int .i64 ((k:Nat):Int))
 |29=> .ip [.x (.int .i64 x.1.1),.x (.int .i64 x.1.2.1),.x (.int .i64 x.1.2.2),.x (.int .i64 x.2)]
 |30=> .ip [.x (.int .i64 x.1.1),.x (.int .i64 x.1.2.1),.x (.int .i64 x.1.2.2),.x (.int .i64 x.2)]
 |31=> .agg [.x (.int .i64 x.1.1),.x (.int .i64 x.1.2.1),.x (.int .i64 x.1.2.2)]
 |32=> .sl nl 1 (l.map eQ) none
 |33=> .x (.int .i64 ((i:Nat):Int))
 |34=> .ip [.sl nr 4 (R.map cD) none]
 |35=> .sl nr 4 (R.map cD) none
 |36=> .x (.int .i64 ((k:Nat):Int))
 |37=> .ip [.x (.int .i64 x.1.1),.x (.int .i64 x.1.2.1),.x (.int .i64 x.1.2.2),.x (.int .i64 x.2)]
 |38=> .ip [.x (.int .i64 x.2)]
 |39=> .x (.int .i64 x.2)
 |_=> .undef
def cE:List (FuncId×(List V->HH->Tr)):=[(17,Fp RFr)]
theorem CO:cV (bU [] [] [] (fun _=>false) (fun _=>false)) 9 yX:=by
 refine jq (F:={F:=so cE,D:=fun d=>d==7,any:=fun i=>i==8}) (n:=45) (k:=1) (aP [] [] [] _ _ trivial trivial trivial) (by kernel_rfl) (eO (l:=cE) ⟨Cu,trivial⟩) (fun t s C e=>by cases e) Try.func9 rfl (fun a w=>Try.call9 a w) Try.ntmps9 (by decide) (by decide) (by kernel_rfl) ?_;rintro us H T ⟨⟨nl,z,l⟩,rfl,⟨hz,hl,hrs⟩,⟨hc1,hc2⟩,hT⟩ hdat;clear hdat;refine⟨rfl,?_⟩;simp only[eE,yI];have hz:l≠[]->z=1:=hz;have hc1:bY l<=100:=hc1;have hlc:=gO l;simp +decide (maxDischargeDepth:=200) only[go_sem,Nat.reduceBEq,cE,eq];intro p hp;simp +decide (maxDischargeDepth:=200) only[go_sem,Nat.reduceBEq,cE,eq];have hF0:∀y∈[p],H y=none:=fun y hy=>by rw[PQ.1 hy];exact hp
 refine bP (X:={i:Nat//i<=l.length}) (fun i=>[(0,.sl nl z (l.map eQ) none),(3,.x (ar p)),(4,.x (.int .i64 ((i.1:Nat):Int)))]) (fun _=>[]) (fun i Hx=>∃F,RFr Hx p (bN (l.take i.1)) (bH (l.take i.1)) F∧(∀y∈F,H y=none)∧∀y,H y≠none->Hx y=H y) (fun i=>l.length-i.1) ⟨0,PH _⟩ (by simp +decide only[go_sem,Nat.reduceBEq,P3]<;>(repeat' first|rfl|constructor)) (by simp +decide only[go_sem,Nat.reduceBEq,P3]<;>(repeat' first|rfl|constructor)) ⟨[p],RFr.ok.zero (aa _ _ _),hF0,fun y hy=>ae _ _ (fun e=>hy (by rw[e];exact hp))⟩ ?_;rintro⟨i,hi⟩ Hi ⟨F,hR,hFn,hfr⟩;simp only at hi hR⊢;by_cases hil:i<l.length
 case neg=>
  have d0:decide ((i:Int)<(l.length:Int))=false:=PC (by omega);rw[Qb (by omega)] at hR;obtain⟨L,ad,cap,h1,h2,h3,h4,h5,h6,h7,rfl⟩:=hR;have fF:m7 Try.prog 53 0=some 0:=by kernel_rfl
  have c1:=ak h1;simp +decide (maxDischargeDepth:=200) only[go_sem,Nat.reduceBEq,cE,eq,d0,fF,c1,iO];refine⟨fun g=>(H g).isNone,.sl (decide (ad=none)) 4 (L.map cD) none,fun m w v q1 q2 q3=>?_,?_⟩
  . rw[Rd.x_iff.1 q3];refine CN h2 q1 (fun g hg=>q2 g (by show(H g).isNone=true;rw[hFn g (P4 _ (by rw[hg];simp))];rfl) ?_);obtain⟨cur,ty,e⟩:=h2.blk hg;rw[e];simp
  . have e:(fun g=>if (H g).isNone=true then none else Hi g)=H:=by
     funext g;cases hg:H g with
     |none=>simp
     |some ob=>simp only[Option.isNone_some,P7,Qr];rw[hfr g (by rw[hg];simp),hg]
    rw[e];refine hT L _ 4 ⟨h4,h5,fun s=>(h6 s).symm⟩ (fun hn=>?_) (fun _=>rfl);have hn:=QA hn;subst hn;rcases h2 with⟨hh,_⟩|⟨_,_,_,_,_,_,e,_⟩
    . have:=bG L;rw[hh] at this;exact Qu.1 (by simp only[Qk] at this;omega)
    . cases e
 obtain rfl:z=1:=hz (fun e=>by rw[e] at hil;cases hil);have d0:decide ((i:Int)<(l.length:Int))=true:=PD (by omega);have p0:(0:Int)<=(i:Int):=by omega
 have p1:(i:Int)<(l.length:Int):=by omega
 have cu:=bh (i:=i) (by omega);have hr:l[i]?=some l[i]:=Io hil;generalize l[i]=r at hr;have hrm:=PM hr;have hti:=br hr;obtain⟨nr,zr,R⟩:=r;have hzr:R≠[]->zr=4:=(hrs _ hrm).1;have hbR:R.all jJ=true:=hc2 _ hrm;have hlt:bH (l.take (i+1))=bH (l.take i)+R.length:=by rw[hti,d6];simp[bH]
 have hlt2:bH (l.take (i+1))+bH (l.drop (i+1))=bH l:=by rw[<-d6,Qv]
 have hl0:0<l.length:=by omega
 have q1:(l.map eQ)[((i:Int)).toNat]?=some (.sl nr zr (R.map cD) none):=by rw[io,PF,hr];rfl
 simp +decide (maxDischargeDepth:=200) only[go_sem,Nat.reduceBEq,cE,eq,d0];refine bP (X:={k:Nat//k<=R.length}) (fun k=>[(0,.sl nl 1 (l.map eQ) none),(3,.x (ar p)),(4,.x (.int .i64 ((i:Nat):Int))),(5,.x (.int .i64 ((k.1:Nat):Int)))]) (fun _=>[]) (fun k Hx=>∃F,RFr Hx p (fun s=>bN (l.take i) s+cv (R.take k.1) s) (bH (l.take i)+k.1) F∧(∀y∈F,H y=none)∧∀y,H y≠none->Hx y=H y) (fun k=>R.length-k.1) ⟨0,PH _⟩ (by simp +decide only[go_sem,Nat.reduceBEq,P3]<;>(repeat' first|rfl|constructor)) (by simp +decide only[go_sem,Nat.reduceBEq,P3]<;>(repeat' first|rfl|constructor)) ⟨F,by simpa[cv] using hR,hFn,hfr⟩ ?_;clear hR hFn hfr Hi F;rintro⟨k,hk⟩ Hk ⟨F,hR,hFn,hfr⟩;simp only at hk hR⊢;by_cases hkl:k<R.length
 case neg=>
  have d1:decide ((k:Int)<(R.length:Int))=false:=PC (by omega);have ek:k=R.length:=by omega
  rw[show R.take k=R from Qb (by omega)] at hR;simp +decide (maxDischargeDepth:=200) only[go_sem,Nat.reduceBEq,cE,eq,p0,p1,q1,d1,cu];refine⟨⟨i+1,hil⟩,⟨by simp +decide (maxDischargeDepth:=200) only[go_sem,Nat.reduceBEq],by simp +decide (maxDischargeDepth:=200) only[go_sem,Nat.reduceBEq],F,?_,hFn,hfr⟩,by simp only;omega⟩;have e:(fun s=>bN (l.take i) s+cv R s)=bN (l.take (i+1)):=by funext s;rw[hti,jB];simp[bN]
  rw[e,ek] at hR;simp only[hlt];exact hR
 obtain rfl:zr=4:=hzr (fun e=>by rw[e] at hkl;cases hkl);have d1:decide ((k:Int)<(R.length:Int))=true:=PD (by omega);have k0:(0:Int)<=(k:Int):=by omega
 have k1:(k:Int)<(R.length:Int):=by omega
 have ck:=bh (i:=k) (by omega);have hx:R[k]?=some R[k]:=Io hkl;generalize R[k]=x at hx;have q2:(R.map cD)[((k:Int)).toNat]?=some (.agg [.x (.int .i64 x.1.1),.x (.int .i64 x.1.2.1),.x (.int .i64 x.1.2.2),.x (.int .i64 x.2)]):=by rw[io,PF,hx];rfl
 have hbx:jJ x=true:=PJ.1 hbR x (PM hx);simp only[jJ,PG,Qx,Ra] at hbx;have hbig:Cm (fun s=>bN (l.take i) s+cv (R.take k) s):=fun s=>by
  have h1:=f5 (l:=l.take i) (fun r hr=>hc2 r (Q5 hr)) s;have h2:=fZ (l:=R.take k) (PJ.2 fun y hy=>PJ.1 hbR y (Q5 hy)) s;have h3:(R.take k).length=k:=by rw[P8];omega
  rw[h3] at h2;simp only;omega
 simp +decide (maxDischargeDepth:=200) only[go_sem,Nat.reduceBEq,cE,eq,p0,p1,q1,d1];refine aU (fun k=>match k with|3=>[24,25]|4=>[26]|6=>[27,28]|7=>[29]|8=>[30]|11=>[32,33]|12=>[34]|14=>[35,36]|15=>[37]|16=>[38]|17=>[23,31,39]|_=>[]) [17] (fun k=>match k with|0=>0|1=>0|2=>0|3=>0|4=>0|5=>0|6=>0|7=>0|8=>0|9=>0|10=>0|11=>0|12=>0|13=>0|14=>0|15=>0|16=>0|_=>1) (fun j Hx _=>match j with|0=>Hk=Hx|_=>∃F',RFr Hx p (js (fun s=>bN (l.take i) s+cv (R.take k) s) x.1 x.2) (bH (l.take i)+k+1) F'∧(∀y,y∉F->Hk y≠none->Hx y=Hk y)∧∀y∈F',y∈F∨Hk y=none) (Kz p i k nl nr l R x) (by kernel_rfl) (by kernel_rfl) (by kernel_rfl) rfl ?_ ?_ ?_
 . rintro j i' o Hx val st ho hW hj hJ hv hn hb hbb K' hk';have b0:st.t 0= .sl nl 1 (l.map eQ) none:=hb 0 (by kernel_rfl);have b3:st.t 3= .x (ar p):=hb 3 (by kernel_rfl);have b4:st.t 4= .x (.int .i64 ((i:Nat):Int)):=hb 4 (by kernel_rfl);have b5:st.t 5= .x (.int .i64 ((k:Nat):Int)):=hb 5 (by kernel_rfl);clear hb hbb;rcases i' with _|_|_|_|_|_|_|_|_|_|_|_|_|_|_|_|_|_|i'
   . cases ho;have hJ:Hk=Hx:=by have h0:j=0:=PV.1 (tl hj (by decide));subst h0;exact hJ
     subst hJ;simp +decide (maxDischargeDepth:=200) only[go_sem,Nat.reduceBEq,b3,cE,eq,p0,p1,q1,k0,k1,q2];exact hk' _ (Le.refl _)
   . cases ho;have hJ:Hk=Hx:=by have h0:j=0:=PV.1 (tl hj (by decide));subst h0;exact hJ
     subst hJ;simp +decide (maxDischargeDepth:=200) only[go_sem,Nat.reduceBEq,b0,cE,eq,p0,p1,q1,k0,k1,q2];exact hk' _ (Le.refl _)
   . cases ho;have hJ:Hk=Hx:=by have h0:j=0:=PV.1 (tl hj (by decide));subst h0;exact hJ
     subst hJ;simp +decide (maxDischargeDepth:=200) only[go_sem,Nat.reduceBEq,b4,cE,eq,p0,p1,q1,k0,k1,q2];exact hk' _ (Le.refl _)
   . cases ho;have h24:st.t 24= .sl nl 1 (l.map eQ) none:=(hn 24 (by decide)).trans (hv 24 (by kernel_rfl));have h25:st.t 25= .x (.int .i64 ((i:Nat):Int)):=(hn 25 (by decide)).trans (hv 25 (by kernel_rfl));have hJ:Hk=Hx:=by have h0:j=0:=PV.1 (tl hj (by decide));subst h0;exact hJ
     subst hJ;simp +decide (maxDischargeDepth:=200) only[go_sem,Nat.reduceBEq,h24,h25,cE,eq,p0,p1,q1,k0,k1,q2];exact hk' _ (Le.refl _)
   . cases ho;have h26:st.t 26= .ip [.sl nr 4 (R.map cD) none]:=(hn 26 (by decide)).trans (hv 26 (by kernel_rfl));have hJ:Hk=Hx:=by have h0:j=0:=PV.1 (tl hj (by decide));subst h0;exact hJ
     subst hJ;simp +decide (maxDischargeDepth:=200) only[go_sem,Nat.reduceBEq,h26,cE,eq,p0,p1,q1,k0,k1,q2];exact hk' _ (Le.refl _)
   . cases ho;have hJ:Hk=Hx:=by have h0:j=0:=PV.1 (tl hj (by decide));subst h0;exact hJ
     subst hJ;simp +decide (maxDischargeDepth:=200) only[go_sem,Nat.reduceBEq,b5,cE,eq,p0,p1,q1,k0,k1,q2];exact hk' _ (Le.refl _)
   . cases ho;have h27:st.t 27= .sl nr 4 (R.map cD) none:=(hn 27 (by decide)).trans (hv 27 (by kernel_rfl));have h28:st.t 28= .x (.int .i64 ((k:Nat):Int)):=(hn 28 (by decide)).trans (hv 28 (by kernel_rfl));have hJ:Hk=Hx:=by have h0:j=0:=PV.1 (tl hj (by decide));subst h0;exact hJ
     subst hJ;simp +decide (maxDischargeDepth:=200) only[go_sem,Nat.reduceBEq,h27,h28,cE,eq,p0,p1,q1,k0,k1,q2];exact hk' _ (Le.refl _)
   . cases ho;have h29:st.t 29= .ip [.x (.int .i64 x.1.1),.x (.int .i64 x.1.2.1),.x (.int .i64 x.1.2.2),.x (.int .i64 x.2)]:=(hn 29 (by decide)).trans (hv 29 (by kernel_rfl));have hJ:Hk=Hx:=by have h0:j=0:=PV.1 (tl hj (by decide));subst h0;exact hJ
     subst hJ;simp +decide (maxDischargeDepth:=200) only[go_sem,Nat.reduceBEq,h29,cE,eq,p0,p1,q1,k0,k1,q2];exact hk' _ (Le.refl _)
   . cases ho;have h30:st.t 30= .ip [.x (.int .i64 x.1.1),.x (.int .i64 x.1.2.1),.x (.int .i64 x.1.2.2),.x (.int .i64 x.2)]:=(hn 30 (by decide)).trans (hv 30 (by kernel_rfl));have hJ:Hk=Hx:=by have h0:j=0:=PV.1 (tl hj (by decide));subst h0;exact hJ
     subst hJ;simp +decide (maxDischargeDepth:=200) only[go_sem,Nat.reduceBEq,h30,cE,eq,p0,p1,q1,k0,k1,q2];exact hk' _ (Le.refl _)
   . cases ho;have hJ:Hk=Hx:=by have h0:j=0:=PV.1 (tl hj (by decide));subst h0;exact hJ
     subst hJ;simp +decide (maxDischargeDepth:=200) only[go_sem,Nat.reduceBEq,b0,cE,eq,p0,p1,q1,k0,k1,q2];exact hk' _ (Le.refl _)
   . cases ho;have hJ:Hk=Hx:=by have h0:j=0:=PV.1 (tl hj (by decide));subst h0;exact hJ
     subst hJ;simp +decide (maxDischargeDepth:=200) only[go_sem,Nat.reduceBEq,b4,cE,eq,p0,p1,q1,k0,k1,q2];exact hk' _ (Le.refl _)
   . cases ho;have h32:st.t 32= .sl nl 1 (l.map eQ) none:=(hn 32 (by decide)).trans (hv 32 (by kernel_rfl));have h33:st.t 33= .x (.int .i64 ((i:Nat):Int)):=(hn 33 (by decide)).trans (hv 33 (by kernel_rfl));have hJ:Hk=Hx:=by have h0:j=0:=PV.1 (tl hj (by decide));subst h0;exact hJ
     subst hJ;simp +decide (maxDischargeDepth:=200) only[go_sem,Nat.reduceBEq,h32,h33,cE,eq,p0,p1,q1,k0,k1,q2];exact hk' _ (Le.refl _)
   . cases ho;have h34:st.t 34= .ip [.sl nr 4 (R.map cD) none]:=(hn 34 (by decide)).trans (hv 34 (by kernel_rfl));have hJ:Hk=Hx:=by have h0:j=0:=PV.1 (tl hj (by decide));subst h0;exact hJ
     subst hJ;simp +decide (maxDischargeDepth:=200) only[go_sem,Nat.reduceBEq,h34,cE,eq,p0,p1,q1,k0,k1,q2];exact hk' _ (Le.refl _)
   . cases ho;have hJ:Hk=Hx:=by have h0:j=0:=PV.1 (tl hj (by decide));subst h0;exact hJ
     subst hJ;simp +decide (maxDischargeDepth:=200) only[go_sem,Nat.reduceBEq,b5,cE,eq,p0,p1,q1,k0,k1,q2];exact hk' _ (Le.refl _)
   . cases ho;have h35:st.t 35= .sl nr 4 (R.map cD) none:=(hn 35 (by decide)).trans (hv 35 (by kernel_rfl));have h36:st.t 36= .x (.int .i64 ((k:Nat):Int)):=(hn 36 (by decide)).trans (hv 36 (by kernel_rfl));have hJ:Hk=Hx:=by have h0:j=0:=PV.1 (tl hj (by decide));subst h0;exact hJ
     subst hJ;simp +decide (maxDischargeDepth:=200) only[go_sem,Nat.reduceBEq,h35,h36,cE,eq,p0,p1,q1,k0,k1,q2];exact hk' _ (Le.refl _)
   . cases ho;have h37:st.t 37= .ip [.x (.int .i64 x.1.1),.x (.int .i64 x.1.2.1),.x (.int .i64 x.1.2.2),.x (.int .i64 x.2)]:=(hn 37 (by decide)).trans (hv 37 (by kernel_rfl));have hJ:Hk=Hx:=by have h0:j=0:=PV.1 (tl hj (by decide));subst h0;exact hJ
     subst hJ;simp +decide (maxDischargeDepth:=200) only[go_sem,Nat.reduceBEq,h37,cE,eq,p0,p1,q1,k0,k1,q2];exact hk' _ (Le.refl _)
   . cases ho;have h38:st.t 38= .ip [.x (.int .i64 x.2)]:=(hn 38 (by decide)).trans (hv 38 (by kernel_rfl));have hJ:Hk=Hx:=by have h0:j=0:=PV.1 (tl hj (by decide));subst h0;exact hJ
     subst hJ;simp +decide (maxDischargeDepth:=200) only[go_sem,Nat.reduceBEq,h38,cE,eq,p0,p1,q1,k0,k1,q2];exact hk' _ (Le.refl _)
   . cases hW
   . cases ho
 . rintro j i' o Hx val st hj ho hJ hv hn hb hbb K' hk';have b0:st.t 0= .sl nl 1 (l.map eQ) none:=hb 0 (by kernel_rfl);have b3:st.t 3= .x (ar p):=hb 3 (by kernel_rfl);have b4:st.t 4= .x (.int .i64 ((i:Nat):Int)):=hb 4 (by kernel_rfl);have b5:st.t 5= .x (.int .i64 ((k:Nat):Int)):=hb 5 (by kernel_rfl);clear hb hbb;rcases j with _|j
   . cases hj;cases ho;have h23:st.t 23= .x (ar p):=(hn 23 (by decide)).trans (hv 23 (by kernel_rfl));have h31:st.t 31= .agg [.x (.int .i64 x.1.1),.x (.int .i64 x.1.2.1),.x (.int .i64 x.1.2.2)]:=(hn 31 (by decide)).trans (hv 31 (by kernel_rfl));have h39:st.t 39= .x (.int .i64 x.2):=(hn 39 (by decide)).trans (hv 39 (by kernel_rfl));have hJ:Hk=Hx:=hJ;subst hJ;simp +decide (maxDischargeDepth:=200) only[go_sem,Nat.reduceBEq,h23,h31,h39,cE];exact⟨p,x.1,x.2,_,_,F,rfl,hR,by omega,hbig,⟨by omega,by omega⟩,fun H' F' h1 h2 h3=>hk' H' (.tup []) _ ⟨F',h1,h2,h3⟩ (by rw[gm];exact Le.refl _)⟩
   . cases hj
 . rintro Hx val hJ hv;refine⟨[(0,.sl nl 1 (l.map eQ) none),(3,.x (ar p)),(4,.x (.int .i64 ((i:Nat):Int))),(5,.x (.int .i64 ((k:Nat):Int)))],[],?_,?_,?_⟩
   . simp +decide only[go_sem,Nat.reduceBEq]<;>(repeat' first|exact bd (by kernel_rfl)|exact(be (by kernel_rfl)).trans (hv _ (by kernel_rfl))|rfl|constructor)
   . simp +decide only[go_sem,Nat.reduceBEq]<;>(repeat' first|rfl|constructor)
   obtain⟨F',hR',hf',hn'⟩:∃F',RFr Hx p (js (fun s=>bN (l.take i) s+cv (R.take k) s) x.1 x.2) (bH (l.take i)+k+1) F'∧(∀y,y∉F->Hk y≠none->Hx y=Hk y)∧∀y∈F',y∈F∨Hk y=none:=hJ;simp +decide (maxDischargeDepth:=200) only[go_sem,Nat.reduceBEq,cE,ck];refine⟨⟨k+1,hkl⟩,⟨by simp +decide (maxDischargeDepth:=200) only[go_sem,Nat.reduceBEq],by simp +decide (maxDischargeDepth:=200) only[go_sem,Nat.reduceBEq],F',?_,fun y hy=>?_,fun y hy=>?_⟩,by simp only;omega⟩
   . have e:js (fun s=>bN (l.take i) s+cv (R.take k) s) x.1 x.2=fun s=>bN (l.take i) s+cv (R.take (k+1)) s:=by
      funext s;rw[br hx,mH];simp only[js,cv];by_cases e:s=x.1
      . rw[PO e,PO e.symm];omega
      . rw[PS e,PS (fun h=>e h.symm)];omega
     rw[e] at hR';exact hR'
   . rcases hn' y hy with h|h
     . exact hFn y h
     . cases e:H y with
       |none=>rfl
       |some ob=>rw[hfr y (by rw[e];simp),e] at h;cases h
   . have hyF:y∉F:=fun h=>hy (hFn y h)
     have:=hfr y hy;exact(hf' y hyF (by rw[this];exact hy)).trans this
open Go.Sort (PermIn SortedIn)
theorem CP {d d':Array Ch} (hp:PermIn 0 d.size d d') (hs:SortedIn ai 0 d.size d') (hn:(d.toList.map (·.1)).Nodup):eP d'.toList∧d'.toList.Perm d.toList:=by
 obtain⟨hsz,_,hperm⟩:=hp;have e1:d'.extract 0 d.size=d':=by rw[<-hsz];exact Sj
 rw[e1,Sj] at hperm;refine⟨?_,hperm⟩;have hnd:(d'.toList.map (·.1)).Nodup:=(hperm.map _).nodup_iff.2 hn;rw[eP,Re];intro i j hi hj hij;have hi':i<d'.size:=by simpa using hi
 have hj':j<d'.size:=by simpa using hj
 have h1:=hs i j (PH _) hij (by omega);rw[Rp d' i hi',Rp d' j hj'] at h1;have hne:=(Re.1 hnd) i j (by simpa using hi) (by simpa using hj) hij;rw[List.getElem_map,List.getElem_map,Rz,Rz] at hne;rw[Rz,Rz];cases h2:ac d'[i].1 d'[j].1 with
 |true=>rfl
 |false=>have hh:ai d'[j] d'[i]=true:=g4 h2 hne;rw[h1] at hh;cases hh
def H5 (ob:Obj) (l:List Ch):Prop:=∀(w:World) (q:Nat),w.heap[q]?=some ob->BoxAt (fun _=>some 0) w q (am l.toArray)
def uT (us:List V) (H:HH) (T:V->HH->Prop):Prop:=∃b v A TL,us=[.x (.iface 26 v),.x (.func (.func 15) #[] #[.pointer (some ⟨b,0,none⟩)])]∧H b=some (rowO [v] TL)∧RowV H v 4 (aF A)∧nh v=0∧aB v=A.length∧A.length<=1000000∧(A.map (·.1)).Nodup∧blkOf v≠some b∧
 (v= .slice none 0 0->T (.x (.tuple #[])) H)∧∀q A' ob,blkOf v=some q->A'.Perm A->eP A'->H5 ob A'->T (.x (.tuple #[])) (aw H q (some ob))
theorem yY (l:List (FuncId×(List V->Option V))) (lp:List (FuncId×(List V->Option (V×List (List V))))) (lm:List (FuncId×(List V->Option (List V×List V)))) (lit any:Nat->Bool):cV (bU l lp lm lit any) 14 uT:=by
 refine⟨fun a w=>Try.call14 a w,fun m w vs us H T hC hdat hr hH hj hg=>?_⟩;obtain⟨b,v,A,TL,rfl,hb,hrow,hoff,hlen,hmax,hnd,hne,h0,h1⟩:=hC;have hvs:vs= #[.iface 26 v,.func (.func 15) #[] #[.pointer (some ⟨b,0,none⟩)]]:=by apply Qe.1;exact fX (l:=[.iface 26 v,.func (.func 15) #[] #[.pointer (some ⟨b,0,none⟩)]]) hr
 subst hvs;have hH0:∀y,H y≠none->m y=some 0:=fun y hy=>by
  cases e:H y with
  |none=>exact absurd e hy
  |some ob=>exact(hH y ob e).2.1
 rcases hrow with⟨_,rfl⟩|⟨g,off,n,cap,cur,ty,rfl,hg0,hn,hs,hc⟩
 . refine(FB (w:=w) (Bk:=b)).mono ?_;rintro e w' ⟨rfl,os,rfl⟩;have hold:∀k,k<w.heap.size->(Go.Sort.grow w os).heap[k]?=w.heap[k]?:=fun k hk=>Go.Sort.heap_grow_old _ _ hk
   refine⟨_,_,_,H,rfl,.x _,h0 rfl,Step.of_new rfl rfl rfl (by simp[Go.Sort.grow]) hH0 (fun k hk _=>hold k hk),fun g ob e=>?_⟩;have hlt:=al (hH g ob e).1;exact⟨(hold g hlt).trans (hH g ob e).1,by rw[PS (Q7.2 hlt)];exact(hH g ob e).2.1,.inl (by rw[e];simp)⟩
 . have:off=0:=hoff;subst this;obtain rfl:n=A.toArray.size:=by simpa[aB] using hlen
   have hgb:b≠g:=fun e=>hne (by rw[e];rfl)
   have hcur:∃rest,cur.toList=A.toArray.toList.flatMap d7++rest:=by refine⟨cur.toList.drop (A.toArray.size*4),?_⟩;rw[Rm] at hc;show _=aF A++_;rw[<-hc,Qv]
   have hblk:=al (hH g _ hg0).1;refine(FA (hH g _ hg0).1 hcur (hH b _ hb).1 rfl hgb hn (by simpa[MXS4] using hmax) (hH g _ hg0).2.2 hj).mono ?_;rintro e w' ⟨rfl,d',hp,hsd,hbel,m',hbx⟩;obtain⟨hsrt,hperm⟩:=CP hp hsd (by simpa using hnd);obtain⟨_,vals,ty8,xs,rest,hh8,hx8,hr8⟩:=hbx;rw[cG] at hr8;have hxs:=fX hr8;subst hxs;have hob:H5 (.cells vals ty8.ty ty8.fz) d'.toList:=fun w q hq=>⟨rfl,vals,ty8,_,rest,hq,hx8,by rw[cG];exact gM _⟩
   refine⟨_,_,_,_,rfl,.x _,h1 g d'.toList _ rfl hperm hsrt hob,Step.of_new hbel.os hbel.tape hbel.output hbel.size hH0 (fun k hk hn=>hbel.block k hk (by intro hm;rw[PQ.1 hm] at hn;exact hn (by rw[hg0];simp))),fun y ob e=>?_⟩
   by_cases ey:y=g
   . subst ey;rw[aa] at e;cases e;exact⟨hh8,by rw[PS (Q7.2 hblk)];exact(hH y _ hg0).2.1,.inl (by rw[hg0];simp)⟩
   . rw[ae _ _ ey] at e;have hlt:=al (hH y ob e).1;exact⟨(hbel.block y hlt (by simpa using ey)).trans (hH y ob e).1,by rw[PS (Q7.2 hlt)];exact(hH y ob e).2.1,.inl (by rw[e];simp)⟩
theorem H6 (s:aK) (n n':Int) (L:List Ch):cX (bR s n L)=cX (bR s n' L):=by
 cases e:fJ s L with
 |none=>rw[(bK e).2.1,(bK e).2.1,cX,cX,Qj,Qj];rfl
 |some i=>obtain⟨_,_,_,h2,_⟩:=cf e;rw[h2,h2,cX,cX,R0,R0]
theorem H7 (s:aK) (n n':Int) (L:List Ch):(dE (bR s n L)).set (eb Try.prog 38 (cX L) (aJ s)) (.x (.int .i64 n'))=dE (bR s n' L):=by
 unfold eb;rw[Try.underlying38];simp only[gN];cases e:fJ s L with
 | none=>
   have hl:(cX L).length=(dE L).length:=by simp[cX,dE]
   have ea:∀m:Int,dE (L++[(s,m)])=dE L++[.x (.int .i64 m)]:=fun m=>by rw[dE,dE,Qj];rfl
   rw[(bK e).2.1,(bK e).2.1,QR,ea,ea];simp only;rw[hl,List.set_append_right _ _ (PB _),RZ];rfl
 |some i=>obtain⟨_,_,_,h2,_⟩:=cf e;rw[h2,h2,Qd,iO];simp only;rw[dE,dE,R0,R0,List.set_set]
theorem H8 {g:Nat} (h:MapH H g (cX L) (dE L)) (hT:∀Hx st,MapH Hx g (cX (bR s (bn L s) L)) (dE (bR s (bn L s) L))->fj Hx g (eb Try.prog 38 (cX L) (aJ s)) st->(∀y,y≠g->Hx y=H y)->T (.tup [.x (.int .i64 (bn L s)),.x (.int .i64 st)]) Hx):Kw Try.prog 38 H g (.agg [.x (.int .i64 s.1),.x (.int .i64 s.2.1),.x (.int .i64 s.2.2)]) T:=
 ⟨_,_,_,_,_,h,rfl,⟨rfl,_,rfl⟩,mF L s 0,wi L s _,fun _ st h1 h2=>hT _ st h1 h2 fun _ hy=>ae _ _ hy⟩
theorem H9 {g:Nat} {st:Int} (h:MapH H g (cX (bR s (bn L s) L)) (dE (bR s (bn L s) L))) (hS:fj H g (eb Try.prog 38 (cX L) (aJ s)) st) (hT:∀Hx,MapH Hx g (cX (bR s n L)) (dE (bR s n L))->(∀y,y≠g->Hx y=H y)->T .undef Hx):Kx H g st (.x (.int .i64 n)) T:=
 ⟨_,_,_,h,hS,⟨rfl,_,rfl⟩,fun ob h1=>hT _ (by rw[H7,H6 s _ n] at h1;exact h1) fun _ hy=>ae _ _ hy⟩
def CQ (x:Ch):Option Ch:=if x.2=0 then none else some x
def il (L:List Ch) (vis:List Nat):List Ch:=vis.filterMap fun i=>(L[i]?).bind CQ
theorem yZ {i:Nat} {x:Ch} (h:L[i]?=some x):il L (vis++[i])=il L vis++(if x.2=0 then [] else [x]):=by unfold il;rw[R1];congr 1;simp only[Sc,Sk,h,QQ,CQ];split<;>rename_i e<;>split at e<;>simp_all
theorem jC {x:Ch}:x∈il L vis↔x.2≠0∧∃i∈vis,L[i]?=some x:=by
 unfold il;rw[List.mem_filterMap];constructor
 . rintro⟨i,hi,h⟩;obtain⟨y,hy,h⟩:=QG.1 h;unfold CQ at h;split at h
   . cases h
   . rename_i h0;cases h;exact⟨h0,i,hi,hy⟩
 . rintro⟨h0,i,hi,hx⟩;exact⟨i,hi,by rw[hx];show CQ x=_;unfold CQ;rw[PS h0]⟩
theorem kh {L:List Ch} (h:dC L):∀{vis:List Nat},vis.Nodup->((il L vis).map (·.1)).Nodup
 |[],_=>Q3
 | i::vis,hn=>by
   rw[QF] at hn;have ih:=kh h hn.2;have e:il L (i::vis)=il L [i]++il L vis:=by unfold il;rw[<-R1];rfl
   rw[e,Qj];refine QJ.2 ⟨?_,ih,fun a ha b hb q=>?_⟩
   . unfold il;simp only[Sc,Sk];split<;>simp
   . obtain⟨x,hx,rfl⟩:=Qi.1 ha;obtain⟨y,hy,rfl⟩:=Qi.1 hb;obtain⟨_,j,hj,hx⟩:=jC.1 hx;obtain⟨_,j',hj',hy⟩:=jC.1 hy;rw[PQ.1 hj] at hx;exact hn.1 (wl h hx hy q▸hj')
theorem CR (h:dC L) {vis:List Nat} (hv:vis.Nodup):(il L vis).length<=L.length:=by
 have:=fE (kh h hv) (l':=L.map (·.1)) fun s hs=>by obtain⟨x,hx,rfl⟩:=Qi.1 hs;obtain⟨_,i,_,hx⟩:=jC.1 hx;exact Qi.2 ⟨x,PM hx,rfl⟩
 rwa [eq,eq] at this
variable {A:List Ch}
theorem CS (hO:dC L) (hc:∀s,bn L s=c s) (hall:∀i,i<L.length->i∈vis) (hp:A.Perm (il L vis)) (hs:eP A):SumIs c A:=by
 have hm:∀x,x∈A↔x.2≠0∧x∈L:=fun x=>by
  rw[hp.mem_iff,jC];refine Sw fun _=>⟨fun⟨i,_,h⟩=>PM h,fun h=>?_⟩
  obtain⟨i,hi⟩:=Q8.1 h;exact⟨i,hall i (PE.1 hi).1,hi⟩
 refine⟨hs,fun x hx=>((hm x).1 hx).1,fun s=>?_⟩;rw[<-hc];by_cases e:bn L s=0
 . rw[e];refine QH fun n=>?_
   obtain⟨x,hx,rfl⟩:=ka n;have h1:=(hm x).1 hx;rw[eT hO h1.2] at e;exact h1.1 e
 . obtain⟨x,hx,rfl⟩:=ka e;rw[eT hO hx] at e⊢;exact fb hs ((hm x).2 ⟨e,hx⟩)
def AcJ (H Hx:HH) (b r:Nat) (A:List Ch):Prop:=∃v,Hx b=some (rowO [v] 26)∧RowV Hx v 4 (aF A)∧nh v=0∧aB v=A.length∧blkOf v≠some b∧blkOf v≠some r∧(∀q,blkOf v=some q->H q=none)∧∀y,H y≠none->Hx y=H y
variable {b:Nat}
theorem AcJ.iter (h:AcJ H Hx b r A) (hr:H r=none) (hbr:b≠r) (ob:Obj):AcJ H (aw Hx r (some ob)) b r A:=by obtain⟨v,h1,h2,h3,h4,h5,h6,h7,h8⟩:=h;exact⟨v,(ae _ _ hbr).trans h1,h2.to fun g hg=>ae _ _ fun e=>h6 (e▸hg),h3,h4,h5,h6,h7,fun y hy=>(ae _ _ fun e=>hy (by rw[e];exact hr)).trans (h8 y hy)⟩
theorem FD {x:Ch} {v:Value} {tok:Option Nat} (hb:Hx b=some (rowO [v] 26)) (hrow:RowV Hx v 4 (aF A)) (ho:nh v=0) (hl:aB v=A.length) (hvb:blkOf v≠some b) (hvr:blkOf v≠some r) (hnew:∀q,blkOf v=some q->H q=none) (hK:∀y,H y≠none->Hx y=H y) (hI:ItO Hx r g vis) (hg:∀y,g=some y->H y≠none) (hbH:H b=none) (hbr:b≠r) (hA:A.length<=100000)
 (hT:∀v' Hy,v'.oneCell'=true->Hy b=some (rowO [v] 26)->AcJ H (aw Hy b (some (rowO [v'] 26))) b r (A++[x])->ItO (aw Hy b (some (rowO [v'] 26))) r g vis->T (.x v') Hy):Fh Try.prog 26 Hx v (.sl false 4 [.agg [.x (.int .i64 x.1.1),.x (.int .i64 x.1.2.1),.x (.int .i64 x.1.2.2),.x (.int .i64 x.2)]] tok) T:=by
 refine⟨4,1,aF A,aF [x],by kernel_rfl,hrow,⟨.inl rfl,rfl,rfl⟩,cC _,by rw[hl];omega,fun h=>absurd h (by decide),fun _ v' q ob hq hlq hqn hoq hrq=>?_⟩;have hqb:q≠b:=fun e=>by
  subst e;rcases hqn with h|h
  . exact hvb h
  . rw[hb] at h;cases h
 have hqr:q≠r:=fun e=>by
  subst e;rcases hqn with h|h
  . exact hvr h
  . cases g with
    |none=>obtain⟨⟨_,_,_,h2⟩,_⟩:=hI;rw[h] at h2;cases h2
    |some g=>obtain⟨_,_,_,h2,_⟩:=(show IterH Hx q g vis from hI);rw[h] at h2;cases h2
 have hqH:H q=none:=by
  rcases hqn with h|h
  . exact hnew q h
  . cases e:H q with
    |none=>rfl
    |some ob=>rw[hK q (by rw[e];simp),e] at h;cases h
 refine hT v' _ hrq.one ((ae _ _ (QT hqb)).trans hb) ⟨v',aa _ _ _,?_,hoq ho,by rw[hlq,hl,PP];rfl,(fun e=>hqb (by rw[hq] at e;exact QE e)),(fun e=>hqr (by rw[hq] at e;exact QE e)),(fun q' e=>by rw[hq] at e;cases e;exact hqH),fun y hy=>?_⟩ (hI.to ?_ fun y hy=>?_)
 . rw[cO];exact hrq.to fun g' hg'=>ae _ _ fun e=>by rw[hq] at hg';cases hg';exact hqb e
 . exact(ae _ _ fun e=>hy (by rw[e];exact hbH)).trans ((ae _ _ fun e=>hy (by rw[e];exact hqH)).trans (hK y hy))
 . exact(ae _ _ (QT hbr)).trans (ae _ _ (QT hqr))
 . exact(ae _ _ fun e=>hg y hy (by rw[e];exact hbH)).trans (ae _ _ fun e=>hg y hy (by rw[e];exact hqH))
theorem CT {q n:Nat} {ob:Obj} {l:List Ch} (hob:H5 ob l) (hq:Hx q=some ob) (hqH:H q=none) (hn:n=l.length) (hc:n<=cap) (hk:∀y ob,H y=some ob->Hx y=some ob) (hT:T (.sl false 4 (l.map cD) none) H):uA (.x (.slice (some ⟨q,0,none⟩) n cap)) Hx T:=by
 refine⟨fun y=>(H y).isNone,.sl false 4 (l.map cD) none,fun m w v hw hm hv=>?_,?_⟩
 . cases hv;have hb:=hob w q (hw q ob hq);have hs:l.toArray.size=l.length:=by simp
   have:=CI (cap:=cap) hb (by rw[hs,<-hn];exact hc) m (hm q (by simp[hqH]) (by rw[hq];simp));rw[hs,<-hn] at this;exact this
 . have e:(fun g=>if (H g).isNone=true then none else Hx g)=H:=by
    funext g;cases hg:H g with
    |none=>simp
    |some ob=>simp[hk g ob hg]
   rw[e];exact hT
theorem CU (hk:∀y ob,H y=some ob->Hx y=some ob) (hT:T (.sl true 4 ([]:List V) none) H):uA (.x (.slice none 0 0)) Hx T:=by
 refine⟨fun y=>(H y).isNone,.sl true 4 [] none,fun m w v _ _ hv=>by cases hv;exact .nil _ _,?_⟩;have e:(fun g=>if (H g).isNone=true then none else Hx g)=H:=by
  funext g;cases hg:H g with
  |none=>simp
  |some ob=>simp[hk g ob hg]
 rw[e];exact hT
def KA (g:Nat) (L:List Ch) (x:Ch):Nat->V
 |24=> .x (.map (some g))
 |25=> .ptr 7 0
 |26=> .agg [.x (.int .i64 x.1.1),.x (.int .i64 x.1.2.1),.x (.int .i64 x.1.2.2)]
 |27=> .x (.int .i64 (bn L x.1))
 |28=> .ptr 7 3
 |29=> .x (.int .i64 x.2)
 |30=> .x (.int .i64 (bn L x.1+x.2))
 |_=> .undef
theorem mI:cV (bU [] [] [] (fun _=>false) (fun _=>false)) 8 yX:=by
 refine jq (F:={F:=so [(14,uT)],D:=fun _=>false,any:=fun i=>i==8,Y:=iZ (Iw fun d=>d==11) (iZ (me Try.prog) (iZ (Cc Try.prog) (iZ Cd (iZ (fU (fun d=>d==36) Try.prog) (iZ (iP fun d=>d==37) (iZ iN (iZ (uE Try.prog fun d=>d==8) (iZ (uD Try.prog fun d=>d==49) mj))))))))}) (n:=55) (k:=1) (aP [] [] [] _ _ trivial trivial trivial) (by kernel_rfl) (eO (l:=[(14,uT)]) ⟨yY _ _ _ _ _,trivial⟩) (fun t s C e=>by cases e) Try.func8 rfl (fun a w=>Try.call8 a w) Try.ntmps8 (by decide) (by decide) (by kernel_rfl) ?_ (hY:=(bF (Cf (aP [] [] [] _ _ trivial trivial trivial) _) (bF mh (bF (Fn (aP [] [] [] _ _ trivial trivial trivial)) (bF (Fo (aP [] [] [] _ _ trivial trivial trivial)) (bF (iQ (aP [] [] [] _ _ trivial trivial trivial) _) (bF (j9 (aP [] [] [] _ _ trivial trivial trivial) _) (bF j8 (bF (o8 (aP [] [] [] _ _ trivial trivial trivial) _) (bF (o7 (aP [] [] [] _ _ trivial trivial trivial) _) mn))))))))));rintro us H T ⟨⟨nl,z,l⟩,rfl,⟨hz,hl,hrs⟩,⟨hc1,hc2⟩,hT⟩ hdat;clear hdat;refine⟨rfl,?_⟩;simp only[eE,yI];have hz:l≠[]->z=1:=hz;have hc1:bY l<=100:=hc1;have hlc:=gO l;have zX:rz Try.prog 26=some [.slice none 0 0]:=by kernel_rfl
 have nI:yk Try.prog 26=true:=by kernel_rfl
 have sL:bg Try.prog 26=some 1:=by kernel_rfl
 simp +decide (maxDischargeDepth:=200) only[go_sem,Nat.reduceBEq,eq];intro g hg hMg;refine bP (X:={i:Nat//i<=l.length}) (fun i=>[(3,.x (.map (some g))),(12,.sl nl z (l.map eQ) none),(13,.x (.int .i64 (l.length:Int))),(14,.x (.int .i64 ((i.1:Nat):Int)))]) (fun _=>[]) (fun i Hx=>∃L,MapH Hx g (cX L) (dE L)∧dC L∧(∀s,bn L s=bN (l.take i.1) s)∧L.length<=bH (l.take i.1)∧∀y,H y≠none->Hx y=H y) (fun i=>l.length-i.1) ⟨0,PH _⟩ (by simp +decide only[go_sem,Nat.reduceBEq,P3]<;>(repeat' first|rfl|constructor)) (by simp +decide only[go_sem,Nat.reduceBEq,P3]<;>(repeat' first|rfl|constructor)) ⟨[],hMg,Q3,fun _=>rfl,PB _,fun y hy=>ae _ _ (fun e=>hy (by rw[e];exact hg))⟩ ?_;rintro⟨i,hi⟩ Hi ⟨L,hM,hO,hcn,hLl,hfr⟩;simp only at hi hcn hLl⊢;by_cases hil:i<l.length
 case pos=>
  obtain rfl:z=1:=hz (fun e=>by rw[e] at hil;cases hil);have d0:decide ((i:Int)<(l.length:Int))=true:=PD (by omega);have p0:(0:Int)<=(i:Int):=by omega
  have p1:(i:Int)<(l.length:Int):=by omega
  have cu:=bh (i:=i) (by omega);have hr:l[i]?=some l[i]:=Io hil;generalize l[i]=r at hr;have hrm:=PM hr;have hti:=br hr;obtain⟨nr,zr,R⟩:=r;have hzr:R≠[]->zr=4:=(hrs _ hrm).1;have hbR:R.all jJ=true:=hc2 _ hrm;have hlt:bH (l.take (i+1))=bH (l.take i)+R.length:=by rw[hti,d6];simp[bH]
  have hlt2:bH (l.take (i+1))+bH (l.drop (i+1))=bH l:=by rw[<-d6,Qv]
  have hl0:0<l.length:=by omega
  have q1:(l.map eQ)[((i:Int)).toNat]?=some (.sl nr zr (R.map cD) none):=by rw[io,PF,hr];rfl
  simp +decide (maxDischargeDepth:=200) only[go_sem,Nat.reduceBEq,eq,d0,p0,p1,q1];refine bP (X:={k:Nat//k<=R.length}) (fun k=>[(3,.x (.map (some g))),(12,.sl nl 1 (l.map eQ) none),(13,.x (.int .i64 (l.length:Int))),(14,.x (.int .i64 ((i:Nat):Int))),(18,.sl nr zr (R.map cD) none),(19,.x (.int .i64 (R.length:Int))),(20,.x (.int .i64 ((k.1:Nat):Int)))]) (fun _=>[]) (fun k Hx=>∃L,MapH Hx g (cX L) (dE L)∧dC L∧(∀s,bn L s=bN (l.take i) s+cv (R.take k.1) s)∧L.length<=bH (l.take i)+k.1∧∀y,H y≠none->Hx y=H y) (fun k=>R.length-k.1) ⟨0,PH _⟩ (by simp +decide only[go_sem,Nat.reduceBEq,P3]<;>(repeat' first|rfl|constructor)) (by simp +decide only[go_sem,Nat.reduceBEq,P3]<;>(repeat' first|rfl|constructor)) ⟨L,hM,hO,fun s=>by rw[hcn];simp[cv],hLl,hfr⟩ ?_;clear hM hO hcn hLl hfr Hi L;rintro⟨k,hkk⟩ Hk ⟨L,hM,hO,hcn,hLl,hfr⟩;simp only at hkk hcn hLl⊢;by_cases hkl:k<R.length
  case neg=>
   have d1:decide ((k:Int)<(R.length:Int))=false:=PC (by omega);have ek:k=R.length:=by omega
   rw[show R.take k=R from Qb (by omega)] at hcn;simp +decide (maxDischargeDepth:=200) only[go_sem,Nat.reduceBEq,eq,d1,cu];refine⟨⟨i+1,hil⟩,⟨by simp +decide (maxDischargeDepth:=200) only[go_sem,Nat.reduceBEq],by simp +decide (maxDischargeDepth:=200) only[go_sem,Nat.reduceBEq],L,hM,hO,fun s=>?_,by simp only;omega,hfr⟩,by simp only;omega⟩;rw[hcn,hti,jB];simp[bN]
  obtain rfl:zr=4:=hzr (fun e=>by rw[e] at hkl;cases hkl);have d1:decide ((k:Int)<(R.length:Int))=true:=PD (by omega);have k0:(0:Int)<=(k:Int):=by omega
  have k1:(k:Int)<(R.length:Int):=by omega
  have ck:=bh (i:=k) (by omega);have hx:R[k]?=some R[k]:=Io hkl;generalize R[k]=x at hx;have q2:(R.map cD)[((k:Int)).toNat]?=some (.agg [.x (.int .i64 x.1.1),.x (.int .i64 x.1.2.1),.x (.int .i64 x.1.2.2),.x (.int .i64 x.2)]):=by rw[io,PF,hx];rfl
  have hbx:jJ x=true:=PJ.1 hbR x (PM hx);simp only[jJ,PG,Qx,Ra] at hbx;have hbig: -(100*1099511627776)<=bn L x.1∧bn L x.1<=100*1099511627776:=by
   have h1:=f5 (l:=l.take i) (fun r hr=>hc2 r (Q5 hr)) x.1;have h2:=fZ (l:=R.take k) (PJ.2 fun y hy=>PJ.1 hbR y (Q5 hy)) x.1;have h3:(R.take k).length=k:=by rw[P8];omega
   rw[h3] at h2;rw[hcn];omega
  have hw:aq .i64 (bn L x.1+x.2)=bn L x.1+x.2:=aj (by unfold aS;omega);simp +decide (maxDischargeDepth:=200) only[go_sem,Nat.reduceBEq,eq,d1,k0,k1,q2];refine aU (fun k=>match k with|2=>[25]|3=>[24,26]|5=>[28]|6=>[27,29]|7=>[24,26]|8=>[31]|9=>[24,32,30]|_=>[]) [7,8,9] (fun k=>match k with|0=>0|1=>0|2=>0|3=>2|4=>0|5=>0|6=>2|_=>3) (fun j Hx val=>match j with|0=>Hk=Hx|1=>∃st,fj Hx g (eb Try.prog 38 (cX L) (aJ x.1)) st∧MapH Hx g (cX (bR x.1 (bn L x.1) L)) (dE (bR x.1 (bn L x.1) L))∧(∀y,y≠g->Hx y=Hk y)∧val 31= .tup [.x (.int .i64 (bn L x.1)),.x (.int .i64 st)]|2=>∃st,fj Hx g (eb Try.prog 38 (cX L) (aJ x.1)) st∧MapH Hx g (cX (bR x.1 (bn L x.1) L)) (dE (bR x.1 (bn L x.1) L))∧(∀y,y≠g->Hx y=Hk y)∧val 32= .x (.int .i64 st)|_=>MapH Hx g (cX (bR x.1 (bn L x.1+x.2) L)) (dE (bR x.1 (bn L x.1+x.2) L))∧∀y,y≠g->Hx y=Hk y) (KA g L x) (by kernel_rfl) (by kernel_rfl) (by kernel_rfl) rfl ?_ ?_ ?_
  . rintro j i' o Hx val st ho hW hj hJ hv hn hb hbb K' hk;have b3:st.t 3= .x (.map (some g)):=hb 3 (by kernel_rfl);have b7:st.t 7= .ptr 7 0:=hb 7 (by kernel_rfl);have bb7:st.b 7=some ([.x (.int .i64 x.1.1),.x (.int .i64 x.1.2.1),.x (.int .i64 x.1.2.2),.x (.int .i64 x.2)]):=(QP hbb 7).trans (by kernel_rfl);clear hb hbb;rcases i' with _|_|_|_|_|_|_|_|_|_|i'
    . cases ho;simp +decide (maxDischargeDepth:=200) only[go_sem,Nat.reduceBEq,b3,hw];exact hk _ (Le.refl _)
    . cases ho;simp +decide (maxDischargeDepth:=200) only[go_sem,Nat.reduceBEq,b7,bb7,hw];exact hk _ (Le.refl _)
    . cases ho;have h25:st.t 25= .ptr 7 0:=(hn 25 (by decide)).trans (hv 25 (by kernel_rfl));simp +decide (maxDischargeDepth:=200) only[go_sem,Nat.reduceBEq,h25,hw,bb7];exact hk _ (Le.refl _)
    . cases ho;have h24:st.t 24= .x (.map (some g)):=(hn 24 (by decide)).trans (hv 24 (by kernel_rfl));have h26:st.t 26= .agg [.x (.int .i64 x.1.1),.x (.int .i64 x.1.2.1),.x (.int .i64 x.1.2.2)]:=(hn 26 (by decide)).trans (hv 26 (by kernel_rfl));simp +decide (maxDischargeDepth:=200) only[go_sem,Nat.reduceBEq,h24,h26,hw];have hj2:j<=2:=hj;obtain⟨L',hM',hc'⟩:∃L',MapO Hx (some g) L'∧bn L' x.1=bn L x.1:=by
       have hp:bn (bR x.1 (bn L x.1) L) x.1=bn L x.1:=by rw[jA,PO rfl]
       rcases j with _|_|_|j
       . have e:Hk=Hx:=hJ;rw[<-e];exact⟨L,hM,rfl⟩
       . obtain⟨_,_,h,_⟩:∃st,fj Hx g (eb Try.prog 38 (cX L) (aJ x.1)) st∧MapH Hx g (cX (bR x.1 (bn L x.1) L)) (dE (bR x.1 (bn L x.1) L))∧(∀y,y≠g->Hx y=Hk y)∧val 31= .tup [.x (.int .i64 (bn L x.1)),.x (.int .i64 st)]:=hJ;exact⟨_,h,hp⟩
       . obtain⟨_,_,h,_⟩:∃st,fj Hx g (eb Try.prog 38 (cX L) (aJ x.1)) st∧MapH Hx g (cX (bR x.1 (bn L x.1) L)) (dE (bR x.1 (bn L x.1) L))∧(∀y,y≠g->Hx y=Hk y)∧val 32= .x (.int .i64 st):=hJ;exact⟨_,h,hp⟩
       . omega
      exact pj hM' (by rw[hc'];simp only[bo];exact hk _ (Le.refl _))
    . cases ho;simp +decide (maxDischargeDepth:=200) only[go_sem,Nat.reduceBEq,b7,bb7,hw];exact hk _ (Le.refl _)
    . cases ho;have h28:st.t 28= .ptr 7 3:=(hn 28 (by decide)).trans (hv 28 (by kernel_rfl));simp +decide (maxDischargeDepth:=200) only[go_sem,Nat.reduceBEq,h28,hw,bb7];exact hk _ (Le.refl _)
    . cases ho;have h27:st.t 27= .x (.int .i64 (bn L x.1)):=(hn 27 (by decide)).trans (hv 27 (by kernel_rfl));have h29:st.t 29= .x (.int .i64 x.2):=(hn 29 (by decide)).trans (hv 29 (by kernel_rfl));simp +decide (maxDischargeDepth:=200) only[go_sem,Nat.reduceBEq,h27,h29,hw];exact hk _ (Le.refl _)
    . cases hW
    . cases hW
    . cases hW
    . cases ho
  . rintro j i' o Hx val st hj ho hJ hv hn hb hbb K' hk;have b3:st.t 3= .x (.map (some g)):=hb 3 (by kernel_rfl);have b7:st.t 7= .ptr 7 0:=hb 7 (by kernel_rfl);have bb7:st.b 7=some ([.x (.int .i64 x.1.1),.x (.int .i64 x.1.2.1),.x (.int .i64 x.1.2.2),.x (.int .i64 x.2)]):=(QP hbb 7).trans (by kernel_rfl);clear hb hbb;rcases j with _|_|_|j
    . cases hj;cases ho;have h24:st.t 24= .x (.map (some g)):=(hn 24 (by decide)).trans (hv 24 (by kernel_rfl));have h26:st.t 26= .agg [.x (.int .i64 x.1.1),.x (.int .i64 x.1.2.1),.x (.int .i64 x.1.2.2)]:=(hn 26 (by decide)).trans (hv 26 (by kernel_rfl));have e:Hk=Hx:=hJ;subst e;simp +decide (maxDischargeDepth:=200) only[go_sem,Nat.reduceBEq,h24,h26];exact H8 hM fun Hy st q1 q2 q3=>hk Hy (.tup [.x (.int .i64 (bn L x.1)),.x (.int .i64 st)]) _ ⟨st,q2,q1,q3,aa _ _ _⟩ (by rw[gm];exact Le.refl _)
    . cases hj;cases ho;obtain⟨stt,q2,q1,q3,q4⟩:∃st,fj Hx g (eb Try.prog 38 (cX L) (aJ x.1)) st∧MapH Hx g (cX (bR x.1 (bn L x.1) L)) (dE (bR x.1 (bn L x.1) L))∧(∀y,y≠g->Hx y=Hk y)∧val 31= .tup [.x (.int .i64 (bn L x.1)),.x (.int .i64 st)]:=hJ;have h31:=(hn 31 (by decide)).trans q4;simp +decide (maxDischargeDepth:=200) only[go_sem,Nat.reduceBEq,h31];exact hk Hx (.x (.int .i64 stt)) _ ⟨stt,q2,q1,q3,aa _ _ _⟩ (Le.refl _)
    . cases hj;cases ho;have h24:st.t 24= .x (.map (some g)):=(hn 24 (by decide)).trans (hv 24 (by kernel_rfl));have h30:st.t 30= .x (.int .i64 (bn L x.1+x.2)):=(hn 30 (by decide)).trans (hv 30 (by kernel_rfl));obtain⟨stt,q2,q1,q3,q4⟩:∃st,fj Hx g (eb Try.prog 38 (cX L) (aJ x.1)) st∧MapH Hx g (cX (bR x.1 (bn L x.1) L)) (dE (bR x.1 (bn L x.1) L))∧(∀y,y≠g->Hx y=Hk y)∧val 32= .x (.int .i64 st):=hJ;have h32:=(hn 32 (by decide)).trans q4;simp +decide (maxDischargeDepth:=200) only[go_sem,Nat.reduceBEq,h24,h30,h32];exact H9 q1 q2 fun Hy w1 w2=>hk Hy .undef _ ⟨w1,fun y hy=>(w2 y hy).trans (q3 y hy)⟩ (Le.refl _)
    . cases hj
  . rintro Hx val hJ hv;refine⟨[(3,.x (.map (some g))),(12,.sl nl 1 (l.map eQ) none),(13,.x (.int .i64 (l.length:Int))),(14,.x (.int .i64 ((i:Nat):Int))),(18,.sl nr 4 (R.map cD) none),(19,.x (.int .i64 (R.length:Int))),(20,.x (.int .i64 ((k:Nat):Int)))],[],?_,?_,?_⟩
    . simp +decide only[go_sem,Nat.reduceBEq]<;>(repeat' first|exact bd (by kernel_rfl)|exact(be (by kernel_rfl)).trans (hv _ (by kernel_rfl))|rfl|constructor)
    . simp +decide only[go_sem,Nat.reduceBEq]<;>(repeat' first|rfl|constructor)
    obtain⟨hM2,hK2⟩:MapH Hx g (cX (bR x.1 (bn L x.1+x.2) L)) (dE (bR x.1 (bn L x.1+x.2) L))∧∀y,y≠g->Hx y=Hk y:=hJ;simp +decide (maxDischargeDepth:=200) only[go_sem,Nat.reduceBEq,ck];refine⟨⟨k+1,hkl⟩,⟨by simp +decide (maxDischargeDepth:=200) only[go_sem,Nat.reduceBEq],by simp +decide (maxDischargeDepth:=200) only[go_sem,Nat.reduceBEq],(bR x.1 (bn L x.1+x.2) L),hM2,od hO,fun s=>?_,tl (rR ..) (by simp only;omega),fun y hy=>(hK2 y (fun e=>hy (by rw[e];exact hg))).trans (hfr y hy)⟩,by simp only;omega⟩;rw[jA,br hx,mH,hcn,hcn];simp only[cv];by_cases e:s=x.1
    . rw[PO e,PO e.symm,e];omega
    . rw[PS e,PS (fun h=>e h.symm)];omega
 have ei:i=l.length:=by omega
 subst ei;have d0:decide ((l.length:Int)<(l.length:Int))=false:=PC (by omega);rw[QL] at hcn hLl;simp +decide (maxDischargeDepth:=200) only[go_sem,Nat.reduceBEq,eq,d0,zX];intro b hbn;have hgi:Hi g≠none:=by obtain⟨_,_,e,_⟩:MapH Hi g (cX L) (dE L):=hM;rw[e];simp
 have hgH:∀y,some g=some y->Hi y≠none:=fun y hy=>by cases hy;exact hgi
 have hMx:∀Hx:HH,(∀y,Hi y≠none->Hx y=Hi y)->MapO Hx (some g) L:=fun Hx h=>MapH.to hM (h g hgi)
 have hK2:∀y,Hi y≠none->(aw Hi b (some (rowO [.slice none 0 0] 26))) y=Hi y:=fun y hy=>ae _ _ fun e=>hy (by rw[e];exact hbn)
 simp +decide (maxDischargeDepth:=200) only[go_sem,Nat.reduceBEq];refine⟨H0,mG (hMx _ hK2),fun r ob hr hI0=>?_⟩;have hbr:b≠r:=fun e=>by rw[<-e,PO rfl] at hr;cases hr
 have hrH:Hi r=none:=by rwa [PS (QT hbr)] at hr
 refine bP (X:={vis:List Nat//vis.Nodup}) (fun _=>[(8,.x (ar b)),(36,.x (ar r))]) (fun _=>[]) (fun vis Hx=>AcJ Hi Hx b r (il L vis.1)∧ItO Hx r (some g) vis.1) (fun vis=>((List.range L.length).filter fun j=>decide (j∉vis.1)).length) ⟨[],Q3⟩ (by simp +decide only[go_sem,Nat.reduceBEq,P3]<;>(repeat' first|rfl|constructor)) (by simp +decide only[go_sem,Nat.reduceBEq,P3]<;>(repeat' first|rfl|constructor)) ⟨⟨.slice none 0 0,(ae _ _ hbr).trans (aa _ _ _),.inl ⟨rfl,rfl⟩,rfl,rfl,by simp[blkOf],by simp[blkOf],(fun q e=>by cases e),fun y hy=>(ae _ _ fun e=>hy (by rw[e];exact hrH)).trans (hK2 y hy)⟩,hI0⟩ ?_;rintro⟨vis,hvn⟩ Hx ⟨hJ,hI⟩;simp only at hJ hI⊢;have hKx:∀y,Hi y≠none->Hx y=Hi y:=by obtain⟨_,_,_,_,_,_,_,_,h⟩:=hJ;exact h
 have hLc:=CR hO hvn;simp +decide (maxDischargeDepth:=200) only[go_sem,Nat.reduceBEq];refine rS (hMx Hx hKx) hI (fun hall=>?_) (fun i x ob2 hx hni hI2=>?_)
 . obtain⟨v,hb1,hrow,ho,hlv,hvb,hvr,hnew,_⟩:=hJ;have c2:=ak hb1;have hx1:=pd hrow.one;simp +decide (maxDischargeDepth:=200) only[go_sem,Nat.reduceBEq,c2,nI];have hkeep:∀y ob,H y=some ob->Hx y=some ob:=fun y ob e=>by have h1:=hfr y (by rw[e];simp);exact(hKx y (by rw[h1,e];simp)).trans (h1.trans e)
   have hnone:∀q,Hi q=none->H q=none:=fun q hq=>by
    cases e:H q with
    |none=>rfl
    |some ob=>rw[hfr q (by rw[e];simp),e] at hq;cases hq
   refine⟨b,v,il L vis,26,rfl,hb1,hrow,ho,hlv,by omega,kh hO hvn,hvb,fun hv=>?_,fun q A' ob hq hperm hsrt hob=>?_⟩
   . subst hv;have hA:il L vis=[]:=Qu.1 hlv.symm;simp +decide (maxDischargeDepth:=200) only[go_sem,Nat.reduceBEq,c2];refine CU hkeep (hT [] true 4 (CS hO hcn hall (by rw[hA]) List.Pairwise.nil) (fun _=>rfl) (fun _=>rfl))
   . have hqb:b≠q:=fun e=>hvb (by rw[e];exact hq)
     have hb3:(aw Hx q (some ob)) b=some (rowO [v] 26):=(ae _ _ hqb).trans hb1;have c3:=ak hb3;simp +decide (maxDischargeDepth:=200) only[go_sem,Nat.reduceBEq,c3];rcases hrow with⟨_,rfl⟩|⟨q',off,n,cap,cur,ty,rfl,hg0,hn,_⟩
     . cases hq
     . have e0:off=0:=ho;subst e0;cases hq;have hA':n=A'.length:=by rw[hperm.length_eq];exact hlv
       exact CT hob (aa _ _ _) (hnone q' (hnew q' rfl)) hA' hn (fun y ob' e=>(ae _ _ fun e'=>by rw[e',hnone q' (hnew q' rfl)] at e;cases e).trans (hkeep y ob' e)) (hT A' false 4 (CS hO hcn hall hperm hsrt) (fun h=>by cases h) (fun _=>rfl))
 . have hJ2:=hJ.iter hrH hbr ob2;have hil:=(PE.1 hx).1;have hnd2:(vis++[i]).Nodup:=QJ.2 ⟨hvn,by simp,fun a ha b hb e=>by rw[PQ.1 hb] at e;exact hni (e▸ha)⟩;have hcs:=yZ (L:=L) (vis:=vis) hx;generalize aw Hx r (some ob2)=Hy at hJ2 hI2;have hKy:∀y,Hi y≠none->Hy y=Hi y:=by obtain⟨_,_,_,_,_,_,_,_,h⟩:=hJ2;exact h
   simp +decide (maxDischargeDepth:=200) only[go_sem,Nat.reduceBEq];refine oe (hMx Hy hKy) hI2 hx ?_;by_cases hn:x.2=0
   . have dg:=PD hn;rw[PO hn,QS] at hcs;simp +decide (maxDischargeDepth:=200) only[go_sem,Nat.reduceBEq,dg];rw[<-hcs] at hJ2;exact⟨⟨vis++[i],hnd2⟩,⟨by simp +decide (maxDischargeDepth:=200) only[go_sem,Nat.reduceBEq],by simp +decide (maxDischargeDepth:=200) only[go_sem,Nat.reduceBEq],hJ2,hI2⟩,fH hil hni⟩
   . have dg:=PC hn;rw[PS hn] at hcs;obtain⟨v,hb1,hrow,ho,hlv,hvb,hvr,hnew,_⟩:=hJ2;have c2:=ak hb1;simp +decide (maxDischargeDepth:=200) only[go_sem,Nat.reduceBEq,dg,c2];refine FD (x:=x) hb1 hrow ho hlv hvb hvr hnew hKy hI2 hgH hbn hbr (by omega) fun v' Hz h1 h2 h3 h4=>?_
     have c4:=ak h2;have hx4:=pd h1;have sp:cF [v] 0 [v']=[v']:=rfl;simp +decide (maxDischargeDepth:=200) only[go_sem,Nat.reduceBEq,c4,hx4,sL,sp];rw[<-hcs] at h3;exact⟨⟨vis++[i],hnd2⟩,⟨by simp +decide (maxDischargeDepth:=200) only[go_sem,Nat.reduceBEq],by simp +decide (maxDischargeDepth:=200) only[go_sem,Nat.reduceBEq],h3,h4⟩,fH hil hni⟩
theorem FF {l:List Ch} (h:cv l s≠0):s∈l.map (·.1):=by
 induction l with
 |nil=>exact absurd rfl h
 | cons x l ih=>
   rw[QU,PY];by_cases e:x.1=s
   . exact .inl e.symm
   . rw[cv,PS e,Int.zero_add] at h;exact .inr (ih h)
def rT (l:List eD):List aK:=l.flatMap fun r=>r.2.2.map (·.1)
theorem y3 (l:List eD):(rT l).length=bH l:=by
 induction l with
 |nil=>rfl
 |cons r l ih=>rw[rT,Qq,PP,eq,bH];rw[rT] at ih;rw[ih]
theorem FG (h:bN l s≠0):s∈rT l:=by
 induction l with
 |nil=>exact absurd rfl h
 | cons r l ih=>
   rw[rT,Qq,PU];by_cases e:cv r.2.2 s=0
   . rw[bN,e,Int.zero_add] at h;exact .inr (ih h)
   . exact .inl (FF e)
theorem wq {out:List Ch} (h:SumIs (bN l) out):out.length<=bH l:=by
 rw[<-y3,<-eq (f:=fun x:Ch=>x.1)];refine fE ?_ fun s hs=>?_
 . rw[List.Nodup,List.pairwise_map];refine h.1.imp fun {a b} hab e=>?_
   rw[e,cP] at hab;cases hab
 . obtain⟨x,hx,rfl⟩:=Qi.1 hs;refine FG ?_;rw[<-h.2.2,fb h.1 hx];exact h.2.1 x hx
def jK (r:eD):eD:=(r.2.2.isEmpty,4,r.2.2)
theorem rU (l:List eD):bN (l.map jK)=bN l:=by
 funext s
 induction l with
 |nil=>rfl
 |cons r l ih=>rw[QU,bN,bN,ih];rfl
theorem rV (l:List eD):bY (l.map jK)=bY l:=by
 induction l with
 |nil=>rfl
 |cons r l ih=>rw[QU,bY,bY,ih];rfl
theorem wr (h:∀r∈l,r.2.2.all jJ=true):∀r∈l.map jK,r.2.2.all jJ=true:=fun r hr=>by obtain⟨q,hq,rfl⟩:=Qi.1 hr;exact h q hq
theorem wt (l:List eD):l.length<=bY l:=by rw[gO];omega
theorem CV {nl:Bool} {z:Nat} (h:nj (nl,z,l)):nj ((l.map jK).isEmpty,1,l.map jK):=by refine⟨fun _=>rfl,by rw[eq];exact h.2.1,fun r hr=>?_⟩;obtain⟨q,hq,rfl⟩:=Qi.1 hr;exact⟨fun _=>rfl,(h.2.2 q hq).2⟩
def bv:List V->Option V
 |[]=>some (.x (.bool true))
 |_=>none
noncomputable def uU (q:Cq):Option V:=if nj q then some (.x (.bool true)) else none
def iA:List (FuncId×(List V->HH->Tr)):=[(8,yX),(9,yX)]
def rW:List (FuncId×(List V->HH->Tr)):=[(8,yX)]
theorem y4:cV (bU [] [] [] (fun _=>false) (fun _=>false)) 5 (fun us _ T=>us=[]∧∀H',T (.x (.bool true)) H'):=by
 refine dS (F:={F:=so rW,D:=fun _=>false}) (n:=23) (k:=0) (aP [] [] [] _ _ trivial trivial trivial) (by kernel_rfl) (eO (l:=rW) ⟨mI,trivial⟩) (fun t s C e=>by cases e) Try.func5 rfl (fun a w=>Try.call5 a w) Try.ntmps5 (by decide) (by decide) (by kernel_rfl) ?_;rintro us H T ⟨rfl,hT⟩ hdat;clear hdat;refine⟨rfl,?_⟩;simp +decide (maxDischargeDepth:=200) only[go_sem,Nat.reduceBEq,rW];refine⟨(false,1,[(false,4,[((0,0,0),2)]),(false,4,[((0,0,0),3)])]),rfl,⟨fun _=>rfl,by decide,fun r hr=>?_⟩,⟨by decide,by decide⟩,fun out nl z hs hn hz=>?_⟩
 . rcases PY.1 hr with rfl|hr
   . exact⟨fun _=>rfl,by decide⟩
   . rw[PQ.1 hr];exact⟨fun _=>rfl,by decide⟩
 have h5:SumIs (bN [(false,4,[((0,0,0),2)]),(false,4,[((0,0,0),3)])]) [((0,0,0),5)]:=by
  refine⟨List.pairwise_singleton _ _,fun x hx=>by rw[PQ.1 hx];decide,fun s=>?_⟩;simp only[bn,bN,cv];by_cases e:((0,0,0):aK)=s
  . simp[e]
  . simp[e]
 obtain rfl:=hs.uniq h5;obtain rfl:nl=false:=by cases nl with|false=>rfl|true=>cases hn rfl
 obtain rfl:z=4:=hz (by simp);simp +decide (maxDischargeDepth:=200) only[go_sem,Nat.reduceBEq,rW];refine⟨(true,0,[]),rfl,⟨fun h=>absurd rfl h,by decide,fun r hr=>by cases hr⟩,⟨by decide,fun r hr=>by cases hr⟩,fun out nl z hs hn hz=>?_⟩;obtain rfl:=hs.uniq (b:=[]) ⟨List.Pairwise.nil,(fun x hx=>by cases hx),fun s=>rfl⟩;have q1:cD ((0,0,0),5)= .agg [.x (.int .i64 0),.x (.int .i64 0),.x (.int .i64 0),.x (.int .i64 5)]:=rfl;simp +decide (maxDischargeDepth:=200) only[go_sem,Nat.reduceBEq,rW,q1,Sx,Qk,P3,Int.toNat_zero,Q4,Qn,show((1:Nat):Int)=1 from rfl];exact hT _
theorem kP:ij 5 bv:=by
 refine mc y4 ?_;intro us r hF;unfold bv at hF;split at hF
 case h_2=>cases hF
 cases hF;exact⟨rfl,fun _=>rfl⟩
def Ia (us:List V) (_H:HH) (T:V->HH->Prop):Prop:=∃q,us=eE q∧nj q∧∀H',T (.x (.bool true)) H'
theorem y5:cV (bU [(5,bv),(6,FE eE gi),(7,FE fV nX)] [] [] (fun _=>false) (fun _=>false)) 3 Ia:=by
 refine dS (F:={F:=so iA,D:=fun _=>false}) (n:=71) (k:=1) (aP [(5,bv),(6,FE eE gi),(7,FE fV nX)] [] [] _ _ ⟨kP,nW,rK,trivial⟩ trivial trivial) (by kernel_rfl) (eO (l:=iA) ⟨mI,CO,trivial⟩) (fun t s C e=>by cases e) Try.func3 rfl (fun a w=>Try.call3 a w) Try.ntmps3 (by decide) (by decide) (by kernel_rfl) ?_;rintro us H T ⟨⟨nl,z,l⟩,rfl,hok,hT⟩ hdat;clear hdat;refine⟨rfl,?_⟩;simp only[eE,yI];have ef:(FE eE gi) [.sl nl z (l.map eQ) none]=some (.x (.bool (jv l))):=(bA mu gi (nl,z,l)).trans (PO hok);cases hfw:jv l with
 |false=>rw[hfw] at ef;simp +decide (maxDischargeDepth:=200) only[go_sem,Nat.reduceBEq,iA,bv,ef];exact hT _
 |true=>
 rw[hfw] at ef;unfold jv at hfw;rw[PG] at hfw;have hc1:bY l<=100:=QA hfw.1;have hc2:∀r∈l,r.2.2.all jJ=true:=PJ.1 hfw.2;have hll:=wt l;have hlc:=gO l;have hz:l≠[]->z=1:=hok.1;simp +decide (maxDischargeDepth:=200) only[go_sem,Nat.reduceBEq,iA,bv,ef];refine jX 4 1 99 (by simp only[go_sem];rfl) ?_;refine bP (X:={q:Nat×Nat//q.1<=l.length}) (fun q=>[(0,.sl nl z (l.map eQ) none),(4,.sl ((l.take q.1.1).map jK).isEmpty 1 (((l.take q.1.1).map jK).map eQ) (some q.1.2)),(5,.x (.int .i64 ((q.1.1:Nat):Int)))]) (fun _=>[]) (fun _ H'=>H'=H) (fun q=>l.length-q.1.1) ⟨(0,99),PH _⟩ (by simp +decide only[go_sem,Nat.reduceBEq,P3]<;>(repeat' first|rfl|constructor)) (by simp +decide only[go_sem,Nat.reduceBEq,P3]<;>(repeat' first|rfl|constructor)) rfl ?_;rintro⟨⟨i,tok⟩,hi⟩ H1 rfl;simp only at hi⊢;by_cases hil:i<l.length
 case pos=>
  obtain rfl:z=1:=hz (fun e=>by rw[e] at hil;cases hil);have d0:decide ((i:Int)<(l.length:Int))=true:=PD (by omega);have p0:(0:Int)<=(i:Int):=by omega
  have p1:(i:Int)<(l.length:Int):=by omega
  have cu:=bh (i:=i) (by omega);have hr:l[i]?=some l[i]:=Io hil;generalize l[i]=r at hr;have hrm:=PM hr;have hrc:=hok.2.2 r hrm;have hcr:=ju hrm;obtain⟨nr,zr,R⟩:=r;have hcr:1+R.length<=bY l:=hcr;have q1:(l.map eQ)[((i:Int)).toNat]?=some (.sl nr zr (R.map cD) none):=by rw[io,PF,hr];rfl
  have et:(FE fV nX) [.sl nr zr (R.map cD) none]=some (.sl R.isEmpty 4 (R.map cD) none):=(bA mt nX (nr,zr,R)).trans (PO ⟨hrc,show R.length<=1000000 by omega⟩);have hti:(l.take i).length=i:=by rw[P8];omega
  have htk:=br hr;have e2:((l.take i).map jK).map eQ++[.sl R.isEmpty 4 (R.map cD) none]=((l.take (i+1)).map jK).map eQ:=by rw[htk,Qj,Qj];rfl
  have iso:((l.take (i+1)).map jK).isEmpty=false:=by rw[htk,Qj];exact eN _ _
  have g1:∀st d tok nl t',fq (bU [(5,bv),(6,FE eE gi),(7,FE fV nX)] [] [] (fun _=>false) (fun _=>false)) st (some d) 26 (.sl ((l.take i).map jK).isEmpty 1 (((l.take i).map jK).map eQ) (some tok)) (.sl nl 1 [.sl R.isEmpty 4 (R.map cD) none] t')=some ⟨aw (strip tok (strip d st.t)) d (.sl false 1 (((l.take (i+1)).map jK).map eQ) (some d)),az (bU [(5,bv),(6,FE eE gi),(7,FE fV nX)] [] [] (fun _=>false) (fun _=>false)) tok (az (bU [(5,bv),(6,FE eE gi),(7,FE fV nX)] [] [] (fun _=>false) (fun _=>false)) d st.b)⟩:=fun st d tok nl t'=>by have:=gZ (E:=(bU [(5,bv),(6,FE eE gi),(7,FE fV nX)] [] [] (fun _=>false) (fun _=>false))) (el:=26) (n:=1) GD GE GF (by decide) rfl (es:=((l.take i).map jK).map eQ) (v:= .sl R.isEmpty 4 (R.map cD) none) (by rfl) (by rw[eq,eq];omega) (by rw[eq,eq];omega) st d tok nl t';rw[List.isEmpty_map] at this;rw[this,e2]
  simp +decide (maxDischargeDepth:=200) only[go_sem,Nat.reduceBEq,iA,eq,d0,p0,p1,q1,et,g1,cu];refine⟨⟨(i+1,31),hil⟩,⟨?_,?_,rfl⟩,by simp only;omega⟩
  . simp +decide (maxDischargeDepth:=200) only[go_sem,Nat.reduceBEq,iso]
  . simp +decide (maxDischargeDepth:=200) only[go_sem,Nat.reduceBEq]
 have ei:i=l.length:=by omega
 subst ei;have d0:decide ((l.length:Int)<(l.length:Int))=false:=PC (by omega);rw[QL];simp +decide (maxDischargeDepth:=200) only[go_sem,Nat.reduceBEq,iA,eq,d0];refine⟨((l.map jK).isEmpty,1,l.map jK),rfl,CV hok,⟨by rw[rV];exact hc1,wr hc2⟩,fun out n1 z1 hs hn1 hz1=>?_⟩;simp only[rU] at hs;simp +decide (maxDischargeDepth:=200) only[go_sem,Nat.reduceBEq,iA];refine⟨(nl,z,l),rfl,hok,⟨hc1,hc2⟩,fun out' n2 z2 hs' hn2 hz2=>?_⟩;obtain rfl:=hs.uniq hs';have hol:=wq hs;have dl:decide ((out.length:Int)=(out.length:Int))=true:=PD rfl;simp +decide (maxDischargeDepth:=200) only[go_sem,Nat.reduceBEq,iA,eq,dl];refine bP (X:={k:Nat//k<=out.length}) (fun k=>[(6,.sl n1 z1 (out.map cD) none),(7,.sl n2 z2 (out.map cD) none),(8,.x (.int .i64 ((k.1:Nat):Int)))]) (fun _=>[]) (fun _ _=>True) (fun k=>out.length-k.1) ⟨0,PH _⟩ (by simp +decide only[go_sem,Nat.reduceBEq,P3]<;>(repeat' first|rfl|constructor)) (by simp +decide only[go_sem,Nat.reduceBEq,P3]<;>(repeat' first|rfl|constructor)) trivial ?_;rintro⟨k,hk⟩ H2-;simp only at hk⊢;by_cases hkl:k<out.length
 case neg=>have d1:decide ((k:Int)<(out.length:Int))=false:=PC (by omega);simp +decide (maxDischargeDepth:=200) only[go_sem,Nat.reduceBEq,iA,eq,d1];exact hT _
 obtain rfl:z1=4:=hz1 (fun e=>by rw[e] at hkl;cases hkl);obtain rfl:z2=4:=hz2 (fun e=>by rw[e] at hkl;cases hkl);have d1:decide ((k:Int)<(out.length:Int))=true:=PD (by omega);have k0:(0:Int)<=(k:Int):=by omega
 have k1:(k:Int)<(out.length:Int):=by omega
 have ck:=bh (i:=k) (by omega);have hx:out[k]?=some out[k]:=Io hkl;generalize out[k]=x at hx;have q2:(out.map cD)[((k:Int)).toNat]?=some (.agg [.x (.int .i64 x.1.1),.x (.int .i64 x.1.2.1),.x (.int .i64 x.1.2.2),.x (.int .i64 x.2)]):=by rw[io,PF,hx];rfl
 have hq:cW x.1 x.1=true:=gH.2 rfl;rw[cW] at hq;have dn:decide (x.2=x.2)=true:=PD rfl;simp +decide (maxDischargeDepth:=200) only[go_sem,Nat.reduceBEq,iA,eq,d1,k0,k1,q2,ca,hq,dn,ck];exact⟨⟨k+1,hkl⟩,⟨by simp +decide (maxDischargeDepth:=200) only[go_sem,Nat.reduceBEq],by simp +decide (maxDischargeDepth:=200) only[go_sem,Nat.reduceBEq],trivial⟩,by simp only;omega⟩
theorem rX:ij 3 (FE eE uU):=by refine mc y5 ?_;intro us r hF;obtain⟨q,rfl,hG⟩:=aZ hF;unfold uU at hG;obtain⟨hok,hG⟩:=aI hG;cases hG;exact⟨q,rfl,hok,fun _=>rfl⟩
end Go.Proofs.Ytldnpcolhdnkdaa
