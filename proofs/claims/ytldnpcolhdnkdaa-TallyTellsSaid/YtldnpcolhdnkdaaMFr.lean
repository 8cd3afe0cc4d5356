/- Fronts, plainly: counts by stamp, which are least; rows of changes that stand in order. No program is named here. -/
import Derived.Test.YtldnpcolhdnkdaaMSt
import Derived.Test.YtldnpcolhdnkdaaMHy
import Derived.Test.YtldnpcolhdnkdaaMPO
namespace Go.Proofs.Ytldnpcolhdnkdaa
set_option linter.unusedSimpArgs false
set_option maxHeartbeats 16000000
set_option maxRecDepth 100000
open Go Go.RowKit
attribute [go_sem] Try.results6 Try.results7 Try.results30
abbrev aK:=Int×Int×Int
abbrev Ch:=aK×Int
def aJ (s:aK):V:= .agg [.x (.int .i64 s.1),.x (.int .i64 s.2.1),.x (.int .i64 s.2.2)]
variable {s t:aK}
theorem rI (h:aJ s=aJ t):s=t:=by obtain⟨a,b,c⟩:=s;obtain⟨a',b',c'⟩:=t;simp only[aJ,V.agg.injEq,QN,V.x.injEq,Value.int.injEq,RU,RE] at h;obtain⟨rfl,rfl,rfl⟩:=h;rfl
def ac (s t:aK):Bool:=dm s.1 s.2.1 s.2.2 t.1 t.2.1 t.2.2
def a7 (s t:aK):Bool:=iz s.1 s.2.1 s.2.2 t.1 t.2.1 t.2.2
def cW (s t:aK):Bool:=KI s.1 s.2.1 s.2.2 t.1 t.2.1 t.2.2
theorem gH:cW s t=true↔s=t:=by obtain⟨a,b,c⟩:=s;obtain⟨a',b',c'⟩:=t;rw[cW,E3,Prod.mk.injEq,Prod.mk.injEq]
theorem vY:cW s t=false↔s≠t:=by rw[<-Bool.not_eq_true,gH]
theorem cP (s:aK):ac s s=false:=xT ..
variable {u:aK}
theorem jr (h:ac s t=true) (k:ac t u=true):ac s u=true:=by simp only[ac,fD] at*;omega
theorem rJ (h:ac s t=true):ac t s=false:=by simp only[ac,fD,qH] at*;omega
theorem g4 (h:ac s t=false) (k:s≠t):ac t s=true:=by obtain⟨a,b,c⟩:=s;obtain⟨a',b',c'⟩:=t;simp only[ac,fD,qH,ne_eq,Prod.mk.injEq] at*;omega
theorem uI (s:aK):a7 s s=true:=by simp only[a7,jS];omega
theorem Cl (h:a7 s t=true) (k:a7 t u=true):a7 s u=true:=by simp only[a7,jS] at*;omega
abbrev Cn:=aK->Int
def js (c:Cn) (s:aK) (n:Int):Cn:=fun t=>if t=s then c t+n else c t
def LeastIs (c:Cn) (l:List aK):Prop:=l.Pairwise (fun a b=>ac a b=true)∧∀s,s∈l↔0<c s∧∀t,t≠s->0<c t->a7 t s=false
theorem mq:∀{l l':List aK},l.Pairwise (fun a b=>ac a b=true)->l'.Pairwise (fun a b=>ac a b=true)->(∀s,s∈l↔s∈l')->l=l'
 |[],[],_,_,_=>rfl
 |[],b::l',_,_,h=>absurd ((h b).2 (PZ ..)) (by simp)
 |a::l,[],_,_,h=>absurd ((h a).1 (PZ ..)) (by simp)
 | a ::l,b::l',h1,h2,h=>by
   rw [Q6] at h1 h2;have e:a=b:=by
    rcases PY.1 ((h a).1 (PZ ..)) with e|ha
    . exact e
    . rcases PY.1 ((h b).2 (PZ ..)) with e|hb
      . exact e.symm
      . have:=rJ (h2.1 a ha);rw[h1.1 b hb] at this;cases this
   subst e;refine RB (a:: ·) (mq h1.2 h2.2 fun s=>?_);have hn:∀{l:List aK},(∀t∈l,ac a t=true)->a∉l:=fun hh hm=>by have:=hh a hm;rw[cP] at this;cases this
   have:=h s;simp only[PY] at this;constructor
   . intro hs;rcases this.1 (.inr hs) with e|h
     . subst e;exact absurd hs (hn h1.1)
     . exact h
   . intro hs;rcases this.2 (.inr hs) with e|h
     . subst e;exact absurd hs (hn h2.1)
     . exact h
variable {c:Cn}
theorem LeastIs.uniq {l l':List aK} (h:LeastIs c l) (h':LeastIs c l'):l=l':=mq h.1 h'.1 fun s=>(h.2 s).trans (h'.2 s).symm
def d7 (x:Ch):List Value:=[.int .i64 x.1.1,.int .i64 x.1.2.1,.int .i64 x.1.2.2,.int .i64 x.2]
def aF (L:List Ch):List Value:=L.flatMap d7
def eP (L:List Ch):Prop:=L.Pairwise fun x y=>ac x.1 y.1=true
def bn:List Ch->Cn
 |[],_=>0
 |x::L,s=>if x.1=s then x.2 else bn L s
theorem bG (L:List Ch):(aF L).length=L.length*4:=by
 induction L with
 |nil=>rfl
 |cons x L ih=>simp only[aF,Qq,PP,P5] at ih⊢;rw[ih];simp only[d7,P5,Qk];omega
theorem cO (A B:List Ch):aF (A++B)=aF A++aF B:=List.flatMap_append ..
theorem fI (L:List Ch) (i:Nat):(aF L).take (i*4)=aF (L.take i):=by
 by_cases h:i<=L.length
 . conv=>lhs;rw[<-Qv i L,cO]
   rw[Qy (by rw[bG,P8];omega)];exact Qb (by rw[bG,P8];omega)
 . rw[Qb (by rw[bG];omega),Qb (by omega)]
theorem eK (L:List Ch) (i:Nat):(aF L).drop (i*4)=aF (L.drop i):=by
 by_cases h:i<=L.length
 . conv=>lhs;rw[<-Qv i L,cO]
   have hl:(aF (L.take i)).length=i*4:=by rw[bG,P8];omega
   rw[List.drop_append_of_le_length (by omega),Rt (by omega)];rfl
 . rw[Rt (by rw[bG];omega),Rt (by omega)];rfl
variable {L:List Ch}
theorem vZ {i:Nat} {x:Ch} (h:L[i]?=some x):((aF L).drop (i*4)).take 4=d7 x:=by rw[eK];obtain⟨hl,rfl⟩:=PE.1 h;rw[R7 hl];simp only[aF,Qq,d7,QM,QX,Sb,RI]
theorem cC (L:List Ch):∀u∈aF L,u.oneCell'=true:=fun u hu=>by obtain⟨x,_,hx⟩:=List.mem_flatMap.1 hu;simp only[d7,PY,R9,or_false] at hx;rcases hx with rfl|rfl|rfl|rfl<;>rfl
theorem gI (h:∀x∈L,x.1≠s):bn L s=0:=by
 induction L with
 |nil=>rfl
 |cons x L ih=>rw[bn,PS (h x (PZ ..)),ih fun y hy=>h y (P4 _ hy)]
theorem v6 (A B:List Ch) (s:aK):bn (A++B) s=if (∃x∈A,x.1=s) then bn A s else bn B s:=by
 induction A with
 |nil=>simp
 | cons x A ih=>
   by_cases h:x.1=s
   . have hx:∃y∈x::A,y.1=s:=⟨x,PZ ..,h⟩;rw[PO hx,QM,bn,bn,PO h,PO h]
   . rw[QM,bn,PS h,ih];by_cases hA:∃y∈A,y.1=s
     . obtain⟨y,hy,e⟩:=hA;rw[PO ⟨y,hy,e⟩,PO ⟨y,P4 _ hy,e⟩,bn,PS h]
     . rw[PS hA,PS];rintro⟨y,hy,e⟩;rcases PY.1 hy with rfl|hy
       . exact h e
       . exact hA ⟨y,hy,e⟩
theorem fb:∀{L:List Ch},eP L->∀{x:Ch},x∈L->bn L x.1=x.2
 | y ::L,h,x,hx=>by
   rw[eP,Q6] at h;rcases PY.1 hx with rfl|hx
   . rw[bn,PO rfl]
   . have hne:y.1≠x.1:=fun e=>by have:=h.1 x hx;rw[e,cP] at this;cases this
     rw[bn,PS hne];exact fb h.2 hx
theorem v7 {A B:List Ch} {n k:Int} (hS:eP (A++B)) (hA:∀x∈A,ac x.1 s=true) (hB:∀x∈B,ac s x.1=true) (hk:k=n):
 eP (A++(if n=0 then [] else [(s,n)])++B)∧(∀t,bn (A++(if n=0 then [] else [(s,n)])++B) t=js (fun t=>if t=s then 0 else bn (A++B) t) s k t):=by
 subst hk;have hnA: ¬∃x∈A,x.1=s:=fun⟨x,hx,e⟩=>by have:=hA x hx;rw[e,cP] at this;cases this
 have hnB:∀x∈B,x.1≠s:=fun x hx e=>by have:=hB x hx;rw[e,cP] at this;cases this
 rw[eP,Ry] at hS;obtain⟨h1,h2,h3⟩:=hS;constructor
 . rw[eP,QK,Ry];by_cases h0:k=0
   . rw[PO h0];exact⟨h1,h2,h3⟩
   . rw[PS h0];refine⟨h1,Q6.2 ⟨hB,h2⟩,fun x hx y hy=>?_⟩;rcases PY.1 hy with rfl|hy
     . exact hA x hx
     . exact h3 x hx y hy
 . intro t;have e1:=v6 A ((if k=0 then [] else [(s,k)])++B) t;have e2:=v6 A B t;rw[QK,e1,js];by_cases ht:t=s
   . subst ht;rw[PO rfl,PO rfl,PS hnA];by_cases h0:k=0
     . rw[PO h0,QX,gI hnB,h0];rfl
     . rw[PS h0,QM,QX,bn,PO rfl];omega
   . rw[PS ht,PS ht,e2];by_cases hx:∃x∈A,x.1=t
     . rw[PO hx,PO hx]
     . rw[PS hx,PS hx];by_cases h0:k=0
       . rw[PO h0];rfl
       . rw[PS h0,QM,QX,bn,PS (QT ht)]
theorem mr:ij 30 bm:=by
 refine cn (E:=bf []) (k:=2) (di _ trivial) (by kernel_rfl) Try.func30 rfl (fun a w=>Try.call30 a w) Try.ntmps30 (by kernel_rfl) (by decide) (by decide) ?_;intro us r hF hdat;unfold bm at hF;split at hF
 case h_2=>cases hF
 rename_i a b c a' b' c';cases hF;refine⟨rfl,?_⟩;by_cases h1:a=a'
 . have d1:=PD h1;by_cases h2:b=b'
   . have d2:=PD h2;have e:dm a b c a' b' c'=decide (c<c'):=by unfold dm;rw[PO h1,PO h2]
     simp +decide (maxDischargeDepth:=200) only[go_sem,d1,d2,e]
   . have d2:=PC h2;have e:dm a b c a' b' c'=decide (b<b'):=by unfold dm;rw[PO h1,PS h2]
     simp +decide (maxDischargeDepth:=200) only[go_sem,d1,d2,e]
 . have d1:=PC h1;have e:dm a b c a' b' c'=decide (a<a'):=by unfold dm;rw[PS h1]
   simp +decide (maxDischargeDepth:=200) only[go_sem,d1,e]
abbrev ar (p:Nat):Value:= .pointer (some ⟨p,0,none⟩)
def OL (c:Cn) (k:Nat):Prop:=∀s,-((k:Int)*1099511627776)<=c s∧c s<=(k:Int)*1099511627776
def Cm (c:Cn):Prop:=∀s,-1152921504606846976<=c s∧c s<=1152921504606846976
abbrev FrT:=HH->Nat->Cn->Nat->List Nat->Prop
def Fp (Fr:FrT) (us:List V) (H:HH) (T:V->HH->Prop):Prop:=∃p s n c k F,us=[.x (ar p),aJ s,.x (.int .i64 n)]∧Fr H p c k F∧k<100∧Cm c∧(-1152921504606846976<=n∧n<=1152921504606846976)∧
 ∀H' F',Fr H' p (js c s n) (k+1) F'->(∀y,y∉F->H y≠none->H' y=H y)->(∀y∈F',y∈F∨H y=none)->T (.tup []) H'
def Co (Fr:FrT) (us:List V) (H:HH) (T:V->HH->Prop):Prop:=∃p s c k F,us=[.x (ar p),aJ s]∧Fr H p c k F∧T (.x (.int .i64 (c s))) H
def v8 (Fr:FrT) (us:List V) (H:HH) (T:V->HH->Prop):Prop:=∃p s c k F,us=[.x (ar p),aJ s]∧Fr H p c k F∧∀b:Bool,(b=true↔∀t,0<c t->a7 t s=false)->T (.x (.bool b)) H
def Cp (Fr:FrT) (us:List V) (H:HH) (T:V->HH->Prop):Prop:=∃p c k F,us=[.x (ar p)]∧Fr H p c k F∧k<=100∧∀l nl z,LeastIs c l->(nl=true->l=[])->(l≠[]->z=3)->l.length<=k->T (.sl nl z (l.map aJ) none) H
def RFr:FrT:=fun H p c k F=>∃(L:List Ch) (ad:Option Addr) (cap:Nat),H p=some (rowO [.slice ad L.length cap] 53)∧RowV H (.slice ad L.length cap) 4 (aF L)∧blkOf (.slice ad L.length cap)≠some p∧eP L∧(∀x∈L,x.2≠0)∧(∀s,c s=bn L s)∧(L.length<=k∧k<=100)∧F=p::(blkOf (.slice ad L.length cap)).toList
theorem yH {H:HH} {ad:Option Addr} {cap:Nat} (h:RowV H (.slice ad L.length cap) 4 (aF L)) (hne:L≠[]):∃g off C ty,ad=some ⟨g,off,none⟩∧au H g=some (C,ty)∧off+cap*4<=C.length∧L.length<=cap∧(C.drop off).take (L.length*4)=aF L:=by
 rcases h with⟨h,_⟩|⟨g,off,n,cp,cur,ty,e,h0,h1,h2,h3⟩
 . have:=bG L;rw[h] at this;have:L.length=0:=by simp only[Qk] at this;omega
   exact absurd (Qu.1 this) hne
 . cases e;exact⟨g,off,cur.toList,ty,rfl,ak (by simpa[rowO] using h0),by simpa using h2,h1,h3⟩
variable {C:List Value} {off:Nat}
theorem HQ {i:Nat} {x:Ch} (h:(C.drop off).take (L.length*4)=aF L) (hx:L[i]?=some x):(C.drop (off+i*4)).take 4=d7 x:=by have hl:=(PE.1 hx).1;rw[<-vZ hx,<-h,<-List.drop_drop];generalize C.drop off=D;rw[List.drop_take,List.take_take,RN (by omega)]
theorem g5 {i:Nat} {x:Ch} (h:(C.drop off).take (L.length*4)=aF L) (hx:L[i]?=some x):(C.map V.x)[off+i*4+3]?=some (.x (.int .i64 x.2))∧((C.map V.x).drop (off+i*4)).take 3=[.x (.int .i64 x.1.1),.x (.int .i64 x.1.2.1),.x (.int .i64 x.1.2.2)]∧off+i*4+4<=C.length:=by
 have e:=HQ h hx;have hlen:off+i*4+4<=C.length:=by have:=RB List.length e;simp only[P8,Q1,d7,P5,Qk] at this;omega
 refine⟨?_,?_,hlen⟩
 . have:=RB (fun l=>l[3]?) e;simp only[P9,Qm,d7] at this;rw[PF];rw[PO (by decide)] at this;rw[this];rfl
 . rw[<-List.map_drop,<-List.map_take,show(3:Nat)=min 3 4 from rfl,<-List.take_take,e];rfl
theorem ka (h:bn L s≠0):∃x∈L,x.1=s:=by refine QH fun hn=>h (gI fun x hx e=>hn ⟨x,hx,e⟩)
abbrev SR:=Bool×Nat×List aK
def OA (q:SR):Prop:=(q.2.2≠[]->q.2.1=3)∧q.2.2.length<=1000
noncomputable instance (q:SR):Decidable (OA q):=Classical.propDecidable _
structure FrOK (Fr:FrT) (t:TypeId) (z:List Value):Prop where
 keep:∀{H H':HH} {p:Nat} {c:Cn} {k:Nat} {F:List Nat},Fr H p c k F->(∀y∈F,H' y=H y)->Fr H' p c k F
 on:∀{H:HH} {p:Nat} {c:Cn} {k:Nat} {F:List Nat},Fr H p c k F->∀y∈F,H y≠none
 zero:∀{H:HH} {p:Nat},H p=some (rowO z t)->Fr H p (fun _=>0) 0 [p]
theorem RFr.ok:FrOK RFr 53 [.slice none 0 0]:=by
 refine⟨?_,?_,?_⟩
 . rintro H H' p c k F ⟨L,ad,cap,h1,h2,h3,h4,h5,h6,h7,rfl⟩ hk;exact⟨L,ad,cap,(hk p (PZ ..)).trans h1,h2.to (fun g hg=>hk g (P4 _ (by rw[hg];simp))),h3,h4,h5,h6,h7,rfl⟩
 . rintro H p c k F ⟨L,ad,cap,h1,h2,h3,h4,h5,h6,h7,rfl⟩ y hy;rcases PY.1 hy with rfl|hy
   . rw[h1];simp
   . obtain⟨cur,ty,e⟩:=h2.blk (g:=y) (by simpa using hy);rw[e];simp
 . intro H p h;exact⟨[],none,0,h,.inl ⟨rfl,rfl⟩,(by simp[blkOf]),List.Pairwise.nil,(fun x hx=>by cases hx),fun s=>rfl,⟨PB _,by decide⟩,rfl⟩
open Classical in
noncomputable def eh (c:Cn) (s:aK):Bool:=decide (∀t,0<c t->a7 t s=false)
open Classical in
theorem jt {b:Bool} (h:b=true↔∀t,0<c t->a7 t s=false):b=eh c s:=by
 unfold eh;by_cases hp:∀t,0<c t->a7 t s=false
 . rw[PD hp];exact h.2 hp
 . rw[PC hp];cases b with
   |false=>rfl
   |true=>exact absurd (h.1 rfl) hp
def cD (x:Ch):V:= .agg [.x (.int .i64 x.1.1),.x (.int .i64 x.1.2.1),.x (.int .i64 x.1.2.2),.x (.int .i64 x.2)]
theorem wc {x y:Ch} (h:cD x=cD y):x=y:=by obtain⟨⟨a,b,c⟩,n⟩:=x;obtain⟨⟨a',b',c'⟩,n'⟩:=y;simp only[cD,V.agg.injEq,QN,V.x.injEq,Value.int.injEq,RU,RE] at h;obtain⟨rfl,rfl,rfl,rfl⟩:=h;rfl
abbrev eD:=Bool×Nat×List Ch
abbrev Cq:=Bool×Nat×List eD
def eQ (q:eD):V:= .sl q.1 q.2.1 (q.2.2.map cD) none
def yI (q:Cq):V:= .sl q.1 q.2.1 (q.2.2.map eQ) none
theorem wd {p q:eD} (e:eQ p=eQ q):p=q:=by
 obtain⟨a,b,c⟩:=p;obtain⟨a',b',c'⟩:=q;injection e with e1 e2 e3
 cases e1;cases e2;have h:c=c':=(List.map_inj_right (fun _ _=>wc)).1 e3;rw[h]
theorem we {p q:Cq} (e:yI p=yI q):p=q:=by
 obtain⟨a,b,c⟩:=p;obtain⟨a',b',c'⟩:=q;injection e with e1 e2 e3
 cases e1;cases e2;have h:c=c':=(List.map_inj_right (fun _ _=>wd)).1 e3;rw[h]
def fV (q:eD):List V:=[eQ q]
def eE (q:Cq):List V:=[yI q]
theorem mt (p q:eD) (e:fV p=fV q):p=q:=wd (Sv e).1
theorem mu (p q:Cq) (e:eE p=eE q):p=q:=we (Sv e).1
def yJ (q:eD):Prop:=(q.2.2≠[]->q.2.1=4)∧q.2.2.length<=140737488355328
def nj (q:Cq):Prop:=(q.2.2≠[]->q.2.1=1)∧q.2.2.length<=140737488355328∧∀r∈q.2.2,yJ r
noncomputable instance (q:eD):Decidable (yJ q):=Classical.propDecidable _
noncomputable instance (q:Cq):Decidable (nj q):=Classical.propDecidable _
def jJ (x:Ch):Bool:= !decide (1099511627776<x.2)&& !decide (x.2< -1099511627776)
def bY:List eD->Nat
 |[]=>0
 |r::l=>1+r.2.2.length+bY l
theorem yK (l:List eD) (r:eD):bY (l++[r])=bY l+1+r.2.2.length:=by
 induction l with
 |nil=>simp[bY]
 |cons a l ih=>simp only[QM,bY,ih];omega
theorem yL (l:List eD) (i:Nat):bY (l.take i)<=bY l:=by
 induction l generalizing i with
 |nil=>simp[bY]
 | cons a l ih=>cases i with
   |zero=>simp[bY]
   |succ i=>have:=ih i;simp only[Sb,bY];omega
variable {l:List eD} {r:eD}
theorem ju (h:r∈l):1+r.2.2.length<=bY l:=by
 induction l with
 |nil=>cases h
 | cons a l ih=>
   rcases PY.1 h with rfl|h
   . simp only[bY];omega
   . have:=ih h;simp only[bY];omega
def jv (l:List eD):Bool:=decide (bY l<=100)&&l.all fun r=>r.2.2.all jJ
theorem wf {x:Ch} (hr:r∈l) (hx:x∈r.2.2) (hb:jJ x=false):jv l=false:=by
 cases e:jv l with
 |false=>rfl
 |true=>unfold jv at e;rw[PG] at e;have:=PJ.1 (PJ.1 e.2 r hr) x hx;rw[hb] at this;cases this
noncomputable def gi (q:Cq):Option V:=if nj q then some (.x (.bool (jv q.2.2))) else none
theorem nW:ij 6 (FE eE gi):=by
 refine cn (E:=bf []) (k:=1) (di _ trivial) (by kernel_rfl) Try.func6 rfl (fun a w=>Try.call6 a w) Try.ntmps6 (by kernel_rfl) (by decide) (by decide) ?_;intro us r hF hdat;obtain⟨⟨nl,z,l⟩,hus,hG⟩:=aZ hF;clear hF;subst hus;have hF:=hG;clear hG;unfold gi at hF;obtain⟨⟨hz,hl,hrs⟩,hF⟩:=aI hF;cases hF;refine⟨rfl,?_⟩;simp only[eE,yI] at*;simp +decide (maxDischargeDepth:=200) only[go_sem,eq];refine cw (X:={i:Nat//i<=l.length∧∀r∈l.take i,(r.2.2.take 200).all jJ=true}) (fun i=>[(0,.sl nl z (l.map eQ) none),(3,.x (.int .i64 ((bY (l.take i.1):Nat):Int))),(4,.x (.int .i64 ((i.1:Nat):Int)))]) (fun _=>[]) (fun i=>l.length-i.1) ⟨0,PH _,fun r hr=>by cases hr⟩ (by simp +decide only[go_sem,RI,bY,P3]<;>(repeat' first|rfl|constructor)) trivial (fun⟨i,hi,hb⟩=>?_);by_cases hil:i<l.length
 case neg=>
  have c0:decide ((i:Int)<(l.length:Int))=false:=PC (by omega);have e0:l.take i=l:=Qb (by omega);rw[e0] at hb;have e:decide ((bY l:Int)<=100)=jv l:=by
   unfold jv;by_cases hc:bY l<=100
   . rw[PD hc,PD (show(bY l:Int)<=100 by omega),Ru];symm;refine PJ.2 fun r hr=>?_
     have:=hb r hr
     rwa [Qb (by have:=ju hr;omega)] at this
   . rw[PC hc,PC (show¬(bY l:Int)<=100 by omega)];rfl
  simp +decide (maxDischargeDepth:=200) only[go_sem,eq,c0,e0,e]
 have c0:decide ((i:Int)<(l.length:Int))=true:=PD (by omega);by_cases hn:bY (l.take i)<1000
 case neg=>
  have c1:decide ((bY (l.take i):Int)<1000)=false:=PC (by omega);have e:decide ((bY (l.take i):Int)<=100)=jv l:=by have:=yL l i;rw[PC (by omega)];unfold jv;rw[PC (by omega)];rfl
  simp +decide (maxDischargeDepth:=200) only[go_sem,eq,c0,c1,e]
 have c1:decide ((bY (l.take i):Int)<1000)=true:=PD (by omega);obtain rfl:z=1:=hz (fun e=>by rw[e] at hil;cases hil);have hr:l[i]?=some l[i]:=Io hil;generalize l[i]=r at hr;have hrm:=PM hr;obtain⟨nr,zr,R⟩:=r;obtain⟨hzr,hlr⟩:=hrs _ hrm;have hzr:R≠[]->zr=4:=hzr;have hlr:R.length<=140737488355328:=hlr;have p0:(0:Int)<=(i:Int):=by omega
 have cu:=bh (i:=i) (by omega);have q1:(l.map eQ)[((i:Int)).toNat]?=some (.sl nr zr (R.map cD) none):=by rw[io,PF,hr];rfl
 have w1:aq .i64 ((bY (l.take i):Int)+1)=((bY (l.take i)+1:Nat):Int):=by rw[aj (by unfold aS;omega)];omega
 have hsn:=yK (l.take i) (nr,zr,R);rw[<-br hr] at hsn;have hsn:bY (l.take (i+1))=bY (l.take i)+1+R.length:=hsn;have w2:aq .i64 (((bY (l.take i)+1:Nat):Int)+(R.length:Int))=((bY (l.take (i+1)):Nat):Int):=by rw[aj (by unfold aS;omega)];omega
 simp +decide (maxDischargeDepth:=200) only[go_sem,eq,c0,c1,p0,q1,w1,w2];refine cw (X:={k:Nat//k<=R.length∧(R.take k).all jJ=true}) (fun k=>[(0,.sl nl 1 (l.map eQ) none),(3,.x (.int .i64 ((bY (l.take (i+1)):Nat):Int))),(4,.x (.int .i64 ((i:Nat):Int))),(5,.x (.int .i64 ((k.1:Nat):Int)))]) (fun _=>[]) (fun k=>R.length-k.1) ⟨0,PH _,rfl⟩ (by simp +decide only[go_sem,P3]<;>(repeat' first|rfl|constructor)) trivial (fun⟨k,hk,hbk⟩=>?_);have fin:(R.take 200).all jJ=true->∀r∈l.take (i+1),(r.2.2.take 200).all jJ=true:=fun h r hr'=>by
  rw[br hr] at hr';rcases PU.1 hr' with h1|h1
  . exact hb r h1
  . rw[PQ.1 h1];exact h
 by_cases hkl:k<R.length
 case neg=>
  have k0:decide ((k:Int)<(R.length:Int))=false:=PC (by omega);simp +decide (maxDischargeDepth:=200) only[go_sem,eq,c0,c1,p0,q1,k0,cu]
  refine⟨⟨i+1,hil,fin (by rw[Qb (by omega)] at hbk;refine PJ.2 fun x hx=>PJ.1 hbk x (Q5 hx))⟩,?_,?_,by simp only;omega⟩
  . simp +decide only[go_sem]
  . simp +decide only[go_sem]
 have k0:decide ((k:Int)<(R.length:Int))=true:=PD (by omega);by_cases hk2:k<200
 case neg=>
  have k1:decide ((k:Int)<200)=false:=PC (by omega);simp +decide (maxDischargeDepth:=200) only[go_sem,eq,c0,c1,p0,q1,k0,k1,cu]
  refine⟨⟨i+1,hil,fin (by
   refine PJ.2 fun x hx=>PJ.1 hbk x ?_
   rw[show R.take 200=(R.take k).take 200 by rw[List.take_take,RN (by omega)]] at hx;exact Q5 hx)⟩,?_,?_,by simp only;omega⟩
  . simp +decide only[go_sem]
  . simp +decide only[go_sem]
 have k1:decide ((k:Int)<200)=true:=PD (by omega);obtain rfl:zr=4:=hzr (fun e=>by rw[e] at hkl;cases hkl);have hx:R[k]?=some R[k]:=Io hkl;generalize R[k]=x at hx;have j0:(0:Int)<=(k:Int):=by omega
 have ck:=bh (i:=k) (by omega);have q2:(R.map cD)[((k:Int)).toNat]?=some (.agg [.x (.int .i64 x.1.1),.x (.int .i64 x.1.2.1),.x (.int .i64 x.1.2.2),.x (.int .i64 x.2)]):=by rw[io,PF,hx];rfl
 by_cases hb1:1099511627776<x.2
 case pos=>have e1:=PD hb1;have e:=wf hrm (PM hx) (by simp[jJ,hb1]);simp +decide (maxDischargeDepth:=200) only[go_sem,eq,c0,c1,p0,q1,k0,k1,j0,q2,e1,e]
 have e1:=PC hb1;by_cases hb2:x.2< -1099511627776
 case pos=>have e2:=PD hb2;have e:=wf hrm (PM hx) (by simp[jJ,hb2]);simp +decide (maxDischargeDepth:=200) only[go_sem,eq,c0,c1,p0,q1,k0,k1,j0,q2,e1,e2,e]
 have e2:=PC hb2;simp +decide (maxDischargeDepth:=200) only[go_sem,eq,c0,c1,p0,q1,k0,k1,j0,q2,e1,e2,ck];refine⟨⟨k+1,hkl,by rw[br hx,List.all_append,hbk];simp[jJ,hb1,hb2]⟩,?_,?_,by simp only;omega⟩
 . simp +decide only[go_sem]
 . simp +decide only[go_sem]
noncomputable def nX (q:eD):Option V:=if yJ q∧q.2.2.length<=1000000 then some (.sl q.2.2.isEmpty 4 (q.2.2.map cD) none) else none
theorem rK:ij 7 (FE fV nX):=by
 refine cn (E:=bf []) (k:=1) (di _ trivial) (by kernel_rfl) Try.func7 rfl (fun a w=>Try.call7 a w) Try.ntmps7 (by kernel_rfl) (by decide) (by decide) ?_;intro us r hF hdat;obtain⟨⟨nl,z,l⟩,hus,hG⟩:=aZ hF;clear hF;subst hus;have hF:=hG;clear hG;unfold nX at hF;obtain⟨⟨⟨hz,_⟩,hl⟩,hF⟩:=aI hF;cases hF;refine⟨rfl,?_⟩;simp only[fV,eQ] at*;simp +decide (maxDischargeDepth:=200) only[go_sem,eq];refine Bc 3 4 24 (by simp only[go_sem];rfl) ?_;refine cw (X:={i:Nat//i<=l.length}) (fun i=>[(0,.sl nl z (l.map cD) none),(3,.sl ((l.take i.1).map cD).isEmpty 4 ((l.take i.1).map cD) (some 24)),(4,.x (.int .i64 ((i.1:Nat):Int)))]) (fun _=>[]) (fun i=>l.length-i.1) ⟨0,PH _⟩ (by simp +decide only[go_sem,RI,Sx,List.isEmpty_nil,P3]<;>(repeat' first|rfl|constructor)) trivial (fun⟨i,hi⟩=>?_);by_cases hil:i<l.length
 case neg=>have c0:decide ((i:Int)<(l.length:Int))=false:=PC (by omega);have e0:l.take i=l:=Qb (by omega);have e1:(l.map cD).isEmpty=l.isEmpty:=List.isEmpty_map;simp +decide (maxDischargeDepth:=200) only[go_sem,eq,c0,e0,e1]
 have c0:decide ((i:Int)<(l.length:Int))=true:=PD (by omega);obtain rfl:z=4:=hz (fun e=>by rw[e] at hil;cases hil);have hx:l[i]?=some l[i]:=Io hil;generalize l[i]=x at hx;have p0:(0:Int)<=(i:Int):=by omega
 have cu:=bh (i:=i) (by omega);have q1:(l.map cD)[((i:Int)).toNat]?=some (.agg [.x (.int .i64 x.1.1),.x (.int .i64 x.1.2.1),.x (.int .i64 x.1.2.2),.x (.int .i64 x.2)]):=by rw[io,PF,hx];rfl
 have hti:(l.take i).length=i:=by rw[P8];omega
 have g1:∀st d tok nl t',fq (bf []) st (some d) 34 (.sl ((l.take i).map cD).isEmpty 4 ((l.take i).map cD) (some tok)) (.sl nl 4 [.agg [.x (.int .i64 x.1.1),.x (.int .i64 x.1.2.1),.x (.int .i64 x.1.2.2),.x (.int .i64 x.2)]] t')=some ⟨aw (strip tok (strip d st.t)) d (.sl false 4 ((l.take i).map cD++[.agg [.x (.int .i64 x.1.1),.x (.int .i64 x.1.2.1),.x (.int .i64 x.1.2.2),.x (.int .i64 x.2)]]) (some d)),az (bf []) tok (az (bf []) d st.b)⟩:=fun st d tok nl t'=>gZ (E:=bf []) (el:=34) (n:=4) IV IW IX (by decide) rfl (es:=(l.take i).map cD) (v:= .agg [.x (.int .i64 x.1.1),.x (.int .i64 x.1.2.1),.x (.int .i64 x.1.2.2),.x (.int .i64 x.2)]) rfl (by rw[eq];omega) (by rw[eq];omega) st d tok nl t'
 have e2:(l.take i).map cD++[.agg [.x (.int .i64 x.1.1),.x (.int .i64 x.1.2.1),.x (.int .i64 x.1.2.2),.x (.int .i64 x.2)]]=(l.take (i+1)).map cD:=by rw[br hx,Qj];rfl
 have e3:((l.take (i+1)).map cD).isEmpty=false:=by rw[<-e2];exact eN _ _
 simp +decide (maxDischargeDepth:=200) only[go_sem,eq,c0,p0,q1,cu,g1,e2];refine⟨⟨i+1,hil⟩,?_,?_,by simp only;omega⟩
 . simp +decide only[go_sem,e3]
 . simp +decide only[go_sem]
end Go.Proofs.Ytldnpcolhdnkdaa
