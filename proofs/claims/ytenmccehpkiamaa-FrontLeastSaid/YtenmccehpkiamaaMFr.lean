/- Fronts, plainly: counts by stamp, which are least; rows of changes that stand in order. No program is named here. -/
import Derived.Test.YtenmccehpkiamaaMSt
import Derived.Test.YtenmccehpkiamaaMHy
import Derived.Test.YtenmccehpkiamaaMPO
namespace Go.Proofs.Ytenmccehpkiamaa
set_option linter.unusedSimpArgs false
set_option maxHeartbeats 32000000
set_option maxRecDepth 100000
open Go Go.RowKit
attribute [go_sem] Try.results8 Try.results10 Try.results12 Try.results14 Try.results15 Try.results16
abbrev aJ:=Int×Int×Int
abbrev Ch:=aJ×Int
def ay (s:aJ):V:= .agg [.x (.int .i64 s.1),.x (.int .i64 s.2.1),.x (.int .i64 s.2.2)]
variable {s t:aJ}
theorem kC (h:ay s=ay t):s=t:=by obtain⟨a,b,c⟩:=s;obtain⟨a',b',c'⟩:=t;simp only[ay,V.agg.injEq,Nk,V.x.injEq,Value.int.injEq,On,Oc] at h;obtain⟨rfl,rfl,rfl⟩:=h;rfl
def ac (s t:aJ):Bool:=da s.1 s.2.1 s.2.2 t.1 t.2.1 t.2.2
def al (s t:aJ):Bool:=ef s.1 s.2.1 s.2.2 t.1 t.2.1 t.2.2
def bD (s t:aJ):Bool:=Gx s.1 s.2.1 s.2.2 t.1 t.2.1 t.2.2
theorem dB:bD s t=true↔s=t:=by obtain⟨a,b,c⟩:=s;obtain⟨a',b',c'⟩:=t;rw[bD,BS,Prod.mk.injEq,Prod.mk.injEq]
theorem ib:bD s t=false↔s≠t:=by rw[<-Bool.not_eq_true,dB]
theorem cf (s:aJ):ac s s=false:=uV ..
variable {u:aJ}
theorem pq (h:ac s t=true) (k:ac t u=true):ac s u=true:=by simp only[ac,eI] at*;omega
theorem zx (h:ac s t=true):ac t s=false:=by simp only[ac,eI,oA] at*;omega
theorem l0 (h:ac s t=false) (k:s≠t):ac t s=true:=by obtain⟨a,b,c⟩:=s;obtain⟨a',b',c'⟩:=t;simp only[ac,eI,oA,ne_eq,Prod.mk.injEq] at*;omega
theorem eX (s:aJ):al s s=true:=by simp only[al,f5];omega
theorem ic (h:al s t=true) (k:al t u=true):al s u=true:=by simp only[al,f5] at*;omega
theorem zy (h:al s t=true) (k:al t s=true):s=t:=by obtain⟨a,b,c⟩:=s;obtain⟨a',b',c'⟩:=t;simp only[al,f5,Prod.mk.injEq] at*;omega
abbrev Cn:=aJ->Int
def dV (c:Cn) (s:aJ) (n:Int):Cn:=fun t=>if t=s then c t+n else c t
def LeastIs (c:Cn) (l:List aJ):Prop:=l.Pairwise (fun a b=>ac a b=true)∧∀s,s∈l↔0<c s∧∀t,t≠s->0<c t->al t s=false
theorem kD:∀{l l':List aJ},l.Pairwise (fun a b=>ac a b=true)->l'.Pairwise (fun a b=>ac a b=true)->(∀s,s∈l↔s∈l')->l=l'
 |[],[],_,_,_=>rfl
 |[],b::l',_,_,h=>absurd ((h b).2 (L9 ..)) (by simp)
 |a::l,[],_,_,h=>absurd ((h a).1 (L9 ..)) (by simp)
 | a ::l,b::l',h1,h2,h=>by
   rw [Nn] at h1 h2;have e:a=b:=by
    rcases L8.1 ((h a).1 (L9 ..)) with e|ha
    . exact e
    . rcases L8.1 ((h b).2 (L9 ..)) with e|hb
      . exact e.symm
      . have:=zx (h2.1 a ha);rw[h1.1 b hb] at this;cases this
   subst e;refine NM (a:: ·) (kD h1.2 h2.2 fun s=>?_);have hn:∀{l:List aJ},(∀t∈l,ac a t=true)->a∉l:=fun hh hm=>by have:=hh a hm;rw[cf] at this;cases this
   have:=h s;simp only[L8] at this;constructor
   . intro hs;rcases this.1 (.inr hs) with e|h
     . subst e;exact absurd hs (hn h1.1)
     . exact h
   . intro hs;rcases this.2 (.inr hs) with e|h
     . subst e;exact absurd hs (hn h2.1)
     . exact h
variable {c:Cn} {l:List aJ}
theorem LeastIs.uniq {l':List aJ} (h:LeastIs c l) (h':LeastIs c l'):l=l':=kD h.1 h'.1 fun s=>(h.2 s).trans (h'.2 s).symm
def wg (x:Ch):List Value:=[.int .i64 x.1.1,.int .i64 x.1.2.1,.int .i64 x.1.2.2,.int .i64 x.2]
def aI (L:List Ch):List Value:=L.flatMap wg
def fL (L:List Ch):Prop:=L.Pairwise fun x y=>ac x.1 y.1=true
def cm:List Ch->Cn
 |[],_=>0
 |x::L,s=>if x.1=s then x.2 else cm L s
theorem bP (L:List Ch):(aI L).length=L.length*4:=by
 induction L with
 |nil=>rfl
 |cons x L ih=>simp only[aI,MM,LY,Md] at ih⊢;rw[ih];simp only[wg,Md,MC];omega
theorem cA (A B:List Ch):aI (A++B)=aI A++aI B:=List.flatMap_append ..
theorem eK (L:List Ch) (i:Nat):(aI L).take (i*4)=aI (L.take i):=by
 by_cases h:i<=L.length
 . conv=>lhs;rw[<-MO i L,cA]
   rw[Mz (by rw[bP,Mg];omega)];exact Mk (by rw[bP,Mg];omega)
 . rw[Mk (by rw[bP];omega),Mk (by omega)]
theorem dR (L:List Ch) (i:Nat):(aI L).drop (i*4)=aI (L.drop i):=by
 by_cases h:i<=L.length
 . conv=>lhs;rw[<-MO i L,cA]
   have hl:(aI (L.take i)).length=i*4:=by rw[bP,Mg];omega
   rw[List.drop_append_of_le_length (by omega),Nq (by omega)];rfl
 . rw[Nq (by rw[bP];omega),Nq (by omega)];rfl
variable {L:List Ch}
theorem Cd {i:Nat} {x:Ch} (h:L[i]?=some x):((aI L).drop (i*4)).take 4=wg x:=by rw[dR];obtain⟨hl,rfl⟩:=LN.1 h;rw[NU hl];simp only[aI,MM,wg,Mb,Ma,List.take_succ_cons,Nz]
theorem ce (L:List Ch):∀u∈aI L,u.oneCell'=true:=fun u hu=>by obtain⟨x,_,hx⟩:=List.mem_flatMap.1 hu;simp only[wg,L8,Oh,or_false] at hx;rcases hx with rfl|rfl|rfl|rfl<;>rfl
theorem fM (h:∀x∈L,x.1≠s):cm L s=0:=by
 induction L with
 |nil=>rfl
 |cons x L ih=>rw[cm,L1 (h x (L9 ..)),ih fun y hy=>h y (L7 _ hy)]
theorem tq (A B:List Ch) (s:aJ):cm (A++B) s=if (∃x∈A,x.1=s) then cm A s else cm B s:=by
 induction A with
 |nil=>simp
 | cons x A ih=>
   by_cases h:x.1=s
   . have hx:∃y∈x::A,y.1=s:=⟨x,L9 ..,h⟩;rw[L0 hx,Mb,cm,cm,L0 h,L0 h]
   . rw[Mb,cm,L1 h,ih];by_cases hA:∃y∈A,y.1=s
     . obtain⟨y,hy,e⟩:=hA;rw[L0 ⟨y,hy,e⟩,L0 ⟨y,L7 _ hy,e⟩,cm,L1 h]
     . rw[L1 hA,L1];rintro⟨y,hy,e⟩;rcases L8.1 hy with rfl|hy
       . exact h e
       . exact hA ⟨y,hy,e⟩
theorem dK:∀{L:List Ch},fL L->∀{x:Ch},x∈L->cm L x.1=x.2
 | y ::L,h,x,hx=>by
   rw[fL,Nn] at h;rcases L8.1 hx with rfl|hx
   . rw[cm,L0 rfl]
   . have hne:y.1≠x.1:=fun e=>by have:=h.1 x hx;rw[e,cf] at this;cases this
     rw[cm,L1 hne];exact dK h.2 hx
variable {n:Int}
theorem tt {A B:List Ch} {k:Int} (hS:fL (A++B)) (hA:∀x∈A,ac x.1 s=true) (hB:∀x∈B,ac s x.1=true) (hk:k=n):
 fL (A++(if n=0 then [] else [(s,n)])++B)∧(∀t,cm (A++(if n=0 then [] else [(s,n)])++B) t=dV (fun t=>if t=s then 0 else cm (A++B) t) s k t):=by
 subst hk;have hnA: ¬∃x∈A,x.1=s:=fun⟨x,hx,e⟩=>by have:=hA x hx;rw[e,cf] at this;cases this
 have hnB:∀x∈B,x.1≠s:=fun x hx e=>by have:=hB x hx;rw[e,cf] at this;cases this
 rw[fL,Nx] at hS;obtain⟨h1,h2,h3⟩:=hS;constructor
 . rw[fL,MI,Nx];by_cases h0:k=0
   . rw[L0 h0];exact⟨h1,h2,h3⟩
   . rw[L1 h0];refine⟨h1,Nn.2 ⟨hB,h2⟩,fun x hx y hy=>?_⟩;rcases L8.1 hy with rfl|hy
     . exact hA x hx
     . exact h3 x hx y hy
 . intro t;have e1:=tq A ((if k=0 then [] else [(s,k)])++B) t;have e2:=tq A B t;rw[MI,e1,dV];by_cases ht:t=s
   . subst ht;rw[L0 rfl,L0 rfl,L1 hnA];by_cases h0:k=0
     . rw[L0 h0,Ma,fM hnB,h0];rfl
     . rw[L1 h0,Mb,Ma,cm,L0 rfl];omega
   . rw[L1 ht,L1 ht,e2];by_cases hx:∃x∈A,x.1=t
     . rw[L0 hx,L0 hx]
     . rw[L1 hx,L1 hx];by_cases h0:k=0
       . rw[L0 h0];rfl
       . rw[L1 h0,Mb,Ma,cm,L1 (M1 ht)]
theorem di:gD 15 aw:=by
 refine bW (E:=bp []) (k:=2) (cZ _ trivial) (by kernel_rfl) Try.func15 rfl (fun a w=>Try.call15 a w) Try.ntmps15 (by kernel_rfl) (by decide) (by decide) ?_;intro us r hF hdat;unfold aw at hF;split at hF
 case h_2=>cases hF
 rename_i a b c a' b' c';cases hF;refine⟨rfl,?_⟩;by_cases h1:a=a'
 . have d1:=LP h1;by_cases h2:b=b'
   . have d2:=LP h2;have e:da a b c a' b' c'=decide (c<c'):=by unfold da;rw[L0 h1,L0 h2]
     simp +decide (maxDischargeDepth:=200) only[go_sem,d1,d2,e]
   . have d2:=LO h2;have e:da a b c a' b' c'=decide (b<b'):=by unfold da;rw[L0 h1,L1 h2]
     simp +decide (maxDischargeDepth:=200) only[go_sem,d1,d2,e]
 . have d1:=LO h1;have e:da a b c a' b' c'=decide (a<a'):=by unfold da;rw[L1 h1]
   simp +decide (maxDischargeDepth:=200) only[go_sem,d1,e]
theorem dl:gD 16 aq:=by
 refine bW (E:=bp []) (k:=2) (cZ _ trivial) (by kernel_rfl) Try.func16 rfl (fun a w=>Try.call16 a w) Try.ntmps16 (by kernel_rfl) (by decide) (by decide) ?_;intro us r hF hdat;unfold aq at hF;split at hF
 case h_2=>cases hF
 rename_i a b c a' b' c';cases hF;refine⟨rfl,?_⟩;by_cases h0:a<=a'
 . have d0:=LP h0;by_cases h1:b<=b'
   . have d1:=LP h1;by_cases h2:c<=c'
     . have d2:=LP h2;simp +decide (maxDischargeDepth:=200) only[go_sem,ef,d0,d1,d2]
     . have d2:=LO h2;simp +decide (maxDischargeDepth:=200) only[go_sem,ef,d0,d1,d2]
   . have d1:=LO h1;simp +decide (maxDischargeDepth:=200) only[go_sem,ef,d0,d1]
 . have d0:=LO h0;simp +decide (maxDischargeDepth:=200) only[go_sem,ef,d0]
abbrev ai (p:Nat):Value:= .pointer (some ⟨p,0,none⟩)
def smC (c:Cn) (k:Nat):Prop:=∀s,-((k:Int)*1099511627776)<=c s∧c s<=(k:Int)*1099511627776
def Gh (c:Cn):Prop:=∀s,-1152921504606846976<=c s∧c s<=1152921504606846976
variable {k:Nat}
theorem smC.big (h:smC c k) (hk:k<=1000):Gh c:=fun s=>by have:=h s;omega
abbrev FrT:=HH->Nat->Cn->Nat->List Nat->Prop
def Ce (Fr:FrT) (us:List V) (H:HH) (T:V->HH->Prop):Prop:=∃p s n c k F,us=[.x (ai p),ay s,.x (.int .i64 n)]∧Fr H p c k F∧k<100∧Gh c∧(-1152921504606846976<=n∧n<=1152921504606846976)∧
 ∀H' F',Fr H' p (dV c s n) (k+1) F'->(∀y,y∉F->H y≠none->H' y=H y)->(∀y∈F',y∈F∨H y=none)->T (.tup []) H'
def mY (Fr:FrT) (us:List V) (H:HH) (T:V->HH->Prop):Prop:=∃p s c k F,us=[.x (ai p),ay s]∧Fr H p c k F∧T (.x (.int .i64 (c s))) H
def jy (Fr:FrT) (us:List V) (H:HH) (T:V->HH->Prop):Prop:=∃p s c k F,us=[.x (ai p),ay s]∧Fr H p c k F∧∀b:Bool,(b=true↔∀t,0<c t->al t s=false)->T (.x (.bool b)) H
def mZ (Fr:FrT) (us:List V) (H:HH) (T:V->HH->Prop):Prop:=∃p c k F,us=[.x (ai p)]∧Fr H p c k F∧k<=100∧∀l nl z,LeastIs c l->(nl=true->l=[])->(l≠[]->z=3)->l.length<=k->T (.sl nl z (l.map ay) none) H
def RFr:FrT:=fun H p c k F=>∃(L:List Ch) (ad:Option Addr) (cap:Nat),H p=some (rowO [.slice ad L.length cap] 33)∧RowV H (.slice ad L.length cap) 4 (aI L)∧blkOf (.slice ad L.length cap)≠some p∧fL L∧(∀x∈L,x.2≠0)∧(∀s,c s=cm L s)∧(L.length<=k∧k<=100)∧F=p::(blkOf (.slice ad L.length cap)).toList
theorem f9 {H:HH} {ad:Option Addr} {cap:Nat} (h:RowV H (.slice ad L.length cap) 4 (aI L)) (hne:L≠[]):∃g off C ty,ad=some ⟨g,off,none⟩∧an H g=some (C,ty)∧off+cap*4<=C.length∧L.length<=cap∧(C.drop off).take (L.length*4)=aI L:=by
 rcases h with⟨h,_⟩|⟨g,off,n,cp,cur,ty,e,h0,h1,h2,h3⟩
 . have:=bP L;rw[h] at this;have:L.length=0:=by simp only[MC] at this;omega
   exact absurd (MD.1 this) hne
 . cases e;exact⟨g,off,cur.toList,ty,rfl,ah (by simpa[rowO] using h0),by simpa using h2,h1,h3⟩
variable {C:List Value} {off:Nat}
theorem Em {i:Nat} {x:Ch} (h:(C.drop off).take (L.length*4)=aI L) (hx:L[i]?=some x):(C.drop (off+i*4)).take 4=wg x:=by have hl:=(LN.1 hx).1;rw[<-Cd hx,<-h,<-List.drop_drop];generalize C.drop off=D;rw[List.drop_take,List.take_take,NO (by omega)]
theorem cV {i:Nat} {x:Ch} (h:(C.drop off).take (L.length*4)=aI L) (hx:L[i]?=some x):(C.map V.x)[off+i*4+3]?=some (.x (.int .i64 x.2))∧((C.map V.x).drop (off+i*4)).take 3=[.x (.int .i64 x.1.1),.x (.int .i64 x.1.2.1),.x (.int .i64 x.1.2.2)]∧off+i*4+4<=C.length:=by
 have e:=Em h hx;have hlen:off+i*4+4<=C.length:=by have:=NM List.length e;simp only[Mg,MZ,wg,Md,MC] at this;omega
 refine⟨?_,?_,hlen⟩
 . have:=NM (fun l=>l[3]?) e;simp only[Mf,Mx,wg] at this;rw[LS];rw[L0 (by decide)] at this;rw[this];rfl
 . rw[<-List.map_drop,<-List.map_take,show(3:Nat)=min 3 4 from rfl,<-List.take_take,e];rfl
def Gi (p g off cap i:Nat) (L:List Ch) (x:Ch) (s:aJ):Nat->V
 |15=> .x (ai p)
 |16=> .x (ai p)
 |17=> .x (ai p)
 |18=> .x (.slice (some ⟨g,off,none⟩) L.length cap)
 |19=> .x (.int .i64 ((i:Nat):Int))
 |20=> .x (.pointer (some ⟨g,off+i*4,none⟩))
 |21=> .x (.pointer (some ⟨g,off+i*4,none⟩))
 |22=> .agg [.x (.int .i64 x.1.1),.x (.int .i64 x.1.2.1),.x (.int .i64 x.1.2.2)]
 |23=> .agg [.x (.int .i64 s.1),.x (.int .i64 s.2.1),.x (.int .i64 s.2.2)]
 |24=> .x (.bool (bD x.1 s))
 |_=> .undef
theorem gH:cE (bO [(15,aw),(16,aq)] [] [] (fun _=>false) (fun _=>false)) 14 (mY RFr):=by
 refine cP (F:={F:=fun _=>none,D:=fun _=>false,any:=fun i=>i==4}) (n:=33) (k:=2) (aZ [(15,aw),(16,aq)] [] [] _ _ ⟨di,dl,trivial⟩ trivial trivial) (by kernel_rfl) (fun f C e=>by cases e) (fun t s C e=>by cases e) Try.func14 rfl (fun a w=>Try.call14 a w) Try.ntmps14 (by decide) (by decide) (by kernel_rfl) ?_;rintro us H T ⟨p,s,c,k,F,rfl,⟨L,ad,cap,hp,hr,hne,hS,hz,hc,⟨hk,hk1⟩,rfl⟩,hT⟩ hdat;clear hdat;refine⟨rfl,?_⟩;have fF:fg Try.prog 33 0=some 0:=by kernel_rfl
 have fC0:fg Try.prog 44 0=some 0:=by kernel_rfl
 have fC1:fg Try.prog 44 1=some 3:=by kernel_rfl
 have zL:wf Try.prog 31=some 4:=by kernel_rfl
 have c1:=ah hp;simp +decide (maxDischargeDepth:=200) only[go_sem,Nat.reduceBEq,ay];refine bz (X:={i:Nat//i<=L.length∧∀(j:Nat) (x:Ch),j<i->L[j]?=some x->x.1≠s}) (fun i=>[(0,.x (ai p)),(3,.ptr 3 0),(5,.x (.int .i64 ((i.1:Nat):Int)))]) (fun _=>[(3,[.x (.int .i64 s.1),.x (.int .i64 s.2.1),.x (.int .i64 s.2.2)])]) (fun _ Hx=>H=Hx) (fun i=>L.length-i.1) ⟨0,LQ _,fun j x hj=>absurd hj (Np _)⟩ (by simp +decide only[go_sem,Nat.reduceBEq,Mc]<;>(repeat' first|rfl|constructor)) (by simp +decide only[go_sem,Nat.reduceBEq,Mc]<;>(repeat' first|rfl|constructor)) rfl ?_;rintro⟨i,hi,hlt⟩ H1 rfl;simp only at hi hlt⊢;by_cases hil:i<L.length
 case neg=>
  obtain rfl:i=L.length:=by omega
  have d0:decide ((L.length:Int)<(L.length:Int))=false:=LO (by omega);have e:c s=0:=by rw[hc];exact fM fun x hx=>by obtain⟨j,hj⟩:=MX.1 hx;exact hlt j x (LN.1 hj).1 hj
  rw[e] at hT;simp +decide (maxDischargeDepth:=200) only[go_sem,Nat.reduceBEq,fF,fC0,fC1,zL,c1,iO,eq,d0];exact hT
 obtain⟨x,hx⟩:∃x,L[i]?=some x:=⟨_,Io hil⟩;obtain⟨g,off,C,ty,rfl,c2,hC1,hC2,hC3⟩:=f9 hr (fun e=>by rw[e] at hil;simp at hil);obtain⟨q3,q2,q4⟩:=cV hC3 hx;have q1:off+i*4+3<=C.length:=by omega
 have i0:(0:Int)<=(i:Int):=by omega
 have i1:(i:Int)<(L.length:Int):=by omega
 have d0:decide ((i:Int)<(L.length:Int))=true:=LP (by omega);have cu:=be (i:=i) (by omega :i<9223372036854775807);simp +decide (maxDischargeDepth:=200) only[go_sem,Nat.reduceBEq,fF,fC0,fC1,zL,c1,iO,eq,d0];refine aG (fun k=>match k with|1=>[15]|2=>[16]|3=>[17]|5=>[18,19]|6=>[20]|7=>[21]|9=>[22,23]|_=>[]) [] (fun k=>match k with|_=>0) (fun _ Hx _=>H=Hx) (Gi p g off cap i L x s) (by kernel_rfl) (by kernel_rfl) (by kernel_rfl) rfl ?_ ?_ ?_
 . rintro j i' o Hx val st ho hW hj hJ hv hn hb hbb K' hk;have b0:st.t 0= .x (ai p):=hb 0 (by kernel_rfl);have b3:st.t 3= .ptr 3 0:=hb 3 (by kernel_rfl);have b5:st.t 5= .x (.int .i64 ((i:Nat):Int)):=hb 5 (by kernel_rfl);have bb3:st.b 3=some ([.x (.int .i64 s.1),.x (.int .i64 s.2.1),.x (.int .i64 s.2.2)]):=(Mv hbb 3).trans (by kernel_rfl);clear hb hbb;subst hJ;rcases i' with _|_|_|_|_|_|_|_|_|_|i'
   . cases ho;simp +decide (maxDischargeDepth:=200) only[go_sem,Nat.reduceBEq,b0,fF,fC0,fC1,zL,c1,iO,eq,c2,q1,q2,q3,i0,i1,io,ba,bD];exact hk _ (Le.refl _)
   . cases ho;have h15:st.t 15= .x (ai p):=(hn 15 (by decide)).trans (hv 15 (by kernel_rfl));simp +decide (maxDischargeDepth:=200) only[go_sem,Nat.reduceBEq,h15,fF,fC0,fC1,zL,c1,iO,eq,c2,q1,q2,q3,i0,i1,io,ba,bD];exact hk _ (Le.refl _)
   . cases ho;have h16:st.t 16= .x (ai p):=(hn 16 (by decide)).trans (hv 16 (by kernel_rfl));simp +decide (maxDischargeDepth:=200) only[go_sem,Nat.reduceBEq,h16,fF,fC0,fC1,zL,c1,iO,eq,c2,q1,q2,q3,i0,i1,io,ba,bD];exact hk _ (Le.refl _)
   . cases ho;have h17:st.t 17= .x (ai p):=(hn 17 (by decide)).trans (hv 17 (by kernel_rfl));simp +decide (maxDischargeDepth:=200) only[go_sem,Nat.reduceBEq,h17,fF,fC0,fC1,zL,c1,iO,eq,c2,q1,q2,q3,i0,i1,io,ba,bD];exact hk _ (Le.refl _)
   . cases ho;simp +decide (maxDischargeDepth:=200) only[go_sem,Nat.reduceBEq,b5,fF,fC0,fC1,zL,c1,iO,eq,c2,q1,q2,q3,i0,i1,io,ba,bD];exact hk _ (Le.refl _)
   . cases ho;have h18:st.t 18= .x (.slice (some ⟨g,off,none⟩) L.length cap):=(hn 18 (by decide)).trans (hv 18 (by kernel_rfl));have h19:st.t 19= .x (.int .i64 ((i:Nat):Int)):=(hn 19 (by decide)).trans (hv 19 (by kernel_rfl));simp +decide (maxDischargeDepth:=200) only[go_sem,Nat.reduceBEq,h18,h19,fF,fC0,fC1,zL,c1,iO,eq,c2,q1,q2,q3,i0,i1,io,ba,bD];exact hk _ (Le.refl _)
   . cases ho;have h20:st.t 20= .x (.pointer (some ⟨g,off+i*4,none⟩)):=(hn 20 (by decide)).trans (hv 20 (by kernel_rfl));simp +decide (maxDischargeDepth:=200) only[go_sem,Nat.reduceBEq,h20,fF,fC0,fC1,zL,c1,iO,eq,c2,q1,q2,q3,i0,i1,io,ba,bD];exact hk _ (Le.refl _)
   . cases ho;have h21:st.t 21= .x (.pointer (some ⟨g,off+i*4,none⟩)):=(hn 21 (by decide)).trans (hv 21 (by kernel_rfl));simp +decide (maxDischargeDepth:=200) only[go_sem,Nat.reduceBEq,h21,fF,fC0,fC1,zL,c1,iO,eq,c2,q1,q2,q3,i0,i1,io,ba,bD];exact hk _ (Le.refl _)
   . cases ho;simp +decide (maxDischargeDepth:=200) only[go_sem,Nat.reduceBEq,b3,bb3,fF,fC0,fC1,zL,c1,iO,eq,c2,q1,q2,q3,i0,i1,io,ba,bD];exact hk _ (Le.refl _)
   . cases ho;have h22:st.t 22= .agg [.x (.int .i64 x.1.1),.x (.int .i64 x.1.2.1),.x (.int .i64 x.1.2.2)]:=(hn 22 (by decide)).trans (hv 22 (by kernel_rfl));have h23:st.t 23= .agg [.x (.int .i64 s.1),.x (.int .i64 s.2.1),.x (.int .i64 s.2.2)]:=(hn 23 (by decide)).trans (hv 23 (by kernel_rfl));simp +decide (maxDischargeDepth:=200) only[go_sem,Nat.reduceBEq,h22,h23,fF,fC0,fC1,zL,c1,iO,eq,c2,q1,q2,q3,i0,i1,io,ba,bD];exact hk _ (Le.refl _)
   . cases ho
 . rintro j i' o Hx val st hj ho hJ hv hn hb hbb K' hk;have b0:st.t 0= .x (ai p):=hb 0 (by kernel_rfl);have b3:st.t 3= .ptr 3 0:=hb 3 (by kernel_rfl);have b5:st.t 5= .x (.int .i64 ((i:Nat):Int)):=hb 5 (by kernel_rfl);have bb3:st.b 3=some ([.x (.int .i64 s.1),.x (.int .i64 s.2.1),.x (.int .i64 s.2.2)]):=(Mv hbb 3).trans (by kernel_rfl);clear hb hbb;rcases j with j
   . cases hj
 . rintro Hx val hJ hv;refine⟨[(0,.x (ai p)),(3,.ptr 3 0),(5,.x (.int .i64 ((i:Nat):Int))),(24,.x (.bool (bD x.1 s)))],[(3,[.x (.int .i64 s.1),.x (.int .i64 s.2.1),.x (.int .i64 s.2.2)])],?_,?_,?_⟩
   . simp +decide only[go_sem,Nat.reduceBEq]<;>(repeat' first|exact aK (by kernel_rfl)|exact(aL (by kernel_rfl)).trans (hv _ (by kernel_rfl))|rfl|constructor)
   . simp +decide only[go_sem,Nat.reduceBEq]<;>(repeat' first|rfl|constructor)
   subst hJ;cases hq:bD x.1 s
   . simp +decide (maxDischargeDepth:=200) only[go_sem,Nat.reduceBEq,hq,cu];refine⟨⟨i+1,hil,fun j y hj hy=>?_⟩,⟨?_,?_,rfl⟩,by simp only;omega⟩
     . by_cases e:j=i
       . subst e;rw[hx] at hy;cases hy;exact ib.1 hq
       . exact hlt j y (by omega) hy
     . simp +decide (maxDischargeDepth:=200) only[go_sem,Nat.reduceBEq]
     . simp +decide (maxDischargeDepth:=200) only[go_sem,Nat.reduceBEq]
   . have e:c s=x.2:=by rw[hc,<-dB.1 hq];exact dK hS (LW hx)
     rw[e] at hT;simp +decide (maxDischargeDepth:=200) only[go_sem,Nat.reduceBEq,hq,fF,fC0,fC1,zL,c1,iO,eq,c2,q1,q2,q3,i0,i1,io];exact hT
theorem kE (h:cm L s≠0):∃x∈L,x.1=s:=by refine M9 fun hn=>h (fM fun x hx e=>hn ⟨x,hx,e⟩)
theorem Cf (h:fL L) {i k:Nat} {x y:Ch} (hx:L[i]?=some x) (hy:L[k]?=some y) (e:x.1=y.1):i=k:=by
 obtain⟨hi,rfl⟩:=LN.1 hx;obtain⟨hk,rfl⟩:=LN.1 hy;rw[fL,Na] at h;rcases Nat.lt_trichotomy i k with hlt|rfl|hlt
 . have:=h i k hi hk hlt;rw[e,cf] at this;cases this
 . rfl
 . have:=h k i hk hi hlt;rw[e,cf] at this;cases this
def jq (x y:Ch):Bool:=bD y.1 x.1|| !(decide (0<y.2)&&al y.1 x.1)
def ie (L:List Ch) (x:Ch) (k:Nat):Bool:=decide (0<x.2)&&(L.take k).all (jq x)
theorem vM {x y:Ch} (h:L[k]?=some y):ie L x (k+1)=(ie L x k&&jq x y):=by unfold ie;rw[bQ h,Ok,Bool.and_assoc];simp
def bl (L:List Ch) (i:Nat):List aJ:=((L.take i).filter fun x=>ie L x L.length).map (·.1)
theorem pr {x:Ch} {i:Nat} (h:L[i]?=some x):bl L (i+1)=bl L i++(if ie L x L.length=true then [x.1] else []):=by
 unfold bl;rw[bQ h,List.filter_append,M8];congr 1;by_cases hk:ie L x L.length=true
 . rw[L0 hk,NV,L0 hk];rfl
 . rw[L1 hk,NV,L1 hk];rfl
theorem gI (L:List Ch) (i:Nat):(bl L i).length<=L.length:=by unfold bl;rw[eq];exact tl (NG ..) (by rw[Mg];omega)
theorem l4 (h:fL L) (hc:∀s,c s=cm L s):LeastIs c (bl L L.length):=by
 unfold bl;rw[MR];constructor
 . rw[List.pairwise_map];exact List.Pairwise.sublist List.filter_sublist h
 . intro s;simp only[Mw,ME,ie,MR,LR,Mi,LU];constructor
   . rintro⟨x,⟨hx,h0,ha⟩,rfl⟩;refine⟨by rw[hc,dK h hx];exact h0,fun t ht hp=>?_⟩;rw[hc] at hp;obtain⟨y,hy,rfl⟩:=kE (L:=L) (s:=t) (by omega);have:=ha y hy;rw[dK h hy] at hp;simp only[jq,ib.2 ht,Ny,LP hp,Nm,MN] at this;exact this
   . rintro⟨h0,ha⟩;rw[hc] at h0;obtain⟨x,hx,rfl⟩:=kE (L:=L) (s:=s) (by omega);refine⟨x,⟨hx,by rwa [dK h hx] at h0,fun y hy=>?_⟩,rfl⟩;by_cases e:y.1=x.1
     . simp[jq,dB.2 e]
     . by_cases hp:0<y.2
       . have:=ha y.1 e (by rw[hc,dK h hy];exact hp);simp[jq,this]
       . simp[jq,hp]
theorem Gj (h:fL L) (hc:∀s,c s=cm L s) {s:aJ} (ha:∀x∈L,0<x.2->al x.1 s=false):∀t,0<c t->al t s=false:=fun t ht=>by rw[hc] at ht;obtain⟨x,hx,rfl⟩:=kE (L:=L) (s:=t) (by omega);exact ha x hx (by rwa [dK h hx] at ht)
def Gk (p g off cap i:Nat) (L:List Ch) (x:Ch) (s:aJ):Nat->V
 |15=> .x (ai p)
 |16=> .x (ai p)
 |17=> .x (ai p)
 |18=> .x (.slice (some ⟨g,off,none⟩) L.length cap)
 |19=> .x (.int .i64 ((i:Nat):Int))
 |20=> .x (.pointer (some ⟨g,off+i*4,none⟩))
 |21=> .x (.pointer (some ⟨g,off+i*4+3,none⟩))
 |22=> .x (.int .i64 x.2)
 |23=> .x (.bool true)
 |24=> .x (.bool true)
 |25=> .x (ai p)
 |26=> .x (ai p)
 |27=> .x (ai p)
 |28=> .x (.slice (some ⟨g,off,none⟩) L.length cap)
 |29=> .x (.int .i64 ((i:Nat):Int))
 |30=> .x (.pointer (some ⟨g,off+i*4,none⟩))
 |31=> .x (.pointer (some ⟨g,off+i*4,none⟩))
 |32=> .agg [.x (.int .i64 x.1.1),.x (.int .i64 x.1.2.1),.x (.int .i64 x.1.2.2)]
 |33=> .agg [.x (.int .i64 s.1),.x (.int .i64 s.2.1),.x (.int .i64 s.2.2)]
 |34=> .x (.bool (al x.1 s))
 |35=> .x (.bool (al x.1 s))
 |_=> .undef
def Gl (p g off cap i:Nat) (L:List Ch) (x:Ch) (_s:aJ):Nat->V
 |15=> .x (ai p)
 |16=> .x (ai p)
 |17=> .x (ai p)
 |18=> .x (.slice (some ⟨g,off,none⟩) L.length cap)
 |19=> .x (.int .i64 ((i:Nat):Int))
 |20=> .x (.pointer (some ⟨g,off+i*4,none⟩))
 |21=> .x (.pointer (some ⟨g,off+i*4+3,none⟩))
 |22=> .x (.int .i64 x.2)
 |23=> .x (.bool false)
 |24=> .x (.bool false)
 |25=> .x (.tuple #[])
 |26=> .x (.tuple #[])
 |27=> .x (.tuple #[])
 |28=> .x (.tuple #[])
 |29=> .x (.tuple #[])
 |30=> .x (.tuple #[])
 |31=> .x (.tuple #[])
 |32=> .x (.tuple #[])
 |33=> .x (.tuple #[])
 |34=> .x (.tuple #[])
 |35=> .x (.bool false)
 |_=> .undef
theorem fN:cE (bO [(15,aw),(16,aq)] [] [] (fun _=>false) (fun _=>false)) 12 (jy RFr):=by
 refine cP (F:={F:=fun _=>none,D:=fun _=>false,any:=fun i=>i==4}) (n:=36) (k:=2) (aZ [(15,aw),(16,aq)] [] [] _ _ ⟨di,dl,trivial⟩ trivial trivial) (by kernel_rfl) (fun f C e=>by cases e) (fun t s C e=>by cases e) Try.func12 rfl (fun a w=>Try.call12 a w) Try.ntmps12 (by decide) (by decide) (by kernel_rfl) ?_;rintro us H T ⟨p,s,c,k,F,rfl,⟨L,ad,cap,hp,hr,hne,hS,hz,hc,⟨hk,hk1⟩,rfl⟩,hT⟩ hdat;clear hdat;refine⟨rfl,?_⟩;have fF:fg Try.prog 33 0=some 0:=by kernel_rfl
 have fC0:fg Try.prog 44 0=some 0:=by kernel_rfl
 have fC1:fg Try.prog 44 1=some 3:=by kernel_rfl
 have zL:wf Try.prog 31=some 4:=by kernel_rfl
 have c1:=ah hp;simp +decide (maxDischargeDepth:=200) only[go_sem,Nat.reduceBEq,ay];refine bz (X:={i:Nat//i<=L.length∧∀(j:Nat) (x:Ch),j<i->L[j]?=some x->0<x.2->al x.1 s=false}) (fun i=>[(0,.x (ai p)),(3,.ptr 3 0),(5,.x (.int .i64 ((i.1:Nat):Int)))]) (fun _=>[(3,[.x (.int .i64 s.1),.x (.int .i64 s.2.1),.x (.int .i64 s.2.2)])]) (fun _ Hx=>H=Hx) (fun i=>L.length-i.1) ⟨0,LQ _,fun j x hj=>absurd hj (Np _)⟩ (by simp +decide only[go_sem,Nat.reduceBEq,Mc]<;>(repeat' first|rfl|constructor)) (by simp +decide only[go_sem,Nat.reduceBEq,Mc]<;>(repeat' first|rfl|constructor)) rfl ?_;rintro⟨i,hi,hlt⟩ H1 rfl;simp only at hi hlt⊢;by_cases hil:i<L.length
 case neg=>
  obtain rfl:i=L.length:=by omega
  have d0:decide ((L.length:Int)<(L.length:Int))=false:=LO (by omega);have e:=hT true ⟨fun _=>Gj hS hc fun x hx h0=>by obtain⟨j,hj⟩:=MX.1 hx;exact hlt j x (LN.1 hj).1 hj h0,fun _=>rfl⟩;simp +decide (maxDischargeDepth:=200) only[go_sem,Nat.reduceBEq,fF,fC0,fC1,zL,c1,iO,eq,d0];exact e
 obtain⟨x,hx⟩:∃x,L[i]?=some x:=⟨_,Io hil⟩;obtain⟨g,off,C,ty,rfl,c2,hC1,hC2,hC3⟩:=f9 hr (fun e=>by rw[e] at hil;simp at hil);obtain⟨q3,q2,q4⟩:=cV hC3 hx;have q1:off+i*4+3<=C.length:=by omega
 have i0:(0:Int)<=(i:Int):=by omega
 have i1:(i:Int)<(L.length:Int):=by omega
 have d0:decide ((i:Int)<(L.length:Int))=true:=LP (by omega);have cu:=be (i:=i) (by omega :i<9223372036854775807);by_cases hn:0<x.2
 . have dg:=LP hn;simp +decide (maxDischargeDepth:=200) only[go_sem,Nat.reduceBEq,fF,fC0,fC1,zL,c1,iO,eq,d0];refine aG (fun k=>match k with|1=>[15]|2=>[16]|3=>[17]|5=>[18,19]|6=>[20]|7=>[21]|8=>[22]|9=>[23]|10=>[24]|11=>[25,24]|12=>[26,24]|13=>[27,24]|14=>[24]|15=>[28,29,24]|16=>[30,24]|17=>[31,24]|18=>[24]|19=>[32,33,24]|20=>[24,34]|_=>[]) [] (fun k=>match k with|_=>0) (fun _ Hx _=>H=Hx) (Gk p g off cap i L x s) (by kernel_rfl) (by kernel_rfl) (by kernel_rfl) rfl ?_ ?_ ?_
   . rintro j i' o Hx val st ho hW hj hJ hv hn hb hbb K' hk;have b0:st.t 0= .x (ai p):=hb 0 (by kernel_rfl);have b3:st.t 3= .ptr 3 0:=hb 3 (by kernel_rfl);have b5:st.t 5= .x (.int .i64 ((i:Nat):Int)):=hb 5 (by kernel_rfl);have bb3:st.b 3=some ([.x (.int .i64 s.1),.x (.int .i64 s.2.1),.x (.int .i64 s.2.2)]):=(Mv hbb 3).trans (by kernel_rfl);clear hb hbb;subst hJ;rcases i' with _|_|_|_|_|_|_|_|_|_|_|_|_|_|_|_|_|_|_|_|_|i'
     . cases ho;simp +decide (maxDischargeDepth:=200) only[go_sem,Nat.reduceBEq,b0,fF,fC0,fC1,zL,c1,iO,eq,c2,q1,q2,q3,i0,i1,io,aq,al,dg];exact hk _ (Le.refl _)
     . cases ho;have h15:st.t 15= .x (ai p):=(hn 15 (by decide)).trans (hv 15 (by kernel_rfl));simp +decide (maxDischargeDepth:=200) only[go_sem,Nat.reduceBEq,h15,fF,fC0,fC1,zL,c1,iO,eq,c2,q1,q2,q3,i0,i1,io,aq,al,dg];exact hk _ (Le.refl _)
     . cases ho;have h16:st.t 16= .x (ai p):=(hn 16 (by decide)).trans (hv 16 (by kernel_rfl));simp +decide (maxDischargeDepth:=200) only[go_sem,Nat.reduceBEq,h16,fF,fC0,fC1,zL,c1,iO,eq,c2,q1,q2,q3,i0,i1,io,aq,al,dg];exact hk _ (Le.refl _)
     . cases ho;have h17:st.t 17= .x (ai p):=(hn 17 (by decide)).trans (hv 17 (by kernel_rfl));simp +decide (maxDischargeDepth:=200) only[go_sem,Nat.reduceBEq,h17,fF,fC0,fC1,zL,c1,iO,eq,c2,q1,q2,q3,i0,i1,io,aq,al,dg];exact hk _ (Le.refl _)
     . cases ho;simp +decide (maxDischargeDepth:=200) only[go_sem,Nat.reduceBEq,b5,fF,fC0,fC1,zL,c1,iO,eq,c2,q1,q2,q3,i0,i1,io,aq,al,dg];exact hk _ (Le.refl _)
     . cases ho;have h18:st.t 18= .x (.slice (some ⟨g,off,none⟩) L.length cap):=(hn 18 (by decide)).trans (hv 18 (by kernel_rfl));have h19:st.t 19= .x (.int .i64 ((i:Nat):Int)):=(hn 19 (by decide)).trans (hv 19 (by kernel_rfl));simp +decide (maxDischargeDepth:=200) only[go_sem,Nat.reduceBEq,h18,h19,fF,fC0,fC1,zL,c1,iO,eq,c2,q1,q2,q3,i0,i1,io,aq,al,dg];exact hk _ (Le.refl _)
     . cases ho;have h20:st.t 20= .x (.pointer (some ⟨g,off+i*4,none⟩)):=(hn 20 (by decide)).trans (hv 20 (by kernel_rfl));simp +decide (maxDischargeDepth:=200) only[go_sem,Nat.reduceBEq,h20,fF,fC0,fC1,zL,c1,iO,eq,c2,q1,q2,q3,i0,i1,io,aq,al,dg];exact hk _ (Le.refl _)
     . cases ho;have h21:st.t 21= .x (.pointer (some ⟨g,off+i*4+3,none⟩)):=(hn 21 (by decide)).trans (hv 21 (by kernel_rfl));simp +decide (maxDischargeDepth:=200) only[go_sem,Nat.reduceBEq,h21,fF,fC0,fC1,zL,c1,iO,eq,c2,q1,q2,q3,i0,i1,io,aq,al,dg];exact hk _ (Le.refl _)
     . cases ho;have h22:st.t 22= .x (.int .i64 x.2):=(hn 22 (by decide)).trans (hv 22 (by kernel_rfl));simp +decide (maxDischargeDepth:=200) only[go_sem,Nat.reduceBEq,h22,fF,fC0,fC1,zL,c1,iO,eq,c2,q1,q2,q3,i0,i1,io,aq,al,dg];exact hk _ (Le.refl _)
     . cases ho;have h23:st.t 23= .x (.bool true):=(hn 23 (by decide)).trans (hv 23 (by kernel_rfl));simp +decide (maxDischargeDepth:=200) only[go_sem,Nat.reduceBEq,h23,fF,fC0,fC1,zL,c1,iO,eq,c2,q1,q2,q3,i0,i1,io,aq,al,dg];exact hk _ (Le.refl _)
     . cases ho;have h24:st.t 24= .x (.bool true):=(hn 24 (by decide)).trans (hv 24 (by kernel_rfl));simp +decide (maxDischargeDepth:=200) only[go_sem,Nat.reduceBEq,b0,h24,fF,fC0,fC1,zL,c1,iO,eq,c2,q1,q2,q3,i0,i1,io,aq,al,dg];exact hk _ (Le.refl _)
     . cases ho;have h25:st.t 25= .x (ai p):=(hn 25 (by decide)).trans (hv 25 (by kernel_rfl));have h24:st.t 24= .x (.bool true):=(hn 24 (by decide)).trans (hv 24 (by kernel_rfl));simp +decide (maxDischargeDepth:=200) only[go_sem,Nat.reduceBEq,h25,h24,fF,fC0,fC1,zL,c1,iO,eq,c2,q1,q2,q3,i0,i1,io,aq,al,dg];exact hk _ (Le.refl _)
     . cases ho;have h26:st.t 26= .x (ai p):=(hn 26 (by decide)).trans (hv 26 (by kernel_rfl));have h24:st.t 24= .x (.bool true):=(hn 24 (by decide)).trans (hv 24 (by kernel_rfl));simp +decide (maxDischargeDepth:=200) only[go_sem,Nat.reduceBEq,h26,h24,fF,fC0,fC1,zL,c1,iO,eq,c2,q1,q2,q3,i0,i1,io,aq,al,dg];exact hk _ (Le.refl _)
     . cases ho;have h27:st.t 27= .x (ai p):=(hn 27 (by decide)).trans (hv 27 (by kernel_rfl));have h24:st.t 24= .x (.bool true):=(hn 24 (by decide)).trans (hv 24 (by kernel_rfl));simp +decide (maxDischargeDepth:=200) only[go_sem,Nat.reduceBEq,h27,h24,fF,fC0,fC1,zL,c1,iO,eq,c2,q1,q2,q3,i0,i1,io,aq,al,dg];exact hk _ (Le.refl _)
     . cases ho;have h24:st.t 24= .x (.bool true):=(hn 24 (by decide)).trans (hv 24 (by kernel_rfl));simp +decide (maxDischargeDepth:=200) only[go_sem,Nat.reduceBEq,b5,h24,fF,fC0,fC1,zL,c1,iO,eq,c2,q1,q2,q3,i0,i1,io,aq,al,dg];exact hk _ (Le.refl _)
     . cases ho;have h28:st.t 28= .x (.slice (some ⟨g,off,none⟩) L.length cap):=(hn 28 (by decide)).trans (hv 28 (by kernel_rfl));have h29:st.t 29= .x (.int .i64 ((i:Nat):Int)):=(hn 29 (by decide)).trans (hv 29 (by kernel_rfl));have h24:st.t 24= .x (.bool true):=(hn 24 (by decide)).trans (hv 24 (by kernel_rfl));simp +decide (maxDischargeDepth:=200) only[go_sem,Nat.reduceBEq,h28,h29,h24,fF,fC0,fC1,zL,c1,iO,eq,c2,q1,q2,q3,i0,i1,io,aq,al,dg];exact hk _ (Le.refl _)
     . cases ho;have h30:st.t 30= .x (.pointer (some ⟨g,off+i*4,none⟩)):=(hn 30 (by decide)).trans (hv 30 (by kernel_rfl));have h24:st.t 24= .x (.bool true):=(hn 24 (by decide)).trans (hv 24 (by kernel_rfl));simp +decide (maxDischargeDepth:=200) only[go_sem,Nat.reduceBEq,h30,h24,fF,fC0,fC1,zL,c1,iO,eq,c2,q1,q2,q3,i0,i1,io,aq,al,dg];exact hk _ (Le.refl _)
     . cases ho;have h31:st.t 31= .x (.pointer (some ⟨g,off+i*4,none⟩)):=(hn 31 (by decide)).trans (hv 31 (by kernel_rfl));have h24:st.t 24= .x (.bool true):=(hn 24 (by decide)).trans (hv 24 (by kernel_rfl));simp +decide (maxDischargeDepth:=200) only[go_sem,Nat.reduceBEq,h31,h24,fF,fC0,fC1,zL,c1,iO,eq,c2,q1,q2,q3,i0,i1,io,aq,al,dg];exact hk _ (Le.refl _)
     . cases ho;have h24:st.t 24= .x (.bool true):=(hn 24 (by decide)).trans (hv 24 (by kernel_rfl));simp +decide (maxDischargeDepth:=200) only[go_sem,Nat.reduceBEq,b3,bb3,h24,fF,fC0,fC1,zL,c1,iO,eq,c2,q1,q2,q3,i0,i1,io,aq,al,dg];exact hk _ (Le.refl _)
     . cases ho;have h32:st.t 32= .agg [.x (.int .i64 x.1.1),.x (.int .i64 x.1.2.1),.x (.int .i64 x.1.2.2)]:=(hn 32 (by decide)).trans (hv 32 (by kernel_rfl));have h33:st.t 33= .agg [.x (.int .i64 s.1),.x (.int .i64 s.2.1),.x (.int .i64 s.2.2)]:=(hn 33 (by decide)).trans (hv 33 (by kernel_rfl));have h24:st.t 24= .x (.bool true):=(hn 24 (by decide)).trans (hv 24 (by kernel_rfl));simp +decide (maxDischargeDepth:=200) only[go_sem,Nat.reduceBEq,h32,h33,h24,fF,fC0,fC1,zL,c1,iO,eq,c2,q1,q2,q3,i0,i1,io,aq,al,dg];exact hk _ (Le.refl _)
     . cases ho;have h24:st.t 24= .x (.bool true):=(hn 24 (by decide)).trans (hv 24 (by kernel_rfl));have h34:st.t 34= .x (.bool (al x.1 s)):=(hn 34 (by decide)).trans (hv 34 (by kernel_rfl));simp +decide (maxDischargeDepth:=200) only[go_sem,Nat.reduceBEq,h24,h34,fF,fC0,fC1,zL,c1,iO,eq,c2,q1,q2,q3,i0,i1,io,aq,al,dg];exact hk _ (Le.refl _)
     . cases ho
   . rintro j i' o Hx val st hj ho hJ hv hn hb hbb K' hk;have b0:st.t 0= .x (ai p):=hb 0 (by kernel_rfl);have b3:st.t 3= .ptr 3 0:=hb 3 (by kernel_rfl);have b5:st.t 5= .x (.int .i64 ((i:Nat):Int)):=hb 5 (by kernel_rfl);have bb3:st.b 3=some ([.x (.int .i64 s.1),.x (.int .i64 s.2.1),.x (.int .i64 s.2.2)]):=(Mv hbb 3).trans (by kernel_rfl);clear hb hbb;rcases j with j
     . cases hj
   . rintro Hx val hJ hv;refine⟨[(0,.x (ai p)),(3,.ptr 3 0),(5,.x (.int .i64 ((i:Nat):Int))),(35,.x (.bool (al x.1 s)))],[(3,[.x (.int .i64 s.1),.x (.int .i64 s.2.1),.x (.int .i64 s.2.2)])],?_,?_,?_⟩
     . simp +decide only[go_sem,Nat.reduceBEq]<;>(repeat' first|exact aK (by kernel_rfl)|exact(aL (by kernel_rfl)).trans (hv _ (by kernel_rfl))|rfl|constructor)
     . simp +decide only[go_sem,Nat.reduceBEq]<;>(repeat' first|rfl|constructor)
     subst hJ;cases hq:al x.1 s
     . simp +decide (maxDischargeDepth:=200) only[go_sem,Nat.reduceBEq,hq,cu];refine⟨⟨i+1,hil,fun j y hj hy h0=>?_⟩,⟨?_,?_,rfl⟩,by simp only;omega⟩
       . by_cases e:j=i
         . subst e;rw[hx] at hy;cases hy;exact hq
         . exact hlt j y (by omega) hy h0
       . simp +decide (maxDischargeDepth:=200) only[go_sem,Nat.reduceBEq]
       . simp +decide (maxDischargeDepth:=200) only[go_sem,Nat.reduceBEq]
     . have e:=hT false ⟨(fun h=>by cases h),fun h=>by have:=h x.1 (by rw[hc,dK hS (LW hx)];exact hn);rw[hq] at this;cases this⟩;simp +decide (maxDischargeDepth:=200) only[go_sem,Nat.reduceBEq,hq];exact e
 . have dg:=LO hn;simp +decide (maxDischargeDepth:=200) only[go_sem,Nat.reduceBEq,fF,fC0,fC1,zL,c1,iO,eq,d0];refine aG (fun k=>match k with|1=>[15]|2=>[16]|3=>[17]|5=>[18,19]|6=>[20]|7=>[21]|8=>[22]|9=>[23]|10=>[24]|11=>[25,24]|12=>[26,24]|13=>[27,24]|14=>[24]|15=>[28,29,24]|16=>[30,24]|17=>[31,24]|18=>[24]|19=>[32,33,24]|20=>[24,34]|_=>[]) [] (fun k=>match k with|_=>0) (fun _ Hx _=>H=Hx) (Gl p g off cap i L x s) (by kernel_rfl) (by kernel_rfl) (by kernel_rfl) rfl ?_ ?_ ?_
   . rintro j i' o Hx val st ho hW hj hJ hv hn hb hbb K' hk;have b0:st.t 0= .x (ai p):=hb 0 (by kernel_rfl);have b3:st.t 3= .ptr 3 0:=hb 3 (by kernel_rfl);have b5:st.t 5= .x (.int .i64 ((i:Nat):Int)):=hb 5 (by kernel_rfl);have bb3:st.b 3=some ([.x (.int .i64 s.1),.x (.int .i64 s.2.1),.x (.int .i64 s.2.2)]):=(Mv hbb 3).trans (by kernel_rfl);clear hb hbb;subst hJ;rcases i' with _|_|_|_|_|_|_|_|_|_|_|_|_|_|_|_|_|_|_|_|_|i'
     . cases ho;simp +decide (maxDischargeDepth:=200) only[go_sem,Nat.reduceBEq,b0,fF,fC0,fC1,zL,c1,iO,eq,c2,q1,q2,q3,i0,i1,io,dg];exact hk _ (Le.refl _)
     . cases ho;have h15:st.t 15= .x (ai p):=(hn 15 (by decide)).trans (hv 15 (by kernel_rfl));simp +decide (maxDischargeDepth:=200) only[go_sem,Nat.reduceBEq,h15,fF,fC0,fC1,zL,c1,iO,eq,c2,q1,q2,q3,i0,i1,io,dg];exact hk _ (Le.refl _)
     . cases ho;have h16:st.t 16= .x (ai p):=(hn 16 (by decide)).trans (hv 16 (by kernel_rfl));simp +decide (maxDischargeDepth:=200) only[go_sem,Nat.reduceBEq,h16,fF,fC0,fC1,zL,c1,iO,eq,c2,q1,q2,q3,i0,i1,io,dg];exact hk _ (Le.refl _)
     . cases ho;have h17:st.t 17= .x (ai p):=(hn 17 (by decide)).trans (hv 17 (by kernel_rfl));simp +decide (maxDischargeDepth:=200) only[go_sem,Nat.reduceBEq,h17,fF,fC0,fC1,zL,c1,iO,eq,c2,q1,q2,q3,i0,i1,io,dg];exact hk _ (Le.refl _)
     . cases ho;simp +decide (maxDischargeDepth:=200) only[go_sem,Nat.reduceBEq,b5,fF,fC0,fC1,zL,c1,iO,eq,c2,q1,q2,q3,i0,i1,io,dg];exact hk _ (Le.refl _)
     . cases ho;have h18:st.t 18= .x (.slice (some ⟨g,off,none⟩) L.length cap):=(hn 18 (by decide)).trans (hv 18 (by kernel_rfl));have h19:st.t 19= .x (.int .i64 ((i:Nat):Int)):=(hn 19 (by decide)).trans (hv 19 (by kernel_rfl));simp +decide (maxDischargeDepth:=200) only[go_sem,Nat.reduceBEq,h18,h19,fF,fC0,fC1,zL,c1,iO,eq,c2,q1,q2,q3,i0,i1,io,dg];exact hk _ (Le.refl _)
     . cases ho;have h20:st.t 20= .x (.pointer (some ⟨g,off+i*4,none⟩)):=(hn 20 (by decide)).trans (hv 20 (by kernel_rfl));simp +decide (maxDischargeDepth:=200) only[go_sem,Nat.reduceBEq,h20,fF,fC0,fC1,zL,c1,iO,eq,c2,q1,q2,q3,i0,i1,io,dg];exact hk _ (Le.refl _)
     . cases ho;have h21:st.t 21= .x (.pointer (some ⟨g,off+i*4+3,none⟩)):=(hn 21 (by decide)).trans (hv 21 (by kernel_rfl));simp +decide (maxDischargeDepth:=200) only[go_sem,Nat.reduceBEq,h21,fF,fC0,fC1,zL,c1,iO,eq,c2,q1,q2,q3,i0,i1,io,dg];exact hk _ (Le.refl _)
     . cases ho;have h22:st.t 22= .x (.int .i64 x.2):=(hn 22 (by decide)).trans (hv 22 (by kernel_rfl));simp +decide (maxDischargeDepth:=200) only[go_sem,Nat.reduceBEq,h22,fF,fC0,fC1,zL,c1,iO,eq,c2,q1,q2,q3,i0,i1,io,dg];exact hk _ (Le.refl _)
     . cases ho;have h23:st.t 23= .x (.bool false):=(hn 23 (by decide)).trans (hv 23 (by kernel_rfl));simp +decide (maxDischargeDepth:=200) only[go_sem,Nat.reduceBEq,h23,fF,fC0,fC1,zL,c1,iO,eq,c2,q1,q2,q3,i0,i1,io,dg];exact hk _ (Le.refl _)
     . cases ho;have h24:st.t 24= .x (.bool false):=(hn 24 (by decide)).trans (hv 24 (by kernel_rfl));simp +decide (maxDischargeDepth:=200) only[go_sem,Nat.reduceBEq,b0,h24,fF,fC0,fC1,zL,c1,iO,eq,c2,q1,q2,q3,i0,i1,io,dg];exact hk _ (Le.refl _)
     . cases ho;have h25:st.t 25= .x (.tuple #[]):=(hn 25 (by decide)).trans (hv 25 (by kernel_rfl));have h24:st.t 24= .x (.bool false):=(hn 24 (by decide)).trans (hv 24 (by kernel_rfl));simp +decide (maxDischargeDepth:=200) only[go_sem,Nat.reduceBEq,h25,h24,fF,fC0,fC1,zL,c1,iO,eq,c2,q1,q2,q3,i0,i1,io,dg];exact hk _ (Le.refl _)
     . cases ho;have h26:st.t 26= .x (.tuple #[]):=(hn 26 (by decide)).trans (hv 26 (by kernel_rfl));have h24:st.t 24= .x (.bool false):=(hn 24 (by decide)).trans (hv 24 (by kernel_rfl));simp +decide (maxDischargeDepth:=200) only[go_sem,Nat.reduceBEq,h26,h24,fF,fC0,fC1,zL,c1,iO,eq,c2,q1,q2,q3,i0,i1,io,dg];exact hk _ (Le.refl _)
     . cases ho;have h27:st.t 27= .x (.tuple #[]):=(hn 27 (by decide)).trans (hv 27 (by kernel_rfl));have h24:st.t 24= .x (.bool false):=(hn 24 (by decide)).trans (hv 24 (by kernel_rfl));simp +decide (maxDischargeDepth:=200) only[go_sem,Nat.reduceBEq,h27,h24,fF,fC0,fC1,zL,c1,iO,eq,c2,q1,q2,q3,i0,i1,io,dg];exact hk _ (Le.refl _)
     . cases ho;have h24:st.t 24= .x (.bool false):=(hn 24 (by decide)).trans (hv 24 (by kernel_rfl));simp +decide (maxDischargeDepth:=200) only[go_sem,Nat.reduceBEq,b5,h24,fF,fC0,fC1,zL,c1,iO,eq,c2,q1,q2,q3,i0,i1,io,dg];exact hk _ (Le.refl _)
     . cases ho;have h28:st.t 28= .x (.tuple #[]):=(hn 28 (by decide)).trans (hv 28 (by kernel_rfl));have h29:st.t 29= .x (.tuple #[]):=(hn 29 (by decide)).trans (hv 29 (by kernel_rfl));have h24:st.t 24= .x (.bool false):=(hn 24 (by decide)).trans (hv 24 (by kernel_rfl));simp +decide (maxDischargeDepth:=200) only[go_sem,Nat.reduceBEq,h28,h29,h24,fF,fC0,fC1,zL,c1,iO,eq,c2,q1,q2,q3,i0,i1,io,dg];exact hk _ (Le.refl _)
     . cases ho;have h30:st.t 30= .x (.tuple #[]):=(hn 30 (by decide)).trans (hv 30 (by kernel_rfl));have h24:st.t 24= .x (.bool false):=(hn 24 (by decide)).trans (hv 24 (by kernel_rfl));simp +decide (maxDischargeDepth:=200) only[go_sem,Nat.reduceBEq,h30,h24,fF,fC0,fC1,zL,c1,iO,eq,c2,q1,q2,q3,i0,i1,io,dg];exact hk _ (Le.refl _)
     . cases ho;have h31:st.t 31= .x (.tuple #[]):=(hn 31 (by decide)).trans (hv 31 (by kernel_rfl));have h24:st.t 24= .x (.bool false):=(hn 24 (by decide)).trans (hv 24 (by kernel_rfl));simp +decide (maxDischargeDepth:=200) only[go_sem,Nat.reduceBEq,h31,h24,fF,fC0,fC1,zL,c1,iO,eq,c2,q1,q2,q3,i0,i1,io,dg];exact hk _ (Le.refl _)
     . cases ho;have h24:st.t 24= .x (.bool false):=(hn 24 (by decide)).trans (hv 24 (by kernel_rfl));simp +decide (maxDischargeDepth:=200) only[go_sem,Nat.reduceBEq,b3,bb3,h24,fF,fC0,fC1,zL,c1,iO,eq,c2,q1,q2,q3,i0,i1,io,dg];exact hk _ (Le.refl _)
     . cases ho;have h32:st.t 32= .x (.tuple #[]):=(hn 32 (by decide)).trans (hv 32 (by kernel_rfl));have h33:st.t 33= .x (.tuple #[]):=(hn 33 (by decide)).trans (hv 33 (by kernel_rfl));have h24:st.t 24= .x (.bool false):=(hn 24 (by decide)).trans (hv 24 (by kernel_rfl));simp +decide (maxDischargeDepth:=200) only[go_sem,Nat.reduceBEq,h32,h33,h24,fF,fC0,fC1,zL,c1,iO,eq,c2,q1,q2,q3,i0,i1,io,dg];exact hk _ (Le.refl _)
     . cases ho;have h24:st.t 24= .x (.bool false):=(hn 24 (by decide)).trans (hv 24 (by kernel_rfl));have h34:st.t 34= .x (.tuple #[]):=(hn 34 (by decide)).trans (hv 34 (by kernel_rfl));simp +decide (maxDischargeDepth:=200) only[go_sem,Nat.reduceBEq,h24,h34,fF,fC0,fC1,zL,c1,iO,eq,c2,q1,q2,q3,i0,i1,io,dg];exact hk _ (Le.refl _)
     . cases ho
   . rintro j i' o Hx val st hj ho hJ hv hn hb hbb K' hk;have b0:st.t 0= .x (ai p):=hb 0 (by kernel_rfl);have b3:st.t 3= .ptr 3 0:=hb 3 (by kernel_rfl);have b5:st.t 5= .x (.int .i64 ((i:Nat):Int)):=hb 5 (by kernel_rfl);have bb3:st.b 3=some ([.x (.int .i64 s.1),.x (.int .i64 s.2.1),.x (.int .i64 s.2.2)]):=(Mv hbb 3).trans (by kernel_rfl);clear hb hbb;rcases j with j
     . cases hj
   . rintro Hx val hJ hv;refine⟨[(0,.x (ai p)),(3,.ptr 3 0),(5,.x (.int .i64 ((i:Nat):Int))),(35,.x (.bool false))],[(3,[.x (.int .i64 s.1),.x (.int .i64 s.2.1),.x (.int .i64 s.2.2)])],?_,?_,?_⟩
     . simp +decide only[go_sem,Nat.reduceBEq]<;>(repeat' first|exact aK (by kernel_rfl)|exact(aL (by kernel_rfl)).trans (hv _ (by kernel_rfl))|rfl|constructor)
     . simp +decide only[go_sem,Nat.reduceBEq]<;>(repeat' first|rfl|constructor)
     subst hJ;simp +decide (maxDischargeDepth:=200) only[go_sem,Nat.reduceBEq,cu];refine⟨⟨i+1,hil,fun j y hj hy h0=>?_⟩,⟨?_,?_,rfl⟩,by simp only;omega⟩
     . by_cases e:j=i
       . subst e;rw[hx] at hy;cases hy;exact absurd h0 hn
       . exact hlt j y (by omega) hy h0
     . simp +decide (maxDischargeDepth:=200) only[go_sem,Nat.reduceBEq]
     . simp +decide (maxDischargeDepth:=200) only[go_sem,Nat.reduceBEq]
def Gm (p g off cap i k:Nat) (L:List Ch) (x y:Ch):Nat->V
 |34=> .x (.int .i64 ((k:Nat):Int))
 |35=> .x (.int .i64 ((i:Nat):Int))
 |36=> .x (.bool true)
 |37=> .x (.bool true)
 |38=> .x (ai p)
 |39=> .x (ai p)
 |40=> .x (ai p)
 |41=> .x (.slice (some ⟨g,off,none⟩) L.length cap)
 |42=> .x (.int .i64 ((k:Nat):Int))
 |43=> .x (.pointer (some ⟨g,off+k*4,none⟩))
 |44=> .x (.pointer (some ⟨g,off+k*4+3,none⟩))
 |45=> .x (.int .i64 y.2)
 |46=> .x (.bool true)
 |47=> .x (.bool true)
 |48=> .x (.bool true)
 |49=> .x (ai p)
 |50=> .x (ai p)
 |51=> .x (ai p)
 |52=> .x (.slice (some ⟨g,off,none⟩) L.length cap)
 |53=> .x (.int .i64 ((k:Nat):Int))
 |54=> .x (.pointer (some ⟨g,off+k*4,none⟩))
 |55=> .x (.pointer (some ⟨g,off+k*4,none⟩))
 |56=> .agg [.x (.int .i64 y.1.1),.x (.int .i64 y.1.2.1),.x (.int .i64 y.1.2.2)]
 |57=> .x (ai p)
 |58=> .x (ai p)
 |59=> .x (ai p)
 |60=> .x (.slice (some ⟨g,off,none⟩) L.length cap)
 |61=> .x (.int .i64 ((i:Nat):Int))
 |62=> .x (.pointer (some ⟨g,off+i*4,none⟩))
 |63=> .x (.pointer (some ⟨g,off+i*4,none⟩))
 |64=> .agg [.x (.int .i64 x.1.1),.x (.int .i64 x.1.2.1),.x (.int .i64 x.1.2.2)]
 |65=> .x (.bool (al y.1 x.1))
 |66=> .x (.bool (al y.1 x.1))
 |_=> .undef
def Gn (p g off cap i k:Nat) (L:List Ch) (_x y:Ch):Nat->V
 |34=> .x (.int .i64 ((k:Nat):Int))
 |35=> .x (.int .i64 ((i:Nat):Int))
 |36=> .x (.bool true)
 |37=> .x (.bool true)
 |38=> .x (ai p)
 |39=> .x (ai p)
 |40=> .x (ai p)
 |41=> .x (.slice (some ⟨g,off,none⟩) L.length cap)
 |42=> .x (.int .i64 ((k:Nat):Int))
 |43=> .x (.pointer (some ⟨g,off+k*4,none⟩))
 |44=> .x (.pointer (some ⟨g,off+k*4+3,none⟩))
 |45=> .x (.int .i64 y.2)
 |46=> .x (.bool false)
 |47=> .x (.bool false)
 |48=> .x (.bool false)
 |49=> .x (.tuple #[])
 |50=> .x (.tuple #[])
 |51=> .x (.tuple #[])
 |52=> .x (.tuple #[])
 |53=> .x (.tuple #[])
 |54=> .x (.tuple #[])
 |55=> .x (.tuple #[])
 |56=> .x (.tuple #[])
 |57=> .x (.tuple #[])
 |58=> .x (.tuple #[])
 |59=> .x (.tuple #[])
 |60=> .x (.tuple #[])
 |61=> .x (.tuple #[])
 |62=> .x (.tuple #[])
 |63=> .x (.tuple #[])
 |64=> .x (.tuple #[])
 |65=> .x (.tuple #[])
 |66=> .x (.bool false)
 |_=> .undef
def Gp (_p _g _off _cap i k:Nat) (_L:List Ch) (_x _y:Ch):Nat->V
 |34=> .x (.int .i64 ((k:Nat):Int))
 |35=> .x (.int .i64 ((i:Nat):Int))
 |36=> .x (.bool false)
 |37=> .x (.bool false)
 |38=> .x (.tuple #[])
 |39=> .x (.tuple #[])
 |40=> .x (.tuple #[])
 |41=> .x (.tuple #[])
 |42=> .x (.tuple #[])
 |43=> .x (.tuple #[])
 |44=> .x (.tuple #[])
 |45=> .x (.tuple #[])
 |46=> .x (.tuple #[])
 |47=> .x (.bool false)
 |48=> .x (.bool false)
 |49=> .x (.tuple #[])
 |50=> .x (.tuple #[])
 |51=> .x (.tuple #[])
 |52=> .x (.tuple #[])
 |53=> .x (.tuple #[])
 |54=> .x (.tuple #[])
 |55=> .x (.tuple #[])
 |56=> .x (.tuple #[])
 |57=> .x (.tuple #[])
 |58=> .x (.tuple #[])
 |59=> .x (.tuple #[])
 |60=> .x (.tuple #[])
 |61=> .x (.tuple #[])
 |62=> .x (.tuple #[])
 |63=> .x (.tuple #[])
 |64=> .x (.tuple #[])
 |65=> .x (.tuple #[])
 |66=> .x (.bool false)
 |_=> .undef
theorem gJ:cE (bO [(15,aw),(16,aq)] [] [] (fun _=>false) (fun _=>false)) 10 (mZ RFr):=by
 refine cP (F:={F:=fun _=>none,D:=fun _=>false,any:=fun i=>i==9}) (n:=80) (k:=1) (aZ [(15,aw),(16,aq)] [] [] _ _ ⟨di,dl,trivial⟩ trivial trivial) (by kernel_rfl) (fun f C e=>by cases e) (fun t s C e=>by cases e) Try.func10 rfl (fun a w=>Try.call10 a w) Try.ntmps10 (by decide) (by decide) (by kernel_rfl) ?_;rintro us H T ⟨p,c,k0,F,rfl,⟨L,ad,cap,hp,hr,hne,hS,hz,hc,⟨hk,hk1⟩,rfl⟩,hk2,hT⟩ hdat;clear hdat;refine⟨rfl,?_⟩;have fF:fg Try.prog 33 0=some 0:=by kernel_rfl
 have fC0:fg Try.prog 44 0=some 0:=by kernel_rfl
 have fC1:fg Try.prog 44 1=some 3:=by kernel_rfl
 have zL:wf Try.prog 31=some 4:=by kernel_rfl
 have c1:=ah hp;simp +decide (maxDischargeDepth:=200) only[go_sem,Nat.reduceBEq];refine lR 3 3 78 (by simp only[go_sem];rfl) ?_;refine bz (X:={i:Nat//i<=L.length}) (fun i=>[(0,.x (ai p)),(3,.sl ((bl L i.1).map ay).isEmpty 3 ((bl L i.1).map ay) (some 78)),(4,.x (.int .i64 ((i.1:Nat):Int)))]) (fun _=>[]) (fun _ Hx=>H=Hx) (fun i=>L.length-i.1) ⟨0,LQ _⟩ (by simp +decide only[go_sem,Nat.reduceBEq,bl,Nz,List.filter_nil,Ol,Mc]<;>(repeat' first|rfl|constructor)) (by simp +decide only[go_sem,Nat.reduceBEq,Mc]<;>(repeat' first|rfl|constructor)) rfl ?_;rintro⟨i,hi⟩ H1 rfl;simp only at hi⊢;by_cases hil:i<L.length
 case neg=>
  obtain rfl:i=L.length:=by omega
  have d0:decide ((L.length:Int)<(L.length:Int))=false:=LO (by omega);have e:=hT (bl L L.length) ((bl L L.length).map ay).isEmpty 3 (l4 hS hc) (fun h=>by simpa using h) (fun _=>rfl) (tl (gI _ _) hk);simp +decide (maxDischargeDepth:=200) only[go_sem,Nat.reduceBEq,fF,fC0,fC1,zL,c1,iO,eq,d0];exact e
 obtain⟨x,hx⟩:∃x,L[i]?=some x:=⟨_,Io hil⟩;obtain⟨g,off,C,ty,rfl,c2,hC1,hC2,hC3⟩:=f9 hr (fun e=>by rw[e] at hil;simp at hil);obtain⟨q3,q2,q4⟩:=cV hC3 hx;have q1:off+i*4+3<=C.length:=by omega
 have i0:(0:Int)<=(i:Int):=by omega
 have i1:(i:Int)<(L.length:Int):=by omega
 have d0:decide ((i:Int)<(L.length:Int))=true:=LP (by omega);have cu:=be (i:=i) (by omega :i<9223372036854775807);have dk0:ie L x 0=decide (0<x.2):=by simp[ie]
 simp +decide (maxDischargeDepth:=200) only[go_sem,Nat.reduceBEq,fF,fC0,fC1,zL,c1,iO,eq,c2,q1,q2,q3,i0,i1,io,d0,<-dk0];refine bz (X:={k:Nat//k<=L.length}) (fun k=>[(0,.x (ai p)),(3,.sl ((bl L i).map ay).isEmpty 3 ((bl L i).map ay) (some 78)),(4,.x (.int .i64 ((i:Nat):Int))),(5,.x (.bool (ie L x k.1))),(6,.x (.int .i64 ((k.1:Nat):Int)))]) (fun _=>[]) (fun _ Hx=>H=Hx) (fun k=>L.length-k.1) ⟨0,LQ _⟩ (by simp +decide only[go_sem,Nat.reduceBEq,Mc]<;>(repeat' first|rfl|constructor)) (by simp +decide only[go_sem,Nat.reduceBEq,Mc]<;>(repeat' first|rfl|constructor)) rfl ?_;rintro⟨k,hkl⟩ H1 rfl;simp only at hkl⊢;by_cases hkk:k<L.length
 case neg=>
  obtain rfl:k=L.length:=by omega
  have dk:decide ((L.length:Int)<(L.length:Int))=false:=LO (by omega);have hs:=pr hx;cases hok:ie L x L.length
  . rw[hok,L1 (by simp),MV] at hs;simp +decide (maxDischargeDepth:=200) only[go_sem,Nat.reduceBEq,fF,fC0,fC1,zL,c1,iO,eq,c2,q1,q2,q3,i0,i1,io,dk,hok,cu];refine⟨⟨i+1,hil⟩,⟨?_,?_,rfl⟩,by simp only;omega⟩
    . simp +decide (maxDischargeDepth:=200) only[go_sem,Nat.reduceBEq,hs]
    . simp +decide (maxDischargeDepth:=200) only[go_sem,Nat.reduceBEq]
  . rw[hok,L0 rfl] at hs;have hls:=gI L i;have g1:∀st d tok nl t',ft (bO [(15,aw),(16,aq)] [] [] (fun _=>false) (fun _=>false)) st (some d) 24 (.sl ((bl L i).map ay).isEmpty 3 ((bl L i).map ay) (some tok)) (.sl nl 3 [.agg [.x (.int .i64 x.1.1),.x (.int .i64 x.1.2.1),.x (.int .i64 x.1.2.2)]] t')=some ⟨au (strip tok (strip d st.t)) d (.sl false 3 ((bl L i).map ay++[.agg [.x (.int .i64 x.1.1),.x (.int .i64 x.1.2.1),.x (.int .i64 x.1.2.2)]]) (some d)),aD (bO [(15,aw),(16,aq)] [] [] (fun _=>false) (fun _=>false)) tok (aD (bO [(15,aw),(16,aq)] [] [] (fun _=>false) (fun _=>false)) d st.b)⟩:=fun st d tok nl t'=>lK (E:=(bO [(15,aw),(16,aq)] [] [] (fun _=>false) (fun _=>false))) (el:=24) (n:=3) Db Dc Dd (by decide) rfl (es:=(bl L i).map ay) (v:= .agg [.x (.int .i64 x.1.1),.x (.int .i64 x.1.2.1),.x (.int .i64 x.1.2.2)]) rfl (by rw[eq];omega) (by rw[eq];omega) st d tok nl t'
    have hs2:(bl L i).map ay++[.agg [.x (.int .i64 x.1.1),.x (.int .i64 x.1.2.1),.x (.int .i64 x.1.2.2)]]=(bl L (i+1)).map ay:=by rw[hs,M8];rfl
    have hs3:((bl L (i+1)).map ay).isEmpty=false:=by rw[<-hs2];exact gE _ _
    simp +decide (maxDischargeDepth:=200) only[go_sem,Nat.reduceBEq,fF,fC0,fC1,zL,c1,iO,eq,c2,q1,q2,q3,i0,i1,io,dk,hok,cu,g1,hs2];refine⟨⟨i+1,hil⟩,⟨?_,?_,rfl⟩,by simp only;omega⟩
    . simp +decide (maxDischargeDepth:=200) only[go_sem,Nat.reduceBEq,hs3]
    . simp +decide (maxDischargeDepth:=200) only[go_sem,Nat.reduceBEq]
 obtain⟨y,hy⟩:∃y,L[k]?=some y:=⟨_,Io hkk⟩;obtain⟨r3,r2,r4⟩:=cV hC3 hy;have r1:off+k*4+3<=C.length:=by omega
 have k0':(0:Int)<=(k:Int):=by omega
 have k1':(k:Int)<(L.length:Int):=by omega
 have dk:decide ((k:Int)<(L.length:Int))=true:=LP (by omega);have ck:=be (i:=k) (by omega :k<9223372036854775807);have hsucc:=vM (x:=x) hy;by_cases hki:k=i
 . have dq:decide ((k:Int)=(i:Int))=true:=LP (by omega);have hA:jq x y=true:=by subst hki;rw[hx] at hy;cases hy;simp[jq,dB.2 rfl]
   rw[hA,Ns] at hsucc;simp +decide (maxDischargeDepth:=200) only[go_sem,Nat.reduceBEq,fF,fC0,fC1,zL,c1,iO,eq,dk];refine aG (fun k=>match k with|2=>[34,35]|3=>[36]|4=>[37]|5=>[38,37]|6=>[39,37]|7=>[40,37]|8=>[37]|9=>[41,42,37]|10=>[43,37]|11=>[44,37]|12=>[45,37]|13=>[37,46]|14=>[47]|15=>[48]|16=>[49,48]|17=>[50,48]|18=>[51,48]|19=>[48]|20=>[52,53,48]|21=>[54,48]|22=>[55,48]|23=>[48]|24=>[57,48]|25=>[58,48]|26=>[59,48]|27=>[48]|28=>[60,61,48]|29=>[62,48]|30=>[63,48]|31=>[56,64,48]|32=>[48,65]|_=>[]) [] (fun k=>match k with|_=>0) (fun _ Hx _=>H=Hx) (Gp p g off cap i k L x y) (by kernel_rfl) (by kernel_rfl) (by kernel_rfl) rfl ?_ ?_ ?_
   . rintro j i' o Hx val st ho hW hj hJ hv hn hb hbb K' hk;have b0:st.t 0= .x (ai p):=hb 0 (by kernel_rfl);have b4:st.t 4= .x (.int .i64 ((i:Nat):Int)):=hb 4 (by kernel_rfl);have b6:st.t 6= .x (.int .i64 ((k:Nat):Int)):=hb 6 (by kernel_rfl);clear hb hbb;subst hJ;rcases i' with _|_|_|_|_|_|_|_|_|_|_|_|_|_|_|_|_|_|_|_|_|_|_|_|_|_|_|_|_|_|_|_|_|i'
     . cases ho;simp +decide (maxDischargeDepth:=200) only[go_sem,Nat.reduceBEq,b6,fF,fC0,fC1,zL,c1,iO,eq,c2,q1,q2,q3,i0,i1,io,r1,r2,r3,k0',k1',dq];exact hk _ (Le.refl _)
     . cases ho;simp +decide (maxDischargeDepth:=200) only[go_sem,Nat.reduceBEq,b4,fF,fC0,fC1,zL,c1,iO,eq,c2,q1,q2,q3,i0,i1,io,r1,r2,r3,k0',k1',dq];exact hk _ (Le.refl _)
     . cases ho;have h34:st.t 34= .x (.int .i64 ((k:Nat):Int)):=(hn 34 (by decide)).trans (hv 34 (by kernel_rfl));have h35:st.t 35= .x (.int .i64 ((i:Nat):Int)):=(hn 35 (by decide)).trans (hv 35 (by kernel_rfl));simp +decide (maxDischargeDepth:=200) only[go_sem,Nat.reduceBEq,h34,h35,fF,fC0,fC1,zL,c1,iO,eq,c2,q1,q2,q3,i0,i1,io,r1,r2,r3,k0',k1',dq];exact hk _ (Le.refl _)
     . cases ho;have h36:st.t 36= .x (.bool false):=(hn 36 (by decide)).trans (hv 36 (by kernel_rfl));simp +decide (maxDischargeDepth:=200) only[go_sem,Nat.reduceBEq,h36,fF,fC0,fC1,zL,c1,iO,eq,c2,q1,q2,q3,i0,i1,io,r1,r2,r3,k0',k1',dq];exact hk _ (Le.refl _)
     . cases ho;have h37:st.t 37= .x (.bool false):=(hn 37 (by decide)).trans (hv 37 (by kernel_rfl));simp +decide (maxDischargeDepth:=200) only[go_sem,Nat.reduceBEq,b0,h37,fF,fC0,fC1,zL,c1,iO,eq,c2,q1,q2,q3,i0,i1,io,r1,r2,r3,k0',k1',dq];exact hk _ (Le.refl _)
     . cases ho;have h38:st.t 38= .x (.tuple #[]):=(hn 38 (by decide)).trans (hv 38 (by kernel_rfl));have h37:st.t 37= .x (.bool false):=(hn 37 (by decide)).trans (hv 37 (by kernel_rfl));simp +decide (maxDischargeDepth:=200) only[go_sem,Nat.reduceBEq,h38,h37,fF,fC0,fC1,zL,c1,iO,eq,c2,q1,q2,q3,i0,i1,io,r1,r2,r3,k0',k1',dq];exact hk _ (Le.refl _)
     . cases ho;have h39:st.t 39= .x (.tuple #[]):=(hn 39 (by decide)).trans (hv 39 (by kernel_rfl));have h37:st.t 37= .x (.bool false):=(hn 37 (by decide)).trans (hv 37 (by kernel_rfl));simp +decide (maxDischargeDepth:=200) only[go_sem,Nat.reduceBEq,h39,h37,fF,fC0,fC1,zL,c1,iO,eq,c2,q1,q2,q3,i0,i1,io,r1,r2,r3,k0',k1',dq];exact hk _ (Le.refl _)
     . cases ho;have h40:st.t 40= .x (.tuple #[]):=(hn 40 (by decide)).trans (hv 40 (by kernel_rfl));have h37:st.t 37= .x (.bool false):=(hn 37 (by decide)).trans (hv 37 (by kernel_rfl));simp +decide (maxDischargeDepth:=200) only[go_sem,Nat.reduceBEq,h40,h37,fF,fC0,fC1,zL,c1,iO,eq,c2,q1,q2,q3,i0,i1,io,r1,r2,r3,k0',k1',dq];exact hk _ (Le.refl _)
     . cases ho;have h37:st.t 37= .x (.bool false):=(hn 37 (by decide)).trans (hv 37 (by kernel_rfl));simp +decide (maxDischargeDepth:=200) only[go_sem,Nat.reduceBEq,b6,h37,fF,fC0,fC1,zL,c1,iO,eq,c2,q1,q2,q3,i0,i1,io,r1,r2,r3,k0',k1',dq];exact hk _ (Le.refl _)
     . cases ho;have h41:st.t 41= .x (.tuple #[]):=(hn 41 (by decide)).trans (hv 41 (by kernel_rfl));have h42:st.t 42= .x (.tuple #[]):=(hn 42 (by decide)).trans (hv 42 (by kernel_rfl));have h37:st.t 37= .x (.bool false):=(hn 37 (by decide)).trans (hv 37 (by kernel_rfl));simp +decide (maxDischargeDepth:=200) only[go_sem,Nat.reduceBEq,h41,h42,h37,fF,fC0,fC1,zL,c1,iO,eq,c2,q1,q2,q3,i0,i1,io,r1,r2,r3,k0',k1',dq];exact hk _ (Le.refl _)
     . cases ho;have h43:st.t 43= .x (.tuple #[]):=(hn 43 (by decide)).trans (hv 43 (by kernel_rfl));have h37:st.t 37= .x (.bool false):=(hn 37 (by decide)).trans (hv 37 (by kernel_rfl));simp +decide (maxDischargeDepth:=200) only[go_sem,Nat.reduceBEq,h43,h37,fF,fC0,fC1,zL,c1,iO,eq,c2,q1,q2,q3,i0,i1,io,r1,r2,r3,k0',k1',dq];exact hk _ (Le.refl _)
     . cases ho;have h44:st.t 44= .x (.tuple #[]):=(hn 44 (by decide)).trans (hv 44 (by kernel_rfl));have h37:st.t 37= .x (.bool false):=(hn 37 (by decide)).trans (hv 37 (by kernel_rfl));simp +decide (maxDischargeDepth:=200) only[go_sem,Nat.reduceBEq,h44,h37,fF,fC0,fC1,zL,c1,iO,eq,c2,q1,q2,q3,i0,i1,io,r1,r2,r3,k0',k1',dq];exact hk _ (Le.refl _)
     . cases ho;have h45:st.t 45= .x (.tuple #[]):=(hn 45 (by decide)).trans (hv 45 (by kernel_rfl));have h37:st.t 37= .x (.bool false):=(hn 37 (by decide)).trans (hv 37 (by kernel_rfl));simp +decide (maxDischargeDepth:=200) only[go_sem,Nat.reduceBEq,h45,h37,fF,fC0,fC1,zL,c1,iO,eq,c2,q1,q2,q3,i0,i1,io,r1,r2,r3,k0',k1',dq];exact hk _ (Le.refl _)
     . cases ho;have h37:st.t 37= .x (.bool false):=(hn 37 (by decide)).trans (hv 37 (by kernel_rfl));have h46:st.t 46= .x (.tuple #[]):=(hn 46 (by decide)).trans (hv 46 (by kernel_rfl));simp +decide (maxDischargeDepth:=200) only[go_sem,Nat.reduceBEq,h37,h46,fF,fC0,fC1,zL,c1,iO,eq,c2,q1,q2,q3,i0,i1,io,r1,r2,r3,k0',k1',dq];exact hk _ (Le.refl _)
     . cases ho;have h47:st.t 47= .x (.bool false):=(hn 47 (by decide)).trans (hv 47 (by kernel_rfl));simp +decide (maxDischargeDepth:=200) only[go_sem,Nat.reduceBEq,h47,fF,fC0,fC1,zL,c1,iO,eq,c2,q1,q2,q3,i0,i1,io,r1,r2,r3,k0',k1',dq];exact hk _ (Le.refl _)
     . cases ho;have h48:st.t 48= .x (.bool false):=(hn 48 (by decide)).trans (hv 48 (by kernel_rfl));simp +decide (maxDischargeDepth:=200) only[go_sem,Nat.reduceBEq,b0,h48,fF,fC0,fC1,zL,c1,iO,eq,c2,q1,q2,q3,i0,i1,io,r1,r2,r3,k0',k1',dq];exact hk _ (Le.refl _)
     . cases ho;have h49:st.t 49= .x (.tuple #[]):=(hn 49 (by decide)).trans (hv 49 (by kernel_rfl));have h48:st.t 48= .x (.bool false):=(hn 48 (by decide)).trans (hv 48 (by kernel_rfl));simp +decide (maxDischargeDepth:=200) only[go_sem,Nat.reduceBEq,h49,h48,fF,fC0,fC1,zL,c1,iO,eq,c2,q1,q2,q3,i0,i1,io,r1,r2,r3,k0',k1',dq];exact hk _ (Le.refl _)
     . cases ho;have h50:st.t 50= .x (.tuple #[]):=(hn 50 (by decide)).trans (hv 50 (by kernel_rfl));have h48:st.t 48= .x (.bool false):=(hn 48 (by decide)).trans (hv 48 (by kernel_rfl));simp +decide (maxDischargeDepth:=200) only[go_sem,Nat.reduceBEq,h50,h48,fF,fC0,fC1,zL,c1,iO,eq,c2,q1,q2,q3,i0,i1,io,r1,r2,r3,k0',k1',dq];exact hk _ (Le.refl _)
     . cases ho;have h51:st.t 51= .x (.tuple #[]):=(hn 51 (by decide)).trans (hv 51 (by kernel_rfl));have h48:st.t 48= .x (.bool false):=(hn 48 (by decide)).trans (hv 48 (by kernel_rfl));simp +decide (maxDischargeDepth:=200) only[go_sem,Nat.reduceBEq,h51,h48,fF,fC0,fC1,zL,c1,iO,eq,c2,q1,q2,q3,i0,i1,io,r1,r2,r3,k0',k1',dq];exact hk _ (Le.refl _)
     . cases ho;have h48:st.t 48= .x (.bool false):=(hn 48 (by decide)).trans (hv 48 (by kernel_rfl));simp +decide (maxDischargeDepth:=200) only[go_sem,Nat.reduceBEq,b6,h48,fF,fC0,fC1,zL,c1,iO,eq,c2,q1,q2,q3,i0,i1,io,r1,r2,r3,k0',k1',dq];exact hk _ (Le.refl _)
     . cases ho;have h52:st.t 52= .x (.tuple #[]):=(hn 52 (by decide)).trans (hv 52 (by kernel_rfl));have h53:st.t 53= .x (.tuple #[]):=(hn 53 (by decide)).trans (hv 53 (by kernel_rfl));have h48:st.t 48= .x (.bool false):=(hn 48 (by decide)).trans (hv 48 (by kernel_rfl));simp +decide (maxDischargeDepth:=200) only[go_sem,Nat.reduceBEq,h52,h53,h48,fF,fC0,fC1,zL,c1,iO,eq,c2,q1,q2,q3,i0,i1,io,r1,r2,r3,k0',k1',dq];exact hk _ (Le.refl _)
     . cases ho;have h54:st.t 54= .x (.tuple #[]):=(hn 54 (by decide)).trans (hv 54 (by kernel_rfl));have h48:st.t 48= .x (.bool false):=(hn 48 (by decide)).trans (hv 48 (by kernel_rfl));simp +decide (maxDischargeDepth:=200) only[go_sem,Nat.reduceBEq,h54,h48,fF,fC0,fC1,zL,c1,iO,eq,c2,q1,q2,q3,i0,i1,io,r1,r2,r3,k0',k1',dq];exact hk _ (Le.refl _)
     . cases ho;have h55:st.t 55= .x (.tuple #[]):=(hn 55 (by decide)).trans (hv 55 (by kernel_rfl));have h48:st.t 48= .x (.bool false):=(hn 48 (by decide)).trans (hv 48 (by kernel_rfl));simp +decide (maxDischargeDepth:=200) only[go_sem,Nat.reduceBEq,h55,h48,fF,fC0,fC1,zL,c1,iO,eq,c2,q1,q2,q3,i0,i1,io,r1,r2,r3,k0',k1',dq];exact hk _ (Le.refl _)
     . cases ho;have h48:st.t 48= .x (.bool false):=(hn 48 (by decide)).trans (hv 48 (by kernel_rfl));simp +decide (maxDischargeDepth:=200) only[go_sem,Nat.reduceBEq,b0,h48,fF,fC0,fC1,zL,c1,iO,eq,c2,q1,q2,q3,i0,i1,io,r1,r2,r3,k0',k1',dq];exact hk _ (Le.refl _)
     . cases ho;have h57:st.t 57= .x (.tuple #[]):=(hn 57 (by decide)).trans (hv 57 (by kernel_rfl));have h48:st.t 48= .x (.bool false):=(hn 48 (by decide)).trans (hv 48 (by kernel_rfl));simp +decide (maxDischargeDepth:=200) only[go_sem,Nat.reduceBEq,h57,h48,fF,fC0,fC1,zL,c1,iO,eq,c2,q1,q2,q3,i0,i1,io,r1,r2,r3,k0',k1',dq];exact hk _ (Le.refl _)
     . cases ho;have h58:st.t 58= .x (.tuple #[]):=(hn 58 (by decide)).trans (hv 58 (by kernel_rfl));have h48:st.t 48= .x (.bool false):=(hn 48 (by decide)).trans (hv 48 (by kernel_rfl));simp +decide (maxDischargeDepth:=200) only[go_sem,Nat.reduceBEq,h58,h48,fF,fC0,fC1,zL,c1,iO,eq,c2,q1,q2,q3,i0,i1,io,r1,r2,r3,k0',k1',dq];exact hk _ (Le.refl _)
     . cases ho;have h59:st.t 59= .x (.tuple #[]):=(hn 59 (by decide)).trans (hv 59 (by kernel_rfl));have h48:st.t 48= .x (.bool false):=(hn 48 (by decide)).trans (hv 48 (by kernel_rfl));simp +decide (maxDischargeDepth:=200) only[go_sem,Nat.reduceBEq,h59,h48,fF,fC0,fC1,zL,c1,iO,eq,c2,q1,q2,q3,i0,i1,io,r1,r2,r3,k0',k1',dq];exact hk _ (Le.refl _)
     . cases ho;have h48:st.t 48= .x (.bool false):=(hn 48 (by decide)).trans (hv 48 (by kernel_rfl));simp +decide (maxDischargeDepth:=200) only[go_sem,Nat.reduceBEq,b4,h48,fF,fC0,fC1,zL,c1,iO,eq,c2,q1,q2,q3,i0,i1,io,r1,r2,r3,k0',k1',dq];exact hk _ (Le.refl _)
     . cases ho;have h60:st.t 60= .x (.tuple #[]):=(hn 60 (by decide)).trans (hv 60 (by kernel_rfl));have h61:st.t 61= .x (.tuple #[]):=(hn 61 (by decide)).trans (hv 61 (by kernel_rfl));have h48:st.t 48= .x (.bool false):=(hn 48 (by decide)).trans (hv 48 (by kernel_rfl));simp +decide (maxDischargeDepth:=200) only[go_sem,Nat.reduceBEq,h60,h61,h48,fF,fC0,fC1,zL,c1,iO,eq,c2,q1,q2,q3,i0,i1,io,r1,r2,r3,k0',k1',dq];exact hk _ (Le.refl _)
     . cases ho;have h62:st.t 62= .x (.tuple #[]):=(hn 62 (by decide)).trans (hv 62 (by kernel_rfl));have h48:st.t 48= .x (.bool false):=(hn 48 (by decide)).trans (hv 48 (by kernel_rfl));simp +decide (maxDischargeDepth:=200) only[go_sem,Nat.reduceBEq,h62,h48,fF,fC0,fC1,zL,c1,iO,eq,c2,q1,q2,q3,i0,i1,io,r1,r2,r3,k0',k1',dq];exact hk _ (Le.refl _)
     . cases ho;have h63:st.t 63= .x (.tuple #[]):=(hn 63 (by decide)).trans (hv 63 (by kernel_rfl));have h48:st.t 48= .x (.bool false):=(hn 48 (by decide)).trans (hv 48 (by kernel_rfl));simp +decide (maxDischargeDepth:=200) only[go_sem,Nat.reduceBEq,h63,h48,fF,fC0,fC1,zL,c1,iO,eq,c2,q1,q2,q3,i0,i1,io,r1,r2,r3,k0',k1',dq];exact hk _ (Le.refl _)
     . cases ho;have h56:st.t 56= .x (.tuple #[]):=(hn 56 (by decide)).trans (hv 56 (by kernel_rfl));have h64:st.t 64= .x (.tuple #[]):=(hn 64 (by decide)).trans (hv 64 (by kernel_rfl));have h48:st.t 48= .x (.bool false):=(hn 48 (by decide)).trans (hv 48 (by kernel_rfl));simp +decide (maxDischargeDepth:=200) only[go_sem,Nat.reduceBEq,h56,h64,h48,fF,fC0,fC1,zL,c1,iO,eq,c2,q1,q2,q3,i0,i1,io,r1,r2,r3,k0',k1',dq];exact hk _ (Le.refl _)
     . cases ho;have h48:st.t 48= .x (.bool false):=(hn 48 (by decide)).trans (hv 48 (by kernel_rfl));have h65:st.t 65= .x (.tuple #[]):=(hn 65 (by decide)).trans (hv 65 (by kernel_rfl));simp +decide (maxDischargeDepth:=200) only[go_sem,Nat.reduceBEq,h48,h65,fF,fC0,fC1,zL,c1,iO,eq,c2,q1,q2,q3,i0,i1,io,r1,r2,r3,k0',k1',dq];exact hk _ (Le.refl _)
     . cases ho
   . rintro j i' o Hx val st hj ho hJ hv hn hb hbb K' hk;have b0:st.t 0= .x (ai p):=hb 0 (by kernel_rfl);have b4:st.t 4= .x (.int .i64 ((i:Nat):Int)):=hb 4 (by kernel_rfl);have b6:st.t 6= .x (.int .i64 ((k:Nat):Int)):=hb 6 (by kernel_rfl);clear hb hbb;rcases j with j
     . cases hj
   . rintro Hx val hJ hv;refine⟨[(0,.x (ai p)),(3,.sl ((bl L i).map ay).isEmpty 3 ((bl L i).map ay) (some 78)),(4,.x (.int .i64 ((i:Nat):Int))),(5,.x (.bool (ie L x k))),(6,.x (.int .i64 ((k:Nat):Int))),(66,.x (.bool false))],[],?_,?_,?_⟩
     . simp +decide only[go_sem,Nat.reduceBEq]<;>(repeat' first|exact aK (by kernel_rfl)|exact(aL (by kernel_rfl)).trans (hv _ (by kernel_rfl))|rfl|constructor)
     . simp +decide only[go_sem,Nat.reduceBEq]<;>(repeat' first|rfl|constructor)
     subst hJ;simp +decide (maxDischargeDepth:=200) only[go_sem,Nat.reduceBEq,ck];refine⟨⟨k+1,hkk⟩,⟨?_,?_,rfl⟩,by simp only;omega⟩
     . simp +decide (maxDischargeDepth:=200) only[go_sem,Nat.reduceBEq,hsucc]
     . simp +decide (maxDischargeDepth:=200) only[go_sem,Nat.reduceBEq]
 . have dq:decide ((k:Int)=(i:Int))=false:=LO (by omega);have hne2:bD y.1 x.1=false:=ib.2 (fun e=>hki (Cf hS hy hx e));by_cases hn:0<y.2
   . have dg:=LP hn;have hA:jq x y= !al y.1 x.1:=by simp[jq,hne2,hn]
     rw[hA] at hsucc;simp +decide (maxDischargeDepth:=200) only[go_sem,Nat.reduceBEq,fF,fC0,fC1,zL,c1,iO,eq,dk];refine aG (fun k=>match k with|2=>[34,35]|3=>[36]|4=>[37]|5=>[38,37]|6=>[39,37]|7=>[40,37]|8=>[37]|9=>[41,42,37]|10=>[43,37]|11=>[44,37]|12=>[45,37]|13=>[37,46]|14=>[47]|15=>[48]|16=>[49,48]|17=>[50,48]|18=>[51,48]|19=>[48]|20=>[52,53,48]|21=>[54,48]|22=>[55,48]|23=>[48]|24=>[57,48]|25=>[58,48]|26=>[59,48]|27=>[48]|28=>[60,61,48]|29=>[62,48]|30=>[63,48]|31=>[56,64,48]|32=>[48,65]|_=>[]) [] (fun k=>match k with|_=>0) (fun _ Hx _=>H=Hx) (Gm p g off cap i k L x y) (by kernel_rfl) (by kernel_rfl) (by kernel_rfl) rfl ?_ ?_ ?_
     . rintro j i' o Hx val st ho hW hj hJ hv hn hb hbb K' hk;have b0:st.t 0= .x (ai p):=hb 0 (by kernel_rfl);have b4:st.t 4= .x (.int .i64 ((i:Nat):Int)):=hb 4 (by kernel_rfl);have b6:st.t 6= .x (.int .i64 ((k:Nat):Int)):=hb 6 (by kernel_rfl);clear hb hbb;subst hJ;rcases i' with _|_|_|_|_|_|_|_|_|_|_|_|_|_|_|_|_|_|_|_|_|_|_|_|_|_|_|_|_|_|_|_|_|i'
       . cases ho;simp +decide (maxDischargeDepth:=200) only[go_sem,Nat.reduceBEq,b6,fF,fC0,fC1,zL,c1,iO,eq,c2,q1,q2,q3,i0,i1,io,r1,r2,r3,k0',k1',dq,dg,aq,al];exact hk _ (Le.refl _)
       . cases ho;simp +decide (maxDischargeDepth:=200) only[go_sem,Nat.reduceBEq,b4,fF,fC0,fC1,zL,c1,iO,eq,c2,q1,q2,q3,i0,i1,io,r1,r2,r3,k0',k1',dq,dg,aq,al];exact hk _ (Le.refl _)
       . cases ho;have h34:st.t 34= .x (.int .i64 ((k:Nat):Int)):=(hn 34 (by decide)).trans (hv 34 (by kernel_rfl));have h35:st.t 35= .x (.int .i64 ((i:Nat):Int)):=(hn 35 (by decide)).trans (hv 35 (by kernel_rfl));simp +decide (maxDischargeDepth:=200) only[go_sem,Nat.reduceBEq,h34,h35,fF,fC0,fC1,zL,c1,iO,eq,c2,q1,q2,q3,i0,i1,io,r1,r2,r3,k0',k1',dq,dg,aq,al];exact hk _ (Le.refl _)
       . cases ho;have h36:st.t 36= .x (.bool true):=(hn 36 (by decide)).trans (hv 36 (by kernel_rfl));simp +decide (maxDischargeDepth:=200) only[go_sem,Nat.reduceBEq,h36,fF,fC0,fC1,zL,c1,iO,eq,c2,q1,q2,q3,i0,i1,io,r1,r2,r3,k0',k1',dq,dg,aq,al];exact hk _ (Le.refl _)
       . cases ho;have h37:st.t 37= .x (.bool true):=(hn 37 (by decide)).trans (hv 37 (by kernel_rfl));simp +decide (maxDischargeDepth:=200) only[go_sem,Nat.reduceBEq,b0,h37,fF,fC0,fC1,zL,c1,iO,eq,c2,q1,q2,q3,i0,i1,io,r1,r2,r3,k0',k1',dq,dg,aq,al];exact hk _ (Le.refl _)
       . cases ho;have h38:st.t 38= .x (ai p):=(hn 38 (by decide)).trans (hv 38 (by kernel_rfl));have h37:st.t 37= .x (.bool true):=(hn 37 (by decide)).trans (hv 37 (by kernel_rfl));simp +decide (maxDischargeDepth:=200) only[go_sem,Nat.reduceBEq,h38,h37,fF,fC0,fC1,zL,c1,iO,eq,c2,q1,q2,q3,i0,i1,io,r1,r2,r3,k0',k1',dq,dg,aq,al];exact hk _ (Le.refl _)
       . cases ho;have h39:st.t 39= .x (ai p):=(hn 39 (by decide)).trans (hv 39 (by kernel_rfl));have h37:st.t 37= .x (.bool true):=(hn 37 (by decide)).trans (hv 37 (by kernel_rfl));simp +decide (maxDischargeDepth:=200) only[go_sem,Nat.reduceBEq,h39,h37,fF,fC0,fC1,zL,c1,iO,eq,c2,q1,q2,q3,i0,i1,io,r1,r2,r3,k0',k1',dq,dg,aq,al];exact hk _ (Le.refl _)
       . cases ho;have h40:st.t 40= .x (ai p):=(hn 40 (by decide)).trans (hv 40 (by kernel_rfl));have h37:st.t 37= .x (.bool true):=(hn 37 (by decide)).trans (hv 37 (by kernel_rfl));simp +decide (maxDischargeDepth:=200) only[go_sem,Nat.reduceBEq,h40,h37,fF,fC0,fC1,zL,c1,iO,eq,c2,q1,q2,q3,i0,i1,io,r1,r2,r3,k0',k1',dq,dg,aq,al];exact hk _ (Le.refl _)
       . cases ho;have h37:st.t 37= .x (.bool true):=(hn 37 (by decide)).trans (hv 37 (by kernel_rfl));simp +decide (maxDischargeDepth:=200) only[go_sem,Nat.reduceBEq,b6,h37,fF,fC0,fC1,zL,c1,iO,eq,c2,q1,q2,q3,i0,i1,io,r1,r2,r3,k0',k1',dq,dg,aq,al];exact hk _ (Le.refl _)
       . cases ho;have h41:st.t 41= .x (.slice (some ⟨g,off,none⟩) L.length cap):=(hn 41 (by decide)).trans (hv 41 (by kernel_rfl));have h42:st.t 42= .x (.int .i64 ((k:Nat):Int)):=(hn 42 (by decide)).trans (hv 42 (by kernel_rfl));have h37:st.t 37= .x (.bool true):=(hn 37 (by decide)).trans (hv 37 (by kernel_rfl));simp +decide (maxDischargeDepth:=200) only[go_sem,Nat.reduceBEq,h41,h42,h37,fF,fC0,fC1,zL,c1,iO,eq,c2,q1,q2,q3,i0,i1,io,r1,r2,r3,k0',k1',dq,dg,aq,al];exact hk _ (Le.refl _)
       . cases ho;have h43:st.t 43= .x (.pointer (some ⟨g,off+k*4,none⟩)):=(hn 43 (by decide)).trans (hv 43 (by kernel_rfl));have h37:st.t 37= .x (.bool true):=(hn 37 (by decide)).trans (hv 37 (by kernel_rfl));simp +decide (maxDischargeDepth:=200) only[go_sem,Nat.reduceBEq,h43,h37,fF,fC0,fC1,zL,c1,iO,eq,c2,q1,q2,q3,i0,i1,io,r1,r2,r3,k0',k1',dq,dg,aq,al];exact hk _ (Le.refl _)
       . cases ho;have h44:st.t 44= .x (.pointer (some ⟨g,off+k*4+3,none⟩)):=(hn 44 (by decide)).trans (hv 44 (by kernel_rfl));have h37:st.t 37= .x (.bool true):=(hn 37 (by decide)).trans (hv 37 (by kernel_rfl));simp +decide (maxDischargeDepth:=200) only[go_sem,Nat.reduceBEq,h44,h37,fF,fC0,fC1,zL,c1,iO,eq,c2,q1,q2,q3,i0,i1,io,r1,r2,r3,k0',k1',dq,dg,aq,al];exact hk _ (Le.refl _)
       . cases ho;have h45:st.t 45= .x (.int .i64 y.2):=(hn 45 (by decide)).trans (hv 45 (by kernel_rfl));have h37:st.t 37= .x (.bool true):=(hn 37 (by decide)).trans (hv 37 (by kernel_rfl));simp +decide (maxDischargeDepth:=200) only[go_sem,Nat.reduceBEq,h45,h37,fF,fC0,fC1,zL,c1,iO,eq,c2,q1,q2,q3,i0,i1,io,r1,r2,r3,k0',k1',dq,dg,aq,al];exact hk _ (Le.refl _)
       . cases ho;have h37:st.t 37= .x (.bool true):=(hn 37 (by decide)).trans (hv 37 (by kernel_rfl));have h46:st.t 46= .x (.bool true):=(hn 46 (by decide)).trans (hv 46 (by kernel_rfl));simp +decide (maxDischargeDepth:=200) only[go_sem,Nat.reduceBEq,h37,h46,fF,fC0,fC1,zL,c1,iO,eq,c2,q1,q2,q3,i0,i1,io,r1,r2,r3,k0',k1',dq,dg,aq,al];exact hk _ (Le.refl _)
       . cases ho;have h47:st.t 47= .x (.bool true):=(hn 47 (by decide)).trans (hv 47 (by kernel_rfl));simp +decide (maxDischargeDepth:=200) only[go_sem,Nat.reduceBEq,h47,fF,fC0,fC1,zL,c1,iO,eq,c2,q1,q2,q3,i0,i1,io,r1,r2,r3,k0',k1',dq,dg,aq,al];exact hk _ (Le.refl _)
       . cases ho;have h48:st.t 48= .x (.bool true):=(hn 48 (by decide)).trans (hv 48 (by kernel_rfl));simp +decide (maxDischargeDepth:=200) only[go_sem,Nat.reduceBEq,b0,h48,fF,fC0,fC1,zL,c1,iO,eq,c2,q1,q2,q3,i0,i1,io,r1,r2,r3,k0',k1',dq,dg,aq,al];exact hk _ (Le.refl _)
       . cases ho;have h49:st.t 49= .x (ai p):=(hn 49 (by decide)).trans (hv 49 (by kernel_rfl));have h48:st.t 48= .x (.bool true):=(hn 48 (by decide)).trans (hv 48 (by kernel_rfl));simp +decide (maxDischargeDepth:=200) only[go_sem,Nat.reduceBEq,h49,h48,fF,fC0,fC1,zL,c1,iO,eq,c2,q1,q2,q3,i0,i1,io,r1,r2,r3,k0',k1',dq,dg,aq,al];exact hk _ (Le.refl _)
       . cases ho;have h50:st.t 50= .x (ai p):=(hn 50 (by decide)).trans (hv 50 (by kernel_rfl));have h48:st.t 48= .x (.bool true):=(hn 48 (by decide)).trans (hv 48 (by kernel_rfl));simp +decide (maxDischargeDepth:=200) only[go_sem,Nat.reduceBEq,h50,h48,fF,fC0,fC1,zL,c1,iO,eq,c2,q1,q2,q3,i0,i1,io,r1,r2,r3,k0',k1',dq,dg,aq,al];exact hk _ (Le.refl _)
       . cases ho;have h51:st.t 51= .x (ai p):=(hn 51 (by decide)).trans (hv 51 (by kernel_rfl));have h48:st.t 48= .x (.bool true):=(hn 48 (by decide)).trans (hv 48 (by kernel_rfl));simp +decide (maxDischargeDepth:=200) only[go_sem,Nat.reduceBEq,h51,h48,fF,fC0,fC1,zL,c1,iO,eq,c2,q1,q2,q3,i0,i1,io,r1,r2,r3,k0',k1',dq,dg,aq,al];exact hk _ (Le.refl _)
       . cases ho;have h48:st.t 48= .x (.bool true):=(hn 48 (by decide)).trans (hv 48 (by kernel_rfl));simp +decide (maxDischargeDepth:=200) only[go_sem,Nat.reduceBEq,b6,h48,fF,fC0,fC1,zL,c1,iO,eq,c2,q1,q2,q3,i0,i1,io,r1,r2,r3,k0',k1',dq,dg,aq,al];exact hk _ (Le.refl _)
       . cases ho;have h52:st.t 52= .x (.slice (some ⟨g,off,none⟩) L.length cap):=(hn 52 (by decide)).trans (hv 52 (by kernel_rfl));have h53:st.t 53= .x (.int .i64 ((k:Nat):Int)):=(hn 53 (by decide)).trans (hv 53 (by kernel_rfl));have h48:st.t 48= .x (.bool true):=(hn 48 (by decide)).trans (hv 48 (by kernel_rfl));simp +decide (maxDischargeDepth:=200) only[go_sem,Nat.reduceBEq,h52,h53,h48,fF,fC0,fC1,zL,c1,iO,eq,c2,q1,q2,q3,i0,i1,io,r1,r2,r3,k0',k1',dq,dg,aq,al];exact hk _ (Le.refl _)
       . cases ho;have h54:st.t 54= .x (.pointer (some ⟨g,off+k*4,none⟩)):=(hn 54 (by decide)).trans (hv 54 (by kernel_rfl));have h48:st.t 48= .x (.bool true):=(hn 48 (by decide)).trans (hv 48 (by kernel_rfl));simp +decide (maxDischargeDepth:=200) only[go_sem,Nat.reduceBEq,h54,h48,fF,fC0,fC1,zL,c1,iO,eq,c2,q1,q2,q3,i0,i1,io,r1,r2,r3,k0',k1',dq,dg,aq,al];exact hk _ (Le.refl _)
       . cases ho;have h55:st.t 55= .x (.pointer (some ⟨g,off+k*4,none⟩)):=(hn 55 (by decide)).trans (hv 55 (by kernel_rfl));have h48:st.t 48= .x (.bool true):=(hn 48 (by decide)).trans (hv 48 (by kernel_rfl));simp +decide (maxDischargeDepth:=200) only[go_sem,Nat.reduceBEq,h55,h48,fF,fC0,fC1,zL,c1,iO,eq,c2,q1,q2,q3,i0,i1,io,r1,r2,r3,k0',k1',dq,dg,aq,al];exact hk _ (Le.refl _)
       . cases ho;have h48:st.t 48= .x (.bool true):=(hn 48 (by decide)).trans (hv 48 (by kernel_rfl));simp +decide (maxDischargeDepth:=200) only[go_sem,Nat.reduceBEq,b0,h48,fF,fC0,fC1,zL,c1,iO,eq,c2,q1,q2,q3,i0,i1,io,r1,r2,r3,k0',k1',dq,dg,aq,al];exact hk _ (Le.refl _)
       . cases ho;have h57:st.t 57= .x (ai p):=(hn 57 (by decide)).trans (hv 57 (by kernel_rfl));have h48:st.t 48= .x (.bool true):=(hn 48 (by decide)).trans (hv 48 (by kernel_rfl));simp +decide (maxDischargeDepth:=200) only[go_sem,Nat.reduceBEq,h57,h48,fF,fC0,fC1,zL,c1,iO,eq,c2,q1,q2,q3,i0,i1,io,r1,r2,r3,k0',k1',dq,dg,aq,al];exact hk _ (Le.refl _)
       . cases ho;have h58:st.t 58= .x (ai p):=(hn 58 (by decide)).trans (hv 58 (by kernel_rfl));have h48:st.t 48= .x (.bool true):=(hn 48 (by decide)).trans (hv 48 (by kernel_rfl));simp +decide (maxDischargeDepth:=200) only[go_sem,Nat.reduceBEq,h58,h48,fF,fC0,fC1,zL,c1,iO,eq,c2,q1,q2,q3,i0,i1,io,r1,r2,r3,k0',k1',dq,dg,aq,al];exact hk _ (Le.refl _)
       . cases ho;have h59:st.t 59= .x (ai p):=(hn 59 (by decide)).trans (hv 59 (by kernel_rfl));have h48:st.t 48= .x (.bool true):=(hn 48 (by decide)).trans (hv 48 (by kernel_rfl));simp +decide (maxDischargeDepth:=200) only[go_sem,Nat.reduceBEq,h59,h48,fF,fC0,fC1,zL,c1,iO,eq,c2,q1,q2,q3,i0,i1,io,r1,r2,r3,k0',k1',dq,dg,aq,al];exact hk _ (Le.refl _)
       . cases ho;have h48:st.t 48= .x (.bool true):=(hn 48 (by decide)).trans (hv 48 (by kernel_rfl));simp +decide (maxDischargeDepth:=200) only[go_sem,Nat.reduceBEq,b4,h48,fF,fC0,fC1,zL,c1,iO,eq,c2,q1,q2,q3,i0,i1,io,r1,r2,r3,k0',k1',dq,dg,aq,al];exact hk _ (Le.refl _)
       . cases ho;have h60:st.t 60= .x (.slice (some ⟨g,off,none⟩) L.length cap):=(hn 60 (by decide)).trans (hv 60 (by kernel_rfl));have h61:st.t 61= .x (.int .i64 ((i:Nat):Int)):=(hn 61 (by decide)).trans (hv 61 (by kernel_rfl));have h48:st.t 48= .x (.bool true):=(hn 48 (by decide)).trans (hv 48 (by kernel_rfl));simp +decide (maxDischargeDepth:=200) only[go_sem,Nat.reduceBEq,h60,h61,h48,fF,fC0,fC1,zL,c1,iO,eq,c2,q1,q2,q3,i0,i1,io,r1,r2,r3,k0',k1',dq,dg,aq,al];exact hk _ (Le.refl _)
       . cases ho;have h62:st.t 62= .x (.pointer (some ⟨g,off+i*4,none⟩)):=(hn 62 (by decide)).trans (hv 62 (by kernel_rfl));have h48:st.t 48= .x (.bool true):=(hn 48 (by decide)).trans (hv 48 (by kernel_rfl));simp +decide (maxDischargeDepth:=200) only[go_sem,Nat.reduceBEq,h62,h48,fF,fC0,fC1,zL,c1,iO,eq,c2,q1,q2,q3,i0,i1,io,r1,r2,r3,k0',k1',dq,dg,aq,al];exact hk _ (Le.refl _)
       . cases ho;have h63:st.t 63= .x (.pointer (some ⟨g,off+i*4,none⟩)):=(hn 63 (by decide)).trans (hv 63 (by kernel_rfl));have h48:st.t 48= .x (.bool true):=(hn 48 (by decide)).trans (hv 48 (by kernel_rfl));simp +decide (maxDischargeDepth:=200) only[go_sem,Nat.reduceBEq,h63,h48,fF,fC0,fC1,zL,c1,iO,eq,c2,q1,q2,q3,i0,i1,io,r1,r2,r3,k0',k1',dq,dg,aq,al];exact hk _ (Le.refl _)
       . cases ho;have h56:st.t 56= .agg [.x (.int .i64 y.1.1),.x (.int .i64 y.1.2.1),.x (.int .i64 y.1.2.2)]:=(hn 56 (by decide)).trans (hv 56 (by kernel_rfl));have h64:st.t 64= .agg [.x (.int .i64 x.1.1),.x (.int .i64 x.1.2.1),.x (.int .i64 x.1.2.2)]:=(hn 64 (by decide)).trans (hv 64 (by kernel_rfl));have h48:st.t 48= .x (.bool true):=(hn 48 (by decide)).trans (hv 48 (by kernel_rfl));simp +decide (maxDischargeDepth:=200) only[go_sem,Nat.reduceBEq,h56,h64,h48,fF,fC0,fC1,zL,c1,iO,eq,c2,q1,q2,q3,i0,i1,io,r1,r2,r3,k0',k1',dq,dg,aq,al];exact hk _ (Le.refl _)
       . cases ho;have h48:st.t 48= .x (.bool true):=(hn 48 (by decide)).trans (hv 48 (by kernel_rfl));have h65:st.t 65= .x (.bool (al y.1 x.1)):=(hn 65 (by decide)).trans (hv 65 (by kernel_rfl));simp +decide (maxDischargeDepth:=200) only[go_sem,Nat.reduceBEq,h48,h65,fF,fC0,fC1,zL,c1,iO,eq,c2,q1,q2,q3,i0,i1,io,r1,r2,r3,k0',k1',dq,dg,aq,al];exact hk _ (Le.refl _)
       . cases ho
     . rintro j i' o Hx val st hj ho hJ hv hn hb hbb K' hk;have b0:st.t 0= .x (ai p):=hb 0 (by kernel_rfl);have b4:st.t 4= .x (.int .i64 ((i:Nat):Int)):=hb 4 (by kernel_rfl);have b6:st.t 6= .x (.int .i64 ((k:Nat):Int)):=hb 6 (by kernel_rfl);clear hb hbb;rcases j with j
       . cases hj
     . rintro Hx val hJ hv;refine⟨[(0,.x (ai p)),(3,.sl ((bl L i).map ay).isEmpty 3 ((bl L i).map ay) (some 78)),(4,.x (.int .i64 ((i:Nat):Int))),(5,.x (.bool (ie L x k))),(6,.x (.int .i64 ((k:Nat):Int))),(66,.x (.bool (al y.1 x.1)))],[],?_,?_,?_⟩
       . simp +decide only[go_sem,Nat.reduceBEq]<;>(repeat' first|exact aK (by kernel_rfl)|exact(aL (by kernel_rfl)).trans (hv _ (by kernel_rfl))|rfl|constructor)
       . simp +decide only[go_sem,Nat.reduceBEq]<;>(repeat' first|rfl|constructor)
       subst hJ;cases hq:al y.1 x.1
       . rw[hq,NA,Ns] at hsucc;simp +decide (maxDischargeDepth:=200) only[go_sem,Nat.reduceBEq,hq,ck];refine⟨⟨k+1,hkk⟩,⟨?_,?_,rfl⟩,by simp only;omega⟩
         . simp +decide (maxDischargeDepth:=200) only[go_sem,Nat.reduceBEq,hsucc]
         . simp +decide (maxDischargeDepth:=200) only[go_sem,Nat.reduceBEq]
       . rw[hq,M7,Bool.and_false] at hsucc;simp +decide (maxDischargeDepth:=200) only[go_sem,Nat.reduceBEq,hq,ck];refine⟨⟨k+1,hkk⟩,⟨?_,?_,rfl⟩,by simp only;omega⟩
         . simp +decide (maxDischargeDepth:=200) only[go_sem,Nat.reduceBEq,hsucc]
         . simp +decide (maxDischargeDepth:=200) only[go_sem,Nat.reduceBEq]
   . have dg:=LO hn;have hA:jq x y=true:=by simp[jq,hn]
     rw[hA,Ns] at hsucc;simp +decide (maxDischargeDepth:=200) only[go_sem,Nat.reduceBEq,fF,fC0,fC1,zL,c1,iO,eq,dk];refine aG (fun k=>match k with|2=>[34,35]|3=>[36]|4=>[37]|5=>[38,37]|6=>[39,37]|7=>[40,37]|8=>[37]|9=>[41,42,37]|10=>[43,37]|11=>[44,37]|12=>[45,37]|13=>[37,46]|14=>[47]|15=>[48]|16=>[49,48]|17=>[50,48]|18=>[51,48]|19=>[48]|20=>[52,53,48]|21=>[54,48]|22=>[55,48]|23=>[48]|24=>[57,48]|25=>[58,48]|26=>[59,48]|27=>[48]|28=>[60,61,48]|29=>[62,48]|30=>[63,48]|31=>[56,64,48]|32=>[48,65]|_=>[]) [] (fun k=>match k with|_=>0) (fun _ Hx _=>H=Hx) (Gn p g off cap i k L x y) (by kernel_rfl) (by kernel_rfl) (by kernel_rfl) rfl ?_ ?_ ?_
     . rintro j i' o Hx val st ho hW hj hJ hv hn hb hbb K' hk;have b0:st.t 0= .x (ai p):=hb 0 (by kernel_rfl);have b4:st.t 4= .x (.int .i64 ((i:Nat):Int)):=hb 4 (by kernel_rfl);have b6:st.t 6= .x (.int .i64 ((k:Nat):Int)):=hb 6 (by kernel_rfl);clear hb hbb;subst hJ;rcases i' with _|_|_|_|_|_|_|_|_|_|_|_|_|_|_|_|_|_|_|_|_|_|_|_|_|_|_|_|_|_|_|_|_|i'
       . cases ho;simp +decide (maxDischargeDepth:=200) only[go_sem,Nat.reduceBEq,b6,fF,fC0,fC1,zL,c1,iO,eq,c2,q1,q2,q3,i0,i1,io,r1,r2,r3,k0',k1',dq,dg];exact hk _ (Le.refl _)
       . cases ho;simp +decide (maxDischargeDepth:=200) only[go_sem,Nat.reduceBEq,b4,fF,fC0,fC1,zL,c1,iO,eq,c2,q1,q2,q3,i0,i1,io,r1,r2,r3,k0',k1',dq,dg];exact hk _ (Le.refl _)
       . cases ho;have h34:st.t 34= .x (.int .i64 ((k:Nat):Int)):=(hn 34 (by decide)).trans (hv 34 (by kernel_rfl));have h35:st.t 35= .x (.int .i64 ((i:Nat):Int)):=(hn 35 (by decide)).trans (hv 35 (by kernel_rfl));simp +decide (maxDischargeDepth:=200) only[go_sem,Nat.reduceBEq,h34,h35,fF,fC0,fC1,zL,c1,iO,eq,c2,q1,q2,q3,i0,i1,io,r1,r2,r3,k0',k1',dq,dg];exact hk _ (Le.refl _)
       . cases ho;have h36:st.t 36= .x (.bool true):=(hn 36 (by decide)).trans (hv 36 (by kernel_rfl));simp +decide (maxDischargeDepth:=200) only[go_sem,Nat.reduceBEq,h36,fF,fC0,fC1,zL,c1,iO,eq,c2,q1,q2,q3,i0,i1,io,r1,r2,r3,k0',k1',dq,dg];exact hk _ (Le.refl _)
       . cases ho;have h37:st.t 37= .x (.bool true):=(hn 37 (by decide)).trans (hv 37 (by kernel_rfl));simp +decide (maxDischargeDepth:=200) only[go_sem,Nat.reduceBEq,b0,h37,fF,fC0,fC1,zL,c1,iO,eq,c2,q1,q2,q3,i0,i1,io,r1,r2,r3,k0',k1',dq,dg];exact hk _ (Le.refl _)
       . cases ho;have h38:st.t 38= .x (ai p):=(hn 38 (by decide)).trans (hv 38 (by kernel_rfl));have h37:st.t 37= .x (.bool true):=(hn 37 (by decide)).trans (hv 37 (by kernel_rfl));simp +decide (maxDischargeDepth:=200) only[go_sem,Nat.reduceBEq,h38,h37,fF,fC0,fC1,zL,c1,iO,eq,c2,q1,q2,q3,i0,i1,io,r1,r2,r3,k0',k1',dq,dg];exact hk _ (Le.refl _)
       . cases ho;have h39:st.t 39= .x (ai p):=(hn 39 (by decide)).trans (hv 39 (by kernel_rfl));have h37:st.t 37= .x (.bool true):=(hn 37 (by decide)).trans (hv 37 (by kernel_rfl));simp +decide (maxDischargeDepth:=200) only[go_sem,Nat.reduceBEq,h39,h37,fF,fC0,fC1,zL,c1,iO,eq,c2,q1,q2,q3,i0,i1,io,r1,r2,r3,k0',k1',dq,dg];exact hk _ (Le.refl _)
       . cases ho;have h40:st.t 40= .x (ai p):=(hn 40 (by decide)).trans (hv 40 (by kernel_rfl));have h37:st.t 37= .x (.bool true):=(hn 37 (by decide)).trans (hv 37 (by kernel_rfl));simp +decide (maxDischargeDepth:=200) only[go_sem,Nat.reduceBEq,h40,h37,fF,fC0,fC1,zL,c1,iO,eq,c2,q1,q2,q3,i0,i1,io,r1,r2,r3,k0',k1',dq,dg];exact hk _ (Le.refl _)
       . cases ho;have h37:st.t 37= .x (.bool true):=(hn 37 (by decide)).trans (hv 37 (by kernel_rfl));simp +decide (maxDischargeDepth:=200) only[go_sem,Nat.reduceBEq,b6,h37,fF,fC0,fC1,zL,c1,iO,eq,c2,q1,q2,q3,i0,i1,io,r1,r2,r3,k0',k1',dq,dg];exact hk _ (Le.refl _)
       . cases ho;have h41:st.t 41= .x (.slice (some ⟨g,off,none⟩) L.length cap):=(hn 41 (by decide)).trans (hv 41 (by kernel_rfl));have h42:st.t 42= .x (.int .i64 ((k:Nat):Int)):=(hn 42 (by decide)).trans (hv 42 (by kernel_rfl));have h37:st.t 37= .x (.bool true):=(hn 37 (by decide)).trans (hv 37 (by kernel_rfl));simp +decide (maxDischargeDepth:=200) only[go_sem,Nat.reduceBEq,h41,h42,h37,fF,fC0,fC1,zL,c1,iO,eq,c2,q1,q2,q3,i0,i1,io,r1,r2,r3,k0',k1',dq,dg];exact hk _ (Le.refl _)
       . cases ho;have h43:st.t 43= .x (.pointer (some ⟨g,off+k*4,none⟩)):=(hn 43 (by decide)).trans (hv 43 (by kernel_rfl));have h37:st.t 37= .x (.bool true):=(hn 37 (by decide)).trans (hv 37 (by kernel_rfl));simp +decide (maxDischargeDepth:=200) only[go_sem,Nat.reduceBEq,h43,h37,fF,fC0,fC1,zL,c1,iO,eq,c2,q1,q2,q3,i0,i1,io,r1,r2,r3,k0',k1',dq,dg];exact hk _ (Le.refl _)
       . cases ho;have h44:st.t 44= .x (.pointer (some ⟨g,off+k*4+3,none⟩)):=(hn 44 (by decide)).trans (hv 44 (by kernel_rfl));have h37:st.t 37= .x (.bool true):=(hn 37 (by decide)).trans (hv 37 (by kernel_rfl));simp +decide (maxDischargeDepth:=200) only[go_sem,Nat.reduceBEq,h44,h37,fF,fC0,fC1,zL,c1,iO,eq,c2,q1,q2,q3,i0,i1,io,r1,r2,r3,k0',k1',dq,dg];exact hk _ (Le.refl _)
       . cases ho;have h45:st.t 45= .x (.int .i64 y.2):=(hn 45 (by decide)).trans (hv 45 (by kernel_rfl));have h37:st.t 37= .x (.bool true):=(hn 37 (by decide)).trans (hv 37 (by kernel_rfl));simp +decide (maxDischargeDepth:=200) only[go_sem,Nat.reduceBEq,h45,h37,fF,fC0,fC1,zL,c1,iO,eq,c2,q1,q2,q3,i0,i1,io,r1,r2,r3,k0',k1',dq,dg];exact hk _ (Le.refl _)
       . cases ho;have h37:st.t 37= .x (.bool true):=(hn 37 (by decide)).trans (hv 37 (by kernel_rfl));have h46:st.t 46= .x (.bool false):=(hn 46 (by decide)).trans (hv 46 (by kernel_rfl));simp +decide (maxDischargeDepth:=200) only[go_sem,Nat.reduceBEq,h37,h46,fF,fC0,fC1,zL,c1,iO,eq,c2,q1,q2,q3,i0,i1,io,r1,r2,r3,k0',k1',dq,dg];exact hk _ (Le.refl _)
       . cases ho;have h47:st.t 47= .x (.bool false):=(hn 47 (by decide)).trans (hv 47 (by kernel_rfl));simp +decide (maxDischargeDepth:=200) only[go_sem,Nat.reduceBEq,h47,fF,fC0,fC1,zL,c1,iO,eq,c2,q1,q2,q3,i0,i1,io,r1,r2,r3,k0',k1',dq,dg];exact hk _ (Le.refl _)
       . cases ho;have h48:st.t 48= .x (.bool false):=(hn 48 (by decide)).trans (hv 48 (by kernel_rfl));simp +decide (maxDischargeDepth:=200) only[go_sem,Nat.reduceBEq,b0,h48,fF,fC0,fC1,zL,c1,iO,eq,c2,q1,q2,q3,i0,i1,io,r1,r2,r3,k0',k1',dq,dg];exact hk _ (Le.refl _)
       . cases ho;have h49:st.t 49= .x (.tuple #[]):=(hn 49 (by decide)).trans (hv 49 (by kernel_rfl));have h48:st.t 48= .x (.bool false):=(hn 48 (by decide)).trans (hv 48 (by kernel_rfl));simp +decide (maxDischargeDepth:=200) only[go_sem,Nat.reduceBEq,h49,h48,fF,fC0,fC1,zL,c1,iO,eq,c2,q1,q2,q3,i0,i1,io,r1,r2,r3,k0',k1',dq,dg];exact hk _ (Le.refl _)
       . cases ho;have h50:st.t 50= .x (.tuple #[]):=(hn 50 (by decide)).trans (hv 50 (by kernel_rfl));have h48:st.t 48= .x (.bool false):=(hn 48 (by decide)).trans (hv 48 (by kernel_rfl));simp +decide (maxDischargeDepth:=200) only[go_sem,Nat.reduceBEq,h50,h48,fF,fC0,fC1,zL,c1,iO,eq,c2,q1,q2,q3,i0,i1,io,r1,r2,r3,k0',k1',dq,dg];exact hk _ (Le.refl _)
       . cases ho;have h51:st.t 51= .x (.tuple #[]):=(hn 51 (by decide)).trans (hv 51 (by kernel_rfl));have h48:st.t 48= .x (.bool false):=(hn 48 (by decide)).trans (hv 48 (by kernel_rfl));simp +decide (maxDischargeDepth:=200) only[go_sem,Nat.reduceBEq,h51,h48,fF,fC0,fC1,zL,c1,iO,eq,c2,q1,q2,q3,i0,i1,io,r1,r2,r3,k0',k1',dq,dg];exact hk _ (Le.refl _)
       . cases ho;have h48:st.t 48= .x (.bool false):=(hn 48 (by decide)).trans (hv 48 (by kernel_rfl));simp +decide (maxDischargeDepth:=200) only[go_sem,Nat.reduceBEq,b6,h48,fF,fC0,fC1,zL,c1,iO,eq,c2,q1,q2,q3,i0,i1,io,r1,r2,r3,k0',k1',dq,dg];exact hk _ (Le.refl _)
       . cases ho;have h52:st.t 52= .x (.tuple #[]):=(hn 52 (by decide)).trans (hv 52 (by kernel_rfl));have h53:st.t 53= .x (.tuple #[]):=(hn 53 (by decide)).trans (hv 53 (by kernel_rfl));have h48:st.t 48= .x (.bool false):=(hn 48 (by decide)).trans (hv 48 (by kernel_rfl));simp +decide (maxDischargeDepth:=200) only[go_sem,Nat.reduceBEq,h52,h53,h48,fF,fC0,fC1,zL,c1,iO,eq,c2,q1,q2,q3,i0,i1,io,r1,r2,r3,k0',k1',dq,dg];exact hk _ (Le.refl _)
       . cases ho;have h54:st.t 54= .x (.tuple #[]):=(hn 54 (by decide)).trans (hv 54 (by kernel_rfl));have h48:st.t 48= .x (.bool false):=(hn 48 (by decide)).trans (hv 48 (by kernel_rfl));simp +decide (maxDischargeDepth:=200) only[go_sem,Nat.reduceBEq,h54,h48,fF,fC0,fC1,zL,c1,iO,eq,c2,q1,q2,q3,i0,i1,io,r1,r2,r3,k0',k1',dq,dg];exact hk _ (Le.refl _)
       . cases ho;have h55:st.t 55= .x (.tuple #[]):=(hn 55 (by decide)).trans (hv 55 (by kernel_rfl));have h48:st.t 48= .x (.bool false):=(hn 48 (by decide)).trans (hv 48 (by kernel_rfl));simp +decide (maxDischargeDepth:=200) only[go_sem,Nat.reduceBEq,h55,h48,fF,fC0,fC1,zL,c1,iO,eq,c2,q1,q2,q3,i0,i1,io,r1,r2,r3,k0',k1',dq,dg];exact hk _ (Le.refl _)
       . cases ho;have h48:st.t 48= .x (.bool false):=(hn 48 (by decide)).trans (hv 48 (by kernel_rfl));simp +decide (maxDischargeDepth:=200) only[go_sem,Nat.reduceBEq,b0,h48,fF,fC0,fC1,zL,c1,iO,eq,c2,q1,q2,q3,i0,i1,io,r1,r2,r3,k0',k1',dq,dg];exact hk _ (Le.refl _)
       . cases ho;have h57:st.t 57= .x (.tuple #[]):=(hn 57 (by decide)).trans (hv 57 (by kernel_rfl));have h48:st.t 48= .x (.bool false):=(hn 48 (by decide)).trans (hv 48 (by kernel_rfl));simp +decide (maxDischargeDepth:=200) only[go_sem,Nat.reduceBEq,h57,h48,fF,fC0,fC1,zL,c1,iO,eq,c2,q1,q2,q3,i0,i1,io,r1,r2,r3,k0',k1',dq,dg];exact hk _ (Le.refl _)
       . cases ho;have h58:st.t 58= .x (.tuple #[]):=(hn 58 (by decide)).trans (hv 58 (by kernel_rfl));have h48:st.t 48= .x (.bool false):=(hn 48 (by decide)).trans (hv 48 (by kernel_rfl));simp +decide (maxDischargeDepth:=200) only[go_sem,Nat.reduceBEq,h58,h48,fF,fC0,fC1,zL,c1,iO,eq,c2,q1,q2,q3,i0,i1,io,r1,r2,r3,k0',k1',dq,dg];exact hk _ (Le.refl _)
       . cases ho;have h59:st.t 59= .x (.tuple #[]):=(hn 59 (by decide)).trans (hv 59 (by kernel_rfl));have h48:st.t 48= .x (.bool false):=(hn 48 (by decide)).trans (hv 48 (by kernel_rfl));simp +decide (maxDischargeDepth:=200) only[go_sem,Nat.reduceBEq,h59,h48,fF,fC0,fC1,zL,c1,iO,eq,c2,q1,q2,q3,i0,i1,io,r1,r2,r3,k0',k1',dq,dg];exact hk _ (Le.refl _)
       . cases ho;have h48:st.t 48= .x (.bool false):=(hn 48 (by decide)).trans (hv 48 (by kernel_rfl));simp +decide (maxDischargeDepth:=200) only[go_sem,Nat.reduceBEq,b4,h48,fF,fC0,fC1,zL,c1,iO,eq,c2,q1,q2,q3,i0,i1,io,r1,r2,r3,k0',k1',dq,dg];exact hk _ (Le.refl _)
       . cases ho;have h60:st.t 60= .x (.tuple #[]):=(hn 60 (by decide)).trans (hv 60 (by kernel_rfl));have h61:st.t 61= .x (.tuple #[]):=(hn 61 (by decide)).trans (hv 61 (by kernel_rfl));have h48:st.t 48= .x (.bool false):=(hn 48 (by decide)).trans (hv 48 (by kernel_rfl));simp +decide (maxDischargeDepth:=200) only[go_sem,Nat.reduceBEq,h60,h61,h48,fF,fC0,fC1,zL,c1,iO,eq,c2,q1,q2,q3,i0,i1,io,r1,r2,r3,k0',k1',dq,dg];exact hk _ (Le.refl _)
       . cases ho;have h62:st.t 62= .x (.tuple #[]):=(hn 62 (by decide)).trans (hv 62 (by kernel_rfl));have h48:st.t 48= .x (.bool false):=(hn 48 (by decide)).trans (hv 48 (by kernel_rfl));simp +decide (maxDischargeDepth:=200) only[go_sem,Nat.reduceBEq,h62,h48,fF,fC0,fC1,zL,c1,iO,eq,c2,q1,q2,q3,i0,i1,io,r1,r2,r3,k0',k1',dq,dg];exact hk _ (Le.refl _)
       . cases ho;have h63:st.t 63= .x (.tuple #[]):=(hn 63 (by decide)).trans (hv 63 (by kernel_rfl));have h48:st.t 48= .x (.bool false):=(hn 48 (by decide)).trans (hv 48 (by kernel_rfl));simp +decide (maxDischargeDepth:=200) only[go_sem,Nat.reduceBEq,h63,h48,fF,fC0,fC1,zL,c1,iO,eq,c2,q1,q2,q3,i0,i1,io,r1,r2,r3,k0',k1',dq,dg];exact hk _ (Le.refl _)
       . cases ho;have h56:st.t 56= .x (.tuple #[]):=(hn 56 (by decide)).trans (hv 56 (by kernel_rfl));have h64:st.t 64= .x (.tuple #[]):=(hn 64 (by decide)).trans (hv 64 (by kernel_rfl));have h48:st.t 48= .x (.bool false):=(hn 48 (by decide)).trans (hv 48 (by kernel_rfl));simp +decide (maxDischargeDepth:=200) only[go_sem,Nat.reduceBEq,h56,h64,h48,fF,fC0,fC1,zL,c1,iO,eq,c2,q1,q2,q3,i0,i1,io,r1,r2,r3,k0',k1',dq,dg];exact hk _ (Le.refl _)
       . cases ho;have h48:st.t 48= .x (.bool false):=(hn 48 (by decide)).trans (hv 48 (by kernel_rfl));have h65:st.t 65= .x (.tuple #[]):=(hn 65 (by decide)).trans (hv 65 (by kernel_rfl));simp +decide (maxDischargeDepth:=200) only[go_sem,Nat.reduceBEq,h48,h65,fF,fC0,fC1,zL,c1,iO,eq,c2,q1,q2,q3,i0,i1,io,r1,r2,r3,k0',k1',dq,dg];exact hk _ (Le.refl _)
       . cases ho
     . rintro j i' o Hx val st hj ho hJ hv hn hb hbb K' hk;have b0:st.t 0= .x (ai p):=hb 0 (by kernel_rfl);have b4:st.t 4= .x (.int .i64 ((i:Nat):Int)):=hb 4 (by kernel_rfl);have b6:st.t 6= .x (.int .i64 ((k:Nat):Int)):=hb 6 (by kernel_rfl);clear hb hbb;rcases j with j
       . cases hj
     . rintro Hx val hJ hv;refine⟨[(0,.x (ai p)),(3,.sl ((bl L i).map ay).isEmpty 3 ((bl L i).map ay) (some 78)),(4,.x (.int .i64 ((i:Nat):Int))),(5,.x (.bool (ie L x k))),(6,.x (.int .i64 ((k:Nat):Int))),(66,.x (.bool false))],[],?_,?_,?_⟩
       . simp +decide only[go_sem,Nat.reduceBEq]<;>(repeat' first|exact aK (by kernel_rfl)|exact(aL (by kernel_rfl)).trans (hv _ (by kernel_rfl))|rfl|constructor)
       . simp +decide only[go_sem,Nat.reduceBEq]<;>(repeat' first|rfl|constructor)
       subst hJ;simp +decide (maxDischargeDepth:=200) only[go_sem,Nat.reduceBEq,ck];refine⟨⟨k+1,hkk⟩,⟨?_,?_,rfl⟩,by simp only;omega⟩
       . simp +decide (maxDischargeDepth:=200) only[go_sem,Nat.reduceBEq,hsucc]
       . simp +decide (maxDischargeDepth:=200) only[go_sem,Nat.reduceBEq]
abbrev SR:=Bool×Nat×List aJ
def Gq (q:SR):V:= .sl q.1 q.2.1 (q.2.2.map ay) none
theorem tu {p q:SR} (e:Gq p=Gq q):p=q:=by
 obtain⟨a,b,c⟩:=p;obtain⟨a',b',c'⟩:=q;injection e with e1 e2 e3
 cases e1;cases e2;have h:c=c':=(List.map_inj_right (fun _ _=>kC)).1 e3;rw[h]
def rZ (q:SR×SR):List V:=[Gq q.1,Gq q.2]
theorem zz (p q:SR×SR) (e:rZ p=rZ q):p=q:=by
 obtain⟨a,b⟩:=p;obtain⟨a',b'⟩:=q;injection e with e1 e2
 injection e2 with e2 e3
 rw[show a=a' from tu e1,show b=b' from tu e2]
def En (q:SR):Prop:=(q.2.2≠[]->q.2.1=3)∧q.2.2.length<=1000
noncomputable instance (q:SR):Decidable (En q):=Classical.propDecidable _
noncomputable def l5 (q:SR×SR):Option V:=if En q.1∧En q.2 then some (.x (.bool (decide (q.1.2.2=q.2.2.2)))) else none
theorem sa:gD 8 (FE rZ l5):=by
 refine bW (E:=bp []) (k:=2) (cZ _ trivial) (by kernel_rfl) Try.func8 rfl (fun a w=>Try.call8 a w) Try.ntmps8 (by kernel_rfl) (by decide) (by decide) ?_;intro us r hF hdat;obtain⟨⟨⟨nl1,k1,a⟩,nl2,k2,b⟩,hus,hG⟩:=bX hF;clear hF;subst hus;have hF:=hG;clear hG;unfold l5 at hF;obtain⟨⟨⟨z1,l1⟩,z2,l2⟩,hF⟩:=bm hF;cases hF;refine⟨rfl,?_⟩;simp only[rZ,Gq] at*;by_cases h0:((a.length:Nat):Int)=(b.length:Int)
 case neg=>have d0:=LO h0;have e:decide (a=b)=false:=LO (fun e=>h0 (by rw[e]));simp +decide (maxDischargeDepth:=200) only[go_sem,eq,d0,e]
 have d0:=LP h0;have hl:a.length=b.length:=by omega
 simp +decide (maxDischargeDepth:=200) only[go_sem,eq,d0];refine ee (X:={i:Nat//i<=a.length∧a.take i=b.take i}) (fun i=>[(0,.sl nl1 k1 (a.map ay) none),(1,.sl nl2 k2 (b.map ay) none),(5,.x (.int .i64 ((i.1:Nat):Int)))]) (fun _=>[]) (fun i=>a.length-i.1) ⟨0,LQ _,rfl⟩ (by simp +decide only[go_sem]<;>(repeat' first|rfl|constructor)) trivial (fun⟨i,hi,he⟩=>?_);by_cases hil:i<a.length
 case neg=>have c0:decide ((i:Int)<(a.length:Int))=false:=LO (by omega);have e:decide (a=b)=true:=LP (by rw[<-Mk (l:=a) (i:=i) (by omega),he,Mk (by omega)]);simp +decide (maxDischargeDepth:=200) only[go_sem,eq,c0,e]
 have c0:decide ((i:Int)<(a.length:Int))=true:=LP (by omega);have p0:(0:Int)<=(i:Int):=by omega
 have cu:=be (i:=i) (by omega);obtain rfl:k1=3:=z1 (fun e=>by rw[e] at hil;cases hil);obtain rfl:k2=3:=z2 (fun e=>by rw[e] at hl;rw[hl] at hil;cases hil);have hx:a[i]?=some a[i]:=Io hil;have hy:b[i]?=some (b[i]'(by omega)):=Io (by omega);generalize a[i]=x at hx;generalize (b[i]'(by omega))=y at hy;have q1:(a.map ay)[((i:Int)).toNat]?=some (.agg [.x (.int .i64 x.1),.x (.int .i64 x.2.1),.x (.int .i64 x.2.2)]):=by rw[io,LS,hx];rfl
 have q2:(b.map ay)[((i:Int)).toNat]?=some (.agg [.x (.int .i64 y.1),.x (.int .i64 y.2.1),.x (.int .i64 y.2.2)]):=by rw[io,LS,hy];rfl
 cases hq:bD x y
 . have e:decide (a=b)=false:=LO (fun e=>by rw[e,hy] at hx;cases hx;rw[dB.2 rfl] at hq;cases hq);rw[bD] at hq;simp +decide (maxDischargeDepth:=200) only[go_sem,eq,c0,p0,q1,q2,ba,hq,e]
 . obtain rfl:=dB.1 hq;rw[bD] at hq;simp +decide (maxDischargeDepth:=200) only[go_sem,eq,c0,p0,q1,q2,ba,hq,cu];refine⟨⟨i+1,hil,by rw[bQ hx,bQ hy,he]⟩,?_,?_,by simp only;omega⟩
   . simp +decide only[go_sem]
   . simp +decide only[go_sem]
theorem vN {nl nl':Bool} {z z':Nat} (h:l≠[]->z=3) (h':l≠[]->z'=3) (hl:l.length<=1000):(FE rZ l5) [.sl nl z (l.map ay) none,.sl nl' z' (l.map ay) none]=some (.x (.bool true)):=by refine(c9 zz l5 ((nl,z,l),(nl',z',l))).trans ((L0 ⟨⟨h,hl⟩,h',hl⟩).trans ?_);simp
structure FrOK (Fr:FrT) (t:TypeId) (z:List Value):Prop where
 keep:∀{H H':HH} {p:Nat} {c:Cn} {k:Nat} {F:List Nat},Fr H p c k F->(∀y∈F,H' y=H y)->Fr H' p c k F
 on:∀{H:HH} {p:Nat} {c:Cn} {k:Nat} {F:List Nat},Fr H p c k F->∀y∈F,H y≠none
 zero:∀{H:HH} {p:Nat},H p=some (rowO z t)->Fr H p (fun _=>0) 0 [p]
theorem RFr.ok:FrOK RFr 33 [.slice none 0 0]:=by
 refine⟨?_,?_,?_⟩
 . rintro H H' p c k F ⟨L,ad,cap,h1,h2,h3,h4,h5,h6,h7,rfl⟩ hk;exact⟨L,ad,cap,(hk p (L9 ..)).trans h1,h2.to (fun g hg=>hk g (L7 _ (by rw[hg];simp))),h3,h4,h5,h6,h7,rfl⟩
 . rintro H p c k F ⟨L,ad,cap,h1,h2,h3,h4,h5,h6,h7,rfl⟩ y hy;rcases L8.1 hy with rfl|hy
   . rw[h1];simp
   . obtain⟨cur,ty,e⟩:=h2.blk (g:=y) (by simpa using hy);rw[e];simp
 . intro H p h;exact⟨[],none,0,h,.inl ⟨rfl,rfl⟩,(by simp[blkOf]),List.Pairwise.nil,(fun x hx=>by cases hx),fun s=>rfl,⟨LM _,by decide⟩,rfl⟩
open Classical in
noncomputable def dW (c:Cn) (s:aJ):Bool:=decide (∀t,0<c t->al t s=false)
open Classical in
theorem ig {b:Bool} (h:b=true↔∀t,0<c t->al t s=false):b=dW c s:=by
 unfold dW;by_cases hp:∀t,0<c t->al t s=false
 . rw[LP hp];exact h.2 hp
 . rw[LO hp];cases b with
   |false=>rfl
   |true=>exact absurd (h.1 rfl) hp
theorem m3 (h:smC c k) (h1: -1099511627776<=n) (h2:n<=1099511627776):smC (dV c s n) (k+1):=fun t=>by have:=h t;unfold dV;split<;>omega
theorem ii:smC (fun _=>0) 0:=fun _=>by simp
end Go.Proofs.Ytenmccehpkiamaa
