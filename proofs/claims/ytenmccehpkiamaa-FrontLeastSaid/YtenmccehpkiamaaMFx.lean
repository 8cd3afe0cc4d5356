/- Counts by stamp in a map. -/
import Derived.Test.YtenmccehpkiamaaMFr
import Derived.Test.YtenmccehpkiamaaMHy
import Derived.Test.YtenmccehpkiamaaMSq
import Derived.Test.YtenmccehpkiamaaMFa
namespace Go.Proofs.Ytenmccehpkiamaa
set_option linter.unusedSimpArgs false
set_option maxHeartbeats 32000000
set_option maxRecDepth 100000
open Go Go.RowKit
attribute [go_sem] Try.results6 Try.results9 Try.results11 Try.results13 Try.results17 Try.results18 Try.results19 Try.results24
def fe (L:List Ch):List V:=L.map fun x=>ay x.1
def gi (L:List Ch):List V:=L.map fun x=> .x (.int .i64 x.2)
def dZ (s:aJ) (n:Int):List Ch->List Ch
 |[]=>[(s,n)]
 |x::L=>if x.1=s then (s,n)::L else x::dZ s n L
def e6 (s:aJ):List Ch->List Ch
 |[]=>[]
 |x::L=>if x.1=s then L else x::e6 s L
def fh (s:aJ):List Ch->Option Nat
 |[]=>none
 |x::L=>if x.1=s then some 0 else (fh s L).map (· +1)
abbrev eh (L:List Ch):Prop:=(L.map (·.1)).Nodup
theorem Ct (a b:aJ):wt Try.prog 20 24 (ay a) (ay b)=some (bD a b):=by obtain⟨s,c,r⟩:=a;obtain⟨s',c',r'⟩:=b;rw[bD,<-ba];simp +decide only[go_sem,ay]
theorem iQ (a:aJ):du Try.prog 24 (ay a)=true:=by obtain⟨s,c,r⟩:=a;unfold du;simp +decide [go_sem,ay,plainK,nr,ca]
theorem iq (s:aJ):∀(L:List Ch) (i:Nat),fl Try.prog 24 (ay s) (fe L) i=some ((fh s L).map (· +i))
 |[],_=>rfl
 | x ::L,i=>by
   have e:fl Try.prog 24 (ay s) (fe (x::L)) i=(match wt Try.prog 20 24 (ay s) (ay x.1) with
    |some true=>some (some i)
    |some false=>fl Try.prog 24 (ay s) (fe L) (i+1)
    |none=>none):=rfl
   rw[e,Ct];by_cases h:x.1=s
   . rw[show bD s x.1=true from dB.2 h.symm,fh,L0 h];simp
   . rw[show bD s x.1=false from ib.2 (M1 h),fh,L1 h];show fl _ _ _ _ _=_;rw[iq s L (i+1)];cases fh s L with
     |none=>rfl
     |some j=>simp only[Mo];congr 2;omega
theorem cg {s:aJ}:∀{L:List Ch} {i:Nat},fh s L=some i->∃n,L[i]?=some (s,n)∧cm L s=n∧(∀n',dZ s n' L=L.set i (s,n'))∧e6 s L=L.eraseIdx i
 |[],i,h=>by cases h
 | x::L,i,h=>by
   rw[fh] at h;by_cases e:x.1=s
   . rw[L0 e] at h;cases h;subst e;refine⟨x.2,rfl,by rw[cm,L0 rfl],fun n'=>by rw[dZ,L0 rfl];rfl,by rw[e6,L0 rfl];rfl⟩
   . rw[L1 e] at h;obtain⟨j,hj,rfl⟩:=LT.1 h;obtain⟨n,h1,h2,h3,h4⟩:=cg hj;exact⟨n,h1,by rw[cm,L1 e,h2],fun n'=>by rw[dZ,L1 e,h3];rfl,by rw[e6,L1 e,h4];rfl⟩
theorem cj {s:aJ}:∀{L:List Ch},fh s L=none->(∀x∈L,x.1≠s)∧(∀n,dZ s n L=L++[(s,n)])∧e6 s L=L
 |[],_=>⟨(fun x hx=>by cases hx),fun _=>rfl,rfl⟩
 | x ::L,h=>by
   rw[fh] at h;by_cases e:x.1=s
   . rw[L0 e] at h;cases h
   . rw[L1 e,Option.map_eq_none_iff] at h;obtain⟨h1,h2,h3⟩:=cj h;refine⟨fun y hy=>?_,fun n=>by rw[dZ,L1 e,h2];rfl,by rw[e6,L1 e,h3]⟩;rcases L8.1 hy with rfl|hy
     . exact e
     . exact h1 y hy
theorem pB (L:List Ch) (s:aJ) (z:Nat):dS Try.prog 27 (.mp z (fe L) (gi L)) (ay s) false=some (.x (.int .i64 (cm L s))):=by
 unfold dS;rw[Try.underlying27];simp only[V.kv,iQ,MH,iq];cases h:fh s L with
 |none=>rw[fM (cj h).1];simp only[MY,KV];rfl
 | some i=>
   obtain⟨n,h1,h2,_⟩:=cg h;have h3:(gi L)[i+0]?=some (.x (.int .i64 n)):=by rw[iO,gi,LS,h1];rfl
   simp only[Mo,h3,h2];rfl
theorem vX (s:aJ) (z:Nat):dS Try.prog 27 (.mp z [] []) (ay s) false=some (.x (.int .i64 0)):=pB [] s z
theorem Cu (L:List Ch) (s:aJ) (n:Int):putM Try.prog 27 (fe L) (gi L) (ay s) (.x (.int .i64 n))=some (fe (dZ s n L),gi (dZ s n L)):=by
 unfold putM;rw[Try.underlying27];have hd:(V.x (.int .i64 n)).dat=true:=rfl;simp only[iQ,hd,and_self,MH,iq];cases h:fh s L with
 |none=>obtain⟨_,h2,_⟩:=cj h;rw[h2,fe,gi,fe,gi,M8,M8];rfl
 | some i=>
   obtain⟨m,h1,_,h2,_⟩:=cg h;have h3:(fe L)[i+0]?=some (ay s):=by rw[iO,fe,LS,h1];rfl
   simp only[Mo,h3,MH];rw[h2,iO];congr 2
   . rw[fe,fe,List.map_set];exact(zs (by rw[LS,h1];rfl)).symm
   . rw[gi,gi,List.map_set]
theorem iR {α β:Type} (f:α->β):∀(L:List α) (i:Nat),(L.eraseIdx i).map f=(L.map f).eraseIdx i
 |[],_=>rfl
 |_::_,0=>rfl
 |x::L,i+1=>by simp only[List.eraseIdx_cons_succ,M5,iR f L i]
theorem tz (L:List Ch) (s:aJ):rX Try.prog 27 (fe L) (gi L) (ay s)=some (fe (e6 s L),gi (e6 s L)):=by
 unfold rX;rw[Try.underlying27];simp only[iQ,MH,iq];cases h:fh s L with
 |none=>obtain⟨_,_,h2⟩:=cj h;rw[h2];rfl
 |some i=>obtain⟨m,h1,_,_,h2⟩:=cg h;simp only[Mo,iO];rw[h2,fe,gi,fe,gi,iR,iR]
theorem pC (s:aJ) (n:Int):∀(L:List Ch) (t:aJ),cm (dZ s n L) t=if t=s then n else cm L t
 | [],t=>by
   show(if s=t then n else 0)=if t=s then n else 0
   by_cases h:t=s
   . rw[L0 h,L0 h.symm]
   . rw[L1 h,L1 (M1 h)]
 | x ::L,t=>by
   rw[dZ];by_cases e:x.1=s
   . rw[L0 e,cm];by_cases h:t=s
     . rw[L0 h.symm,L0 h]
     . rw[L1 (M1 h),L1 h,cm,L1 (fun q=>h (q.symm.trans e))]
   . rw[L1 e,cm,pC s n L t];by_cases h:t=s
     . rw[L0 h,L0 h,L1 (fun q=>e (q.trans h))]
     . rw[L1 h,L1 h,cm]
theorem pD (s:aJ):∀{L:List Ch},eh L->∀(t:aJ),cm (e6 s L) t=if t=s then 0 else cm L t
 |[],_,t=>by simp[e6,cm]
 | x ::L,h,t=>by
   rw[eh,M5,MK] at h;rw[e6];by_cases e:x.1=s
   . rw[L0 e];by_cases q:t=s
     . rw[L0 q,q,<-e];exact fM fun y hy he=>h.1 (Mw.2 ⟨y,hy,he⟩)
     . rw[L1 q,cm,L1 (fun q2=>q (q2.symm.trans e))]
   . rw[L1 e,cm,pD s h.2 t];by_cases q:t=s
     . rw[L0 q,L0 q,L1 (fun q2=>e (q2.trans q))]
     . rw[L1 q,L1 q,cm]
theorem fS:∀{L:List Ch},eh L->∀{x:Ch},x∈L->cm L x.1=x.2
 | y::L,h,x,hx=>by
   rw[eh,M5,MK] at h;rcases L8.1 hx with rfl|hx
   . rw[cm,L0 rfl]
   . rw[cm,L1 (fun e=>h.1 (Mw.2 ⟨x,hx,e.symm⟩))];exact fS h.2 hx
variable {s:aJ} {n:Int} {L:List Ch}
theorem vY (h:eh L):eh (dZ s n L):=by
 cases e:fh s L with
 |none=>obtain⟨h1,h2,_⟩:=cj e;rw[h2,eh,M8];exact Nf.2 ⟨h,by simp,fun a ha b hb q=>by obtain⟨x,hx,rfl⟩:=Mw.1 ha;simp at hb;exact h1 x hx (q.trans hb)⟩
 | some i=>
   obtain⟨m,h1,_,h2,_⟩:=cg e;rw[h2,eh,List.map_set];have:(L.map (·.1)).set i s=L.map (·.1):=by
    apply Nc;intro j;rw[Ob];split
    . rename_i q;subst q;rw[LS,h1];simp[(LN.1 h1).1]
    . rfl
   rw[this];exact h
theorem vZ (h:eh L):eh (e6 s L):=by
 cases e:fh s L with
 |none=>rw[(cj e).2.2];exact h
 |some i=>obtain⟨m,_,_,_,h2⟩:=cg e;rw[h2];exact List.Nodup.sublist ((Oe ..).map _) h
theorem zR (hn:n≠0) (h:∀x∈L,x.2≠0):∀x∈dZ s n L,x.2≠0:=fun x hx=>by
 cases e:fh s L with
 | none=>
   rw[(cj e).2.1] at hx;rcases L4.1 hx with hx|hx
   . exact h x hx
   . rw[LX.1 hx];exact hn
 | some i=>
   obtain⟨m,_,_,h2,_⟩:=cg e;rw[h2] at hx;rcases List.mem_or_eq_of_mem_set hx with hx|rfl
   . exact h x hx
   . exact hn
theorem zS {x:Ch} (hx:x∈e6 s L):x∈L:=by
 cases e:fh s L with
 |none=>rwa [(cj e).2.2] at hx
 |some i=>obtain⟨m,_,_,_,h2⟩:=cg e;rw[h2] at hx;exact N2 hx
theorem zT (s:aJ) (n:Int) (L:List Ch):(dZ s n L).length<=L.length+1:=by
 cases e:fh s L with
 |none=>rw[(cj e).2.1];simp
 |some i=>obtain⟨m,_,_,h2,_⟩:=cg e;rw[h2,N3];omega
theorem zU (s:aJ) (L:List Ch):(e6 s L).length<=L.length:=by
 cases e:fh s L with
 |none=>rw[(cj e).2.2];exact LM _
 |some i=>obtain⟨m,_,_,_,h2⟩:=cg e;rw[h2];exact(Oe ..).length_le
def MapO (H:HH):Option Nat->List Ch->Prop
 |none,L=>L=[]
 |some g,L=>MapH H g (fe L) (gi L)
def DFr:FrT:=fun H p c k F=>∃(L:List Ch) (g:Option Nat),H p=some (rowO [.map g] 29)∧MapO H g L∧g≠some p∧eh L∧(∀x∈L,x.2≠0)∧(∀s,c s=cm L s)∧(L.length<=k∧k<=100)∧F=p::g.toList
variable {H H':HH} {g:Option Nat}
theorem MapO.to (h:MapO H g L) (e:∀y,g=some y->H' y=H y):MapO H' g L:=by
 cases g with
 |none=>exact h
 |some g=>exact MapH.to h (e g rfl)
theorem DFr.ok:FrOK DFr 29 [.map none]:=by
 refine⟨?_,?_,?_⟩
 . rintro H H' p c k F ⟨L,g,h1,h2,h3,h4,h5,h6,h7,rfl⟩ hk;exact⟨L,g,(hk p (L9 ..)).trans h1,h2.to (fun y hy=>hk y (L7 _ (by rw[hy];simp))),h3,h4,h5,h6,h7,rfl⟩
 . rintro H p c k F ⟨L,g,h1,h2,h3,h4,h5,h6,h7,rfl⟩ y hy;rcases L8.1 hy with rfl|hy
   . rw[h1];simp
   . cases g with
     |none=>cases hy
     |some g=>obtain⟨ents,clock,e,_⟩:MapH H g (fe L) (gi L):=h2;simp only[Option.toList_some,LX] at hy;subst hy;rw[e];simp
 . intro H p h;exact⟨[],none,h,rfl,by simp,Nr,(fun x hx=>by cases hx),fun s=>rfl,⟨LM _,by decide⟩,rfl⟩
variable {T:V->HH->Prop}
theorem tA (h:MapO H g L) (hT:T (.x (.int .i64 (cm L s))) H):CU Try.prog 27 H (.agg [.x (.int .i64 s.1),.x (.int .i64 s.2.1),.x (.int .i64 s.2.2)]) false T g:=by
 cases g with
 |none=>have e:L=[]:=h;subst e;exact⟨_,rfl,vX s 0,hT⟩
 |some g=>exact⟨_,_,_,h,rfl,pB L s 0,hT⟩
def Gr (p:Nat) (g:Option Nat) (L:List Ch) (s:aJ):Nat->V
 |4=> .x (.int .i64 (cm L s))
 |7=> .x (ai p)
 |8=> .x (ai p)
 |9=> .x (ai p)
 |10=> .x (.map g)
 |11=> .agg [.x (.int .i64 s.1),.x (.int .i64 s.2.1),.x (.int .i64 s.2.2)]
 |12=> .x (.int .i64 (cm L s))
 |_=> .undef
theorem gN:cE (bO [] [] [] (fun _=>false) (fun _=>false)) 13 (mY DFr):=by
 refine cP (F:={F:=fun _=>none,D:=fun _=>false,any:=fun i=>i==3,Y:=lh (po Try.prog) (lW Try.prog)}) (n:=13) (k:=2) (aZ [] [] [] _ _ trivial trivial trivial) (by kernel_rfl) (fun f C e=>by cases e) (fun t s C e=>by cases e) Try.func13 rfl (fun a w=>Try.call13 a w) Try.ntmps13 (by decide) (by decide) (by kernel_rfl) ?_ (hY:=(cz jx pk));rintro us H T ⟨p,s,c,k,F,rfl,⟨L,g,hp,hM,hne,hO,hz,hc,⟨hk,hk1⟩,rfl⟩,hT⟩ hdat;clear hdat;refine⟨rfl,?_⟩;rw[hc] at hT;have fF:fg Try.prog 29 0=some 0:=by kernel_rfl
 have nT:pn Try.prog 26 (.x (.pointer none))=true:=by kernel_rfl
 have c1:=ah hp;simp +decide (maxDischargeDepth:=200) only[go_sem,Nat.reduceBEq,ay,fF,nT,c1,iO];refine aG (fun k=>match k with|1=>[7]|2=>[8]|3=>[9]|5=>[10,11]|6=>[12]|_=>[]) [] (fun k=>match k with|_=>0) (fun _ Hx _=>H=Hx) (Gr p g L s) (by kernel_rfl) (by kernel_rfl) (by kernel_rfl) rfl ?_ ?_ ?_
 . rintro j i' o Hx val st ho hW hj hJ hv hn hb hbb K' hk;have b0:st.t 0= .x (ai p):=hb 0 (by kernel_rfl);have b3:st.t 3= .ptr 3 0:=hb 3 (by kernel_rfl);have bb3:st.b 3=some ([.x (.int .i64 s.1),.x (.int .i64 s.2.1),.x (.int .i64 s.2.2)]):=(Mv hbb 3).trans (by kernel_rfl);clear hb hbb;subst hJ;rcases i' with _|_|_|_|_|_|_|i'
   . cases ho;simp +decide (maxDischargeDepth:=200) only[go_sem,Nat.reduceBEq,b0,fF,nT,c1,iO];exact hk _ (Le.refl _)
   . cases ho;have h7:st.t 7= .x (ai p):=(hn 7 (by decide)).trans (hv 7 (by kernel_rfl));simp +decide (maxDischargeDepth:=200) only[go_sem,Nat.reduceBEq,h7,fF,nT,c1,iO];exact hk _ (Le.refl _)
   . cases ho;have h8:st.t 8= .x (ai p):=(hn 8 (by decide)).trans (hv 8 (by kernel_rfl));simp +decide (maxDischargeDepth:=200) only[go_sem,Nat.reduceBEq,h8,fF,nT,c1,iO];exact hk _ (Le.refl _)
   . cases ho;have h9:st.t 9= .x (ai p):=(hn 9 (by decide)).trans (hv 9 (by kernel_rfl));simp +decide (maxDischargeDepth:=200) only[go_sem,Nat.reduceBEq,h9,fF,nT,c1,iO];exact hk _ (Le.refl _)
   . cases ho;simp +decide (maxDischargeDepth:=200) only[go_sem,Nat.reduceBEq,b3,bb3,fF,nT,c1,iO];exact hk _ (Le.refl _)
   . cases ho;have h10:st.t 10= .x (.map g):=(hn 10 (by decide)).trans (hv 10 (by kernel_rfl));have h11:st.t 11= .agg [.x (.int .i64 s.1),.x (.int .i64 s.2.1),.x (.int .i64 s.2.2)]:=(hn 11 (by decide)).trans (hv 11 (by kernel_rfl));simp +decide (maxDischargeDepth:=200) only[go_sem,Nat.reduceBEq,h10,h11,fF,nT,c1,iO];exact tA hM (by simp only[bj];exact hk _ (Le.refl _))
   . cases ho;have h12:st.t 12= .x (.int .i64 (cm L s)):=(hn 12 (by decide)).trans (hv 12 (by kernel_rfl));simp +decide (maxDischargeDepth:=200) only[go_sem,Nat.reduceBEq,h12,fF,nT,c1,iO];exact hk _ (Le.refl _)
   . cases ho
 . rintro j i' o Hx val st hj ho hJ hv hn hb hbb K' hk;have b0:st.t 0= .x (ai p):=hb 0 (by kernel_rfl);have b3:st.t 3= .ptr 3 0:=hb 3 (by kernel_rfl);have bb3:st.b 3=some ([.x (.int .i64 s.1),.x (.int .i64 s.2.1),.x (.int .i64 s.2.2)]):=(Mv hbb 3).trans (by kernel_rfl);clear hb hbb;rcases j with j
   . cases hj
 . rintro Hx val hJ hv;refine⟨[(4,.x (.int .i64 (cm L s)))],[],?_,?_,?_⟩
   . simp +decide only[go_sem,Nat.reduceBEq]<;>(repeat' first|exact aK (by kernel_rfl)|exact(aL (by kernel_rfl)).trans (hv _ (by kernel_rfl))|rfl|constructor)
   . simp +decide only[go_sem,Nat.reduceBEq]<;>(repeat' first|rfl|constructor)
   subst hJ;simp +decide (maxDischargeDepth:=200) only[go_sem,Nat.reduceBEq];exact hT
theorem Ey {g:Nat} (h:MapH H g (fe L) (gi L)) (hT:∀Hx,MapH Hx g (fe (e6 s L)) (gi (e6 s L))->(∀y,y≠g->Hx y=H y)->T (.x (.tuple #[])) Hx):Gf Try.prog 27 H g (.agg [.x (.int .i64 s.1),.x (.int .i64 s.2.1),.x (.int .i64 s.2.2)]) T:=
 ⟨_,_,_,_,h,rfl,tz L s,fun _ hm=>hT _ hm fun _ hy=>ag _ _ hy⟩
theorem zV {g:Nat} (h:MapH H g (fe L) (gi L)) (hT:∀Hx,MapH Hx g (fe (dZ s n L)) (gi (dZ s n L))->(∀y,y≠g->Hx y=H y)->T .undef Hx):Ge Try.prog 27 H g (.agg [.x (.int .i64 s.1),.x (.int .i64 s.2.1),.x (.int .i64 s.2.2)]) (.x (.int .i64 n)) T:=
 ⟨_,_,_,_,h,rfl,⟨rfl,_,rfl⟩,Cu L s n,fun _ hm=>hT _ hm fun _ hy=>ag _ _ hy⟩
theorem Cv (s:aJ):rX Try.prog 27 [] [] (.agg [.x (.int .i64 s.1),.x (.int .i64 s.2.1),.x (.int .i64 s.2.2)])=some ([],[]):=tz [] s
def Gs (p:Nat) (g:Option Nat) (L:List Ch) (s:aJ) (n:Int):Nat->V
 |6=> .x (.int .i64 (cm L s+n))
 |9=> .x (ai p)
 |10=> .x (ai p)
 |11=> .x (ai p)
 |12=> .x (.map g)
 |13=> .agg [.x (.int .i64 s.1),.x (.int .i64 s.2.1),.x (.int .i64 s.2.2)]
 |14=> .x (.int .i64 (cm L s))
 |15=> .x (.int .i64 n)
 |16=> .x (.int .i64 (cm L s+n))
 |_=> .undef
def Gt (p:Nat) (g:Option Nat) (s:aJ):Nat->V
 |19=> .x (ai p)
 |20=> .x (ai p)
 |21=> .x (ai p)
 |22=> .x (.map g)
 |23=> .agg [.x (.int .i64 s.1),.x (.int .i64 s.2.1),.x (.int .i64 s.2.2)]
 |_=> .undef
def CY (p g:Nat) (s:aJ) (m:Int):Nat->V
 |33=> .x (ai p)
 |34=> .x (ai p)
 |35=> .x (ai p)
 |36=> .x (.map (some g))
 |37=> .agg [.x (.int .i64 s.1),.x (.int .i64 s.2.1),.x (.int .i64 s.2.2)]
 |38=> .x (.int .i64 m)
 |_=> .undef
theorem kN:cE (bO [] [] [] (fun _=>false) (fun _=>false)) 6 (Ce DFr):=by
 refine cP (F:={F:=fun _=>none,D:=fun _=>false,any:=fun i=>i==2||(i==4||i==7),Y:=lh (po Try.prog) (lh (lW Try.prog) (lh (zp Try.prog) (lh (pl Try.prog) (lh (Gd fun d=>d==30) (zo Try.prog)))))}) (n:=39) (k:=3) (aZ [] [] [] _ _ trivial trivial trivial) (by kernel_rfl) (fun f C e=>by cases e) (fun t s C e=>by cases e) Try.func6 rfl (fun a w=>Try.call6 a w) Try.ntmps6 (by decide) (by decide) (by kernel_rfl) ?_ (hY:=(cz jx (cz pk (cz (Cc (aZ [] [] [] _ _ trivial trivial trivial)) (cz zu (cz (Ek (aZ [] [] [] _ _ trivial trivial trivial) _) (Cb (aZ [] [] [] _ _ trivial trivial trivial))))))));rintro us H T ⟨p,s,n,c,k,F,rfl,⟨L,g,hp,hM,hne,hO,hz,hc,⟨hk,hk1⟩,rfl⟩,hk2,hbig,hn,hT⟩ hdat;clear hdat;refine⟨rfl,?_⟩;have hcs:=hbig s;rw[hc] at hcs;have hw:av .i64 (cm L s+n)=cm L s+n:=am (by unfold bS;omega);have fF:fg Try.prog 29 0=some 0:=by kernel_rfl
 have nT:pn Try.prog 26 (.x (.pointer none))=true:=by kernel_rfl
 have c1:=ah hp;simp +decide (maxDischargeDepth:=200) only[go_sem,Nat.reduceBEq,ay,fF,nT,c1,iO];refine aG (fun k=>match k with|1=>[9]|2=>[10]|3=>[11]|5=>[12,13]|7=>[14,15]|8=>[16]|_=>[]) [] (fun k=>match k with|_=>0) (fun _ Hx _=>H=Hx) (Gs p g L s n) (by kernel_rfl) (by kernel_rfl) (by kernel_rfl) rfl ?_ ?_ ?_
 . rintro j i' o Hx val st ho hW hj hJ hv hn hb hbb K' hk;have b0:st.t 0= .x (ai p):=hb 0 (by kernel_rfl);have b2:st.t 2= .x (.int .i64 n):=hb 2 (by kernel_rfl);have b4:st.t 4= .ptr 4 0:=hb 4 (by kernel_rfl);have bb4:st.b 4=some ([.x (.int .i64 s.1),.x (.int .i64 s.2.1),.x (.int .i64 s.2.2)]):=(Mv hbb 4).trans (by kernel_rfl);clear hb hbb;subst hJ;rcases i' with _|_|_|_|_|_|_|_|_|i'
   . cases ho;simp +decide (maxDischargeDepth:=200) only[go_sem,Nat.reduceBEq,b0,fF,nT,c1,iO,hw];exact hk _ (Le.refl _)
   . cases ho;have h9:st.t 9= .x (ai p):=(hn 9 (by decide)).trans (hv 9 (by kernel_rfl));simp +decide (maxDischargeDepth:=200) only[go_sem,Nat.reduceBEq,h9,fF,nT,c1,iO,hw];exact hk _ (Le.refl _)
   . cases ho;have h10:st.t 10= .x (ai p):=(hn 10 (by decide)).trans (hv 10 (by kernel_rfl));simp +decide (maxDischargeDepth:=200) only[go_sem,Nat.reduceBEq,h10,fF,nT,c1,iO,hw];exact hk _ (Le.refl _)
   . cases ho;have h11:st.t 11= .x (ai p):=(hn 11 (by decide)).trans (hv 11 (by kernel_rfl));simp +decide (maxDischargeDepth:=200) only[go_sem,Nat.reduceBEq,h11,fF,nT,c1,iO,hw];exact hk _ (Le.refl _)
   . cases ho;simp +decide (maxDischargeDepth:=200) only[go_sem,Nat.reduceBEq,b4,bb4,fF,nT,c1,iO,hw];exact hk _ (Le.refl _)
   . cases ho;have h12:st.t 12= .x (.map g):=(hn 12 (by decide)).trans (hv 12 (by kernel_rfl));have h13:st.t 13= .agg [.x (.int .i64 s.1),.x (.int .i64 s.2.1),.x (.int .i64 s.2.2)]:=(hn 13 (by decide)).trans (hv 13 (by kernel_rfl));simp +decide (maxDischargeDepth:=200) only[go_sem,Nat.reduceBEq,h12,h13,fF,nT,c1,iO,hw];exact tA hM (by simp only[bj];exact hk _ (Le.refl _))
   . cases ho;simp +decide (maxDischargeDepth:=200) only[go_sem,Nat.reduceBEq,b2,fF,nT,c1,iO,hw];exact hk _ (Le.refl _)
   . cases ho;have h14:st.t 14= .x (.int .i64 (cm L s)):=(hn 14 (by decide)).trans (hv 14 (by kernel_rfl));have h15:st.t 15= .x (.int .i64 n):=(hn 15 (by decide)).trans (hv 15 (by kernel_rfl));simp +decide (maxDischargeDepth:=200) only[go_sem,Nat.reduceBEq,h14,h15,fF,nT,c1,iO,hw];exact hk _ (Le.refl _)
   . cases ho;have h16:st.t 16= .x (.int .i64 (cm L s+n)):=(hn 16 (by decide)).trans (hv 16 (by kernel_rfl));simp +decide (maxDischargeDepth:=200) only[go_sem,Nat.reduceBEq,h16,fF,nT,c1,iO,hw];exact hk _ (Le.refl _)
   . cases ho
 . rintro j i' o Hx val st hj ho hJ hv hn hb hbb K' hk;have b0:st.t 0= .x (ai p):=hb 0 (by kernel_rfl);have b2:st.t 2= .x (.int .i64 n):=hb 2 (by kernel_rfl);have b4:st.t 4= .ptr 4 0:=hb 4 (by kernel_rfl);have bb4:st.b 4=some ([.x (.int .i64 s.1),.x (.int .i64 s.2.1),.x (.int .i64 s.2.2)]):=(Mv hbb 4).trans (by kernel_rfl);clear hb hbb;rcases j with j
   . cases hj
 . rintro Hx val hJ hv;refine⟨[(0,.x (ai p)),(2,.x (.int .i64 n)),(4,.ptr 4 0),(6,.x (.int .i64 (cm L s+n)))],[(4,[.x (.int .i64 s.1),.x (.int .i64 s.2.1),.x (.int .i64 s.2.2)])],?_,?_,?_⟩
   . simp +decide only[go_sem,Nat.reduceBEq]<;>(repeat' first|exact aK (by kernel_rfl)|exact(aL (by kernel_rfl)).trans (hv _ (by kernel_rfl))|rfl|constructor)
   . simp +decide only[go_sem,Nat.reduceBEq]<;>(repeat' first|rfl|constructor)
   subst hJ;clear hv;have hgp:g≠some p:=hne;by_cases h0:cm L s+n=0
   . have d0:=LP h0;simp +decide (maxDischargeDepth:=200) only[go_sem,Nat.reduceBEq,fF,nT,c1,iO,d0];refine aG (fun k=>match k with|1=>[19]|2=>[20]|3=>[21]|5=>[22,23]|_=>[]) [5] (fun k=>match k with|0=>0|1=>0|2=>0|3=>0|4=>0|_=>1) (fun j Hx _=>match j with|0=>Hx=H|_=>MapO Hx g (e6 s L)∧∀y,g≠some y->Hx y=H y) (Gt p g s) (by kernel_rfl) (by kernel_rfl) (by kernel_rfl) rfl ?_ ?_ ?_
     . rintro j i' o Hx val st ho hW hj hJ hv hn hb hbb K' hk;have b0:st.t 0= .x (ai p):=hb 0 (by kernel_rfl);have b4:st.t 4= .ptr 4 0:=hb 4 (by kernel_rfl);have bb4:st.b 4=some ([.x (.int .i64 s.1),.x (.int .i64 s.2.1),.x (.int .i64 s.2.2)]):=(Mv hbb 4).trans (by kernel_rfl);clear hb hbb;have hHp:Hx p=some (rowO [.map g] 29):=by
        rcases j with _|j
        . have e:Hx=H:=hJ;rw[e];exact hp
        . rw[(show _∧_ from hJ).2 p hgp];exact hp
       have c7:=ah hHp;rcases i' with _|_|_|_|_|_|i'
       . cases ho;simp +decide (maxDischargeDepth:=200) only[go_sem,Nat.reduceBEq,b0,fF,nT,c7,iO];exact hk _ (Le.refl _)
       . cases ho;have h19:st.t 19= .x (ai p):=(hn 19 (by decide)).trans (hv 19 (by kernel_rfl));simp +decide (maxDischargeDepth:=200) only[go_sem,Nat.reduceBEq,h19,fF,nT,c7,iO];exact hk _ (Le.refl _)
       . cases ho;have h20:st.t 20= .x (ai p):=(hn 20 (by decide)).trans (hv 20 (by kernel_rfl));simp +decide (maxDischargeDepth:=200) only[go_sem,Nat.reduceBEq,h20,fF,nT,c7,iO];exact hk _ (Le.refl _)
       . cases ho;have h21:st.t 21= .x (ai p):=(hn 21 (by decide)).trans (hv 21 (by kernel_rfl));simp +decide (maxDischargeDepth:=200) only[go_sem,Nat.reduceBEq,h21,fF,nT,c7,iO];exact hk _ (Le.refl _)
       . cases ho;simp +decide (maxDischargeDepth:=200) only[go_sem,Nat.reduceBEq,b4,bb4,fF,nT,c7,iO];exact hk _ (Le.refl _)
       . cases hW
       . cases ho
     . rintro j i' o Hx val st hj ho hJ hv hn hb hbb K' hk;have b0:st.t 0= .x (ai p):=hb 0 (by kernel_rfl);have b4:st.t 4= .ptr 4 0:=hb 4 (by kernel_rfl);have bb4:st.b 4=some ([.x (.int .i64 s.1),.x (.int .i64 s.2.1),.x (.int .i64 s.2.2)]):=(Mv hbb 4).trans (by kernel_rfl);clear hb hbb;rcases j with _|j
       . cases hj;cases ho;have h22:st.t 22= .x (.map g):=(hn 22 (by decide)).trans (hv 22 (by kernel_rfl));have h23:st.t 23= .agg [.x (.int .i64 s.1),.x (.int .i64 s.2.1),.x (.int .i64 s.2.2)]:=(hn 23 (by decide)).trans (hv 23 (by kernel_rfl));have e:Hx=H:=hJ;subst e;cases g with
         |none=>have e:L=[]:=hM;subst e;have dM:=Cv s;simp +decide (maxDischargeDepth:=200) only[go_sem,Nat.reduceBEq,h22,h23,dM];exact hk _ .undef _ ⟨rfl,fun _ _=>rfl⟩ (Le.refl _)
         |some g=>simp +decide (maxDischargeDepth:=200) only[go_sem,Nat.reduceBEq,h22,h23];exact Ey hM fun H' q1 q2=>hk H' .undef _ ⟨q1,fun y hy=>q2 y (fun e=>hy (by rw[e]))⟩ (Le.refl _)
       . cases hj
     . rintro Hx val hJ hv;refine⟨[],[(4,[.x (.int .i64 s.1),.x (.int .i64 s.2.1),.x (.int .i64 s.2.2)])],?_,?_,?_⟩
       . simp +decide only[go_sem,Nat.reduceBEq]<;>(repeat' first|exact aK (by kernel_rfl)|exact(aL (by kernel_rfl)).trans (hv _ (by kernel_rfl))|rfl|constructor)
       . simp +decide only[go_sem,Nat.reduceBEq]<;>(repeat' first|rfl|constructor)
       obtain⟨hM2,hK2⟩:MapO Hx g (e6 s L)∧_:=hJ;simp +decide (maxDischargeDepth:=200) only[go_sem,Nat.reduceBEq];refine hT Hx (p::g.toList) ⟨e6 s L,g,(hK2 p hgp).trans hp,hM2,hne,vZ hO,fun x hx=>hz x (zS hx),fun t=>?_,⟨tl (zU s L) (Nat.le_succ_of_le hk),hk2⟩,rfl⟩ (fun y hy _=>hK2 y (fun e=>hy (by rw[e];simp))) (fun y hy=> .inl hy);rw[pD s hO,dV];by_cases e:t=s
       . rw[L0 e,L0 e,hc,e];exact h0
       . rw[L1 e,L1 e,hc]
   have d0:=LO h0;have hfin:∀(g1:Nat) (H1 Hx:HH),H1 p=some (rowO [.map (some g1)] 29)->MapH Hx g1 (fe (dZ s (cm L s+n) L)) (gi (dZ s (cm L s+n) L))->g1≠p->(g=some g1∨H g1=none)->(∀y,y≠g1->Hx y=H1 y)->(∀y,y≠p->y≠g1->H1 y=H y)->T (.tup []) Hx:=fun g1 H1 Hx q1 q2 q3 q4 q5 q6=>by
    refine hT Hx [p,g1] ⟨dZ s (cm L s+n) L,some g1,(q5 p (M1 q3)).trans q1,q2,(fun e=>q3 (MU e)),vY hO,zR h0 hz,fun t=>?_,⟨tl (zT s _ L) (Nat.succ_le_succ hk),hk2⟩,rfl⟩ (fun y hy hn2=>?_) (fun y hy=>?_)
    . rw[pC,dV];by_cases e:t=s
      . rw[L0 e,L0 e,hc,e]
      . rw[L1 e,L1 e,hc]
    . have e1:y≠p:=fun e=>hy (by rw[e];simp)
      have e2:y≠g1:=fun e=>by
       rcases q4 with q4|q4
       . exact hy (by rw[q4,e];simp)
       . rw[e] at hn2;exact hn2 q4
      exact(q5 y e2).trans (q6 y e1 e2)
    . simp only[L8,Oh,or_false] at hy;rcases hy with rfl|rfl
      . exact .inl (by simp)
      . rcases q4 with q4|q4
        . exact .inl (by rw[q4];simp)
        . exact .inr q4
   cases g with
   | none=>
     have e:L=[]:=hM;subst e;simp +decide (maxDischargeDepth:=200) only[go_sem,Nat.reduceBEq,fF,nT,c1,iO,d0,Option.isNone_none];intro gn hgn hMn;have hgp':p≠gn:=fun e=>by rw[<-e,hp] at hgn;cases hgn
     have hp3:(au H gn (some (.map #[] 0))) p=some (rowO [.map none] 29):=(ag _ _ hgp').trans hp;have c3:=ah hp3;have sp0:cd [Value.map none] 0 [Value.map (some gn)]=[Value.map (some gn)]:=rfl;simp +decide (maxDischargeDepth:=200) only[go_sem,Nat.reduceBEq,fF,nT,c1,iO,c3,sp0];have hp4:(au (au H gn (some (.map #[] 0))) p (some (rowO [.map (some gn)] 29))) p=some (rowO [.map (some gn)] 29):=aa _ _ _;have hM4:MapH (au (au H gn (some (.map #[] 0))) p (some (rowO [.map (some gn)] 29))) gn (fe []) (gi []):=MapH.to hMn (ag _ _ (M1 hgp'));have hK4:∀y,y≠p->y≠gn->(au (au H gn (some (.map #[] 0))) p (some (rowO [.map (some gn)] 29))) y=H y:=fun y h1 h2=>(ag _ _ h1).trans (ag _ _ h2)
     generalize (au (au H gn (some (.map #[] 0))) p (some (rowO [.map (some gn)] 29)))=H4 at hp4 hM4 hK4⊢;refine aG (fun k=>match k with|1=>[33]|2=>[34]|3=>[35]|6=>[36,37,38]|_=>[]) [6] (fun k=>match k with|0=>0|1=>0|2=>0|3=>0|4=>0|5=>0|_=>1) (fun j Hx _=>match j with|0=>Hx=H4|_=>MapH Hx gn (fe (dZ s (cm [] s+n) [])) (gi (dZ s (cm [] s+n) []))∧∀y,y≠gn->Hx y=H4 y) (CY p gn s (cm [] s+n)) (by kernel_rfl) (by kernel_rfl) (by kernel_rfl) rfl ?_ ?_ ?_
     . rintro j i' o Hx val st ho hW hj hJ hv hn hb hbb K' hk;have b0:st.t 0= .x (ai p):=hb 0 (by kernel_rfl);have b4:st.t 4= .ptr 4 0:=hb 4 (by kernel_rfl);have b6:st.t 6= .x (.int .i64 (cm [] s+n)):=hb 6 (by kernel_rfl);have bb4:st.b 4=some ([.x (.int .i64 s.1),.x (.int .i64 s.2.1),.x (.int .i64 s.2.2)]):=(Mv hbb 4).trans (by kernel_rfl);clear hb hbb;have hHp:Hx p=some (rowO [.map (some gn)] 29):=by
        rcases j with _|j
        . have e:Hx=H4:=hJ;rw[e];exact hp4
        . rw[(show _∧_ from hJ).2 p hgp'];exact hp4
       have c7:=ah hHp;rcases i' with _|_|_|_|_|_|_|i'
       . cases ho;simp +decide (maxDischargeDepth:=200) only[go_sem,Nat.reduceBEq,b0,fF,nT,c7,iO];exact hk _ (Le.refl _)
       . cases ho;have h33:st.t 33= .x (ai p):=(hn 33 (by decide)).trans (hv 33 (by kernel_rfl));simp +decide (maxDischargeDepth:=200) only[go_sem,Nat.reduceBEq,h33,fF,nT,c7,iO];exact hk _ (Le.refl _)
       . cases ho;have h34:st.t 34= .x (ai p):=(hn 34 (by decide)).trans (hv 34 (by kernel_rfl));simp +decide (maxDischargeDepth:=200) only[go_sem,Nat.reduceBEq,h34,fF,nT,c7,iO];exact hk _ (Le.refl _)
       . cases ho;have h35:st.t 35= .x (ai p):=(hn 35 (by decide)).trans (hv 35 (by kernel_rfl));simp +decide (maxDischargeDepth:=200) only[go_sem,Nat.reduceBEq,h35,fF,nT,c7,iO];exact hk _ (Le.refl _)
       . cases ho;simp +decide (maxDischargeDepth:=200) only[go_sem,Nat.reduceBEq,b4,bb4,fF,nT,c7,iO];exact hk _ (Le.refl _)
       . cases ho;simp +decide (maxDischargeDepth:=200) only[go_sem,Nat.reduceBEq,b6,fF,nT,c7,iO];exact hk _ (Le.refl _)
       . cases hW
       . cases ho
     . rintro j i' o Hx val st hj ho hJ hv hn hb hbb K' hk;have b0:st.t 0= .x (ai p):=hb 0 (by kernel_rfl);have b4:st.t 4= .ptr 4 0:=hb 4 (by kernel_rfl);have b6:st.t 6= .x (.int .i64 (cm [] s+n)):=hb 6 (by kernel_rfl);have bb4:st.b 4=some ([.x (.int .i64 s.1),.x (.int .i64 s.2.1),.x (.int .i64 s.2.2)]):=(Mv hbb 4).trans (by kernel_rfl);clear hb hbb;rcases j with _|j
       . cases hj;cases ho;have h36:st.t 36= .x (.map (some gn)):=(hn 36 (by decide)).trans (hv 36 (by kernel_rfl));have h37:st.t 37= .agg [.x (.int .i64 s.1),.x (.int .i64 s.2.1),.x (.int .i64 s.2.2)]:=(hn 37 (by decide)).trans (hv 37 (by kernel_rfl));have h38:st.t 38= .x (.int .i64 (cm [] s+n)):=(hn 38 (by decide)).trans (hv 38 (by kernel_rfl));have e:Hx=H4:=hJ;subst e;simp +decide (maxDischargeDepth:=200) only[go_sem,Nat.reduceBEq,h36,h37,h38];exact zV hM4 fun H' q1 q2=>hk H' .undef _ ⟨q1,q2⟩ (Le.refl _)
       . cases hj
     . rintro Hx val hJ hv;refine⟨[],[(4,[.x (.int .i64 s.1),.x (.int .i64 s.2.1),.x (.int .i64 s.2.2)])],?_,?_,?_⟩
       . simp +decide only[go_sem,Nat.reduceBEq]<;>(repeat' first|exact aK (by kernel_rfl)|exact(aL (by kernel_rfl)).trans (hv _ (by kernel_rfl))|rfl|constructor)
       . simp +decide only[go_sem,Nat.reduceBEq]<;>(repeat' first|rfl|constructor)
       obtain⟨hM2,hK2⟩:MapH Hx gn _ _∧_:=hJ;simp +decide (maxDischargeDepth:=200) only[go_sem,Nat.reduceBEq];exact hfin gn H4 Hx hp4 hM2 (M1 hgp') (.inr hgn) hK2 hK4
   | some g=>
     have hgp':p≠g:=fun e=>hgp (by rw[e])
     simp +decide (maxDischargeDepth:=200) only[go_sem,Nat.reduceBEq,fF,nT,c1,iO,d0,Option.isNone_some];refine aG (fun k=>match k with|1=>[33]|2=>[34]|3=>[35]|6=>[36,37,38]|_=>[]) [6] (fun k=>match k with|0=>0|1=>0|2=>0|3=>0|4=>0|5=>0|_=>1) (fun j Hx _=>match j with|0=>Hx=H|_=>MapH Hx g (fe (dZ s (cm L s+n) L)) (gi (dZ s (cm L s+n) L))∧∀y,y≠g->Hx y=H y) (CY p g s (cm L s+n)) (by kernel_rfl) (by kernel_rfl) (by kernel_rfl) rfl ?_ ?_ ?_
     . rintro j i' o Hx val st ho hW hj hJ hv hn hb hbb K' hk;have b0:st.t 0= .x (ai p):=hb 0 (by kernel_rfl);have b4:st.t 4= .ptr 4 0:=hb 4 (by kernel_rfl);have b6:st.t 6= .x (.int .i64 (cm L s+n)):=hb 6 (by kernel_rfl);have bb4:st.b 4=some ([.x (.int .i64 s.1),.x (.int .i64 s.2.1),.x (.int .i64 s.2.2)]):=(Mv hbb 4).trans (by kernel_rfl);clear hb hbb;have hHp:Hx p=some (rowO [.map (some g)] 29):=by
        rcases j with _|j
        . have e:Hx=H:=hJ;rw[e];exact hp
        . rw[(show _∧_ from hJ).2 p hgp'];exact hp
       have c7:=ah hHp;rcases i' with _|_|_|_|_|_|_|i'
       . cases ho;simp +decide (maxDischargeDepth:=200) only[go_sem,Nat.reduceBEq,b0,fF,nT,c7,iO];exact hk _ (Le.refl _)
       . cases ho;have h33:st.t 33= .x (ai p):=(hn 33 (by decide)).trans (hv 33 (by kernel_rfl));simp +decide (maxDischargeDepth:=200) only[go_sem,Nat.reduceBEq,h33,fF,nT,c7,iO];exact hk _ (Le.refl _)
       . cases ho;have h34:st.t 34= .x (ai p):=(hn 34 (by decide)).trans (hv 34 (by kernel_rfl));simp +decide (maxDischargeDepth:=200) only[go_sem,Nat.reduceBEq,h34,fF,nT,c7,iO];exact hk _ (Le.refl _)
       . cases ho;have h35:st.t 35= .x (ai p):=(hn 35 (by decide)).trans (hv 35 (by kernel_rfl));simp +decide (maxDischargeDepth:=200) only[go_sem,Nat.reduceBEq,h35,fF,nT,c7,iO];exact hk _ (Le.refl _)
       . cases ho;simp +decide (maxDischargeDepth:=200) only[go_sem,Nat.reduceBEq,b4,bb4,fF,nT,c7,iO];exact hk _ (Le.refl _)
       . cases ho;simp +decide (maxDischargeDepth:=200) only[go_sem,Nat.reduceBEq,b6,fF,nT,c7,iO];exact hk _ (Le.refl _)
       . cases hW
       . cases ho
     . rintro j i' o Hx val st hj ho hJ hv hn hb hbb K' hk;have b0:st.t 0= .x (ai p):=hb 0 (by kernel_rfl);have b4:st.t 4= .ptr 4 0:=hb 4 (by kernel_rfl);have b6:st.t 6= .x (.int .i64 (cm L s+n)):=hb 6 (by kernel_rfl);have bb4:st.b 4=some ([.x (.int .i64 s.1),.x (.int .i64 s.2.1),.x (.int .i64 s.2.2)]):=(Mv hbb 4).trans (by kernel_rfl);clear hb hbb;rcases j with _|j
       . cases hj;cases ho;have h36:st.t 36= .x (.map (some g)):=(hn 36 (by decide)).trans (hv 36 (by kernel_rfl));have h37:st.t 37= .agg [.x (.int .i64 s.1),.x (.int .i64 s.2.1),.x (.int .i64 s.2.2)]:=(hn 37 (by decide)).trans (hv 37 (by kernel_rfl));have h38:st.t 38= .x (.int .i64 (cm L s+n)):=(hn 38 (by decide)).trans (hv 38 (by kernel_rfl));have e:Hx=H:=hJ;subst e;simp +decide (maxDischargeDepth:=200) only[go_sem,Nat.reduceBEq,h36,h37,h38];exact zV (show MapH _ g (fe L) (gi L) from hM) fun H' q1 q2=>hk H' .undef _ ⟨q1,q2⟩ (Le.refl _)
       . cases hj
     . rintro Hx val hJ hv;refine⟨[],[(4,[.x (.int .i64 s.1),.x (.int .i64 s.2.1),.x (.int .i64 s.2.2)])],?_,?_,?_⟩
       . simp +decide only[go_sem,Nat.reduceBEq]<;>(repeat' first|exact aK (by kernel_rfl)|exact(aL (by kernel_rfl)).trans (hv _ (by kernel_rfl))|rfl|constructor)
       . simp +decide only[go_sem,Nat.reduceBEq]<;>(repeat' first|rfl|constructor)
       obtain⟨hM2,hK2⟩:MapH Hx g _ _∧_:=hJ;simp +decide (maxDischargeDepth:=200) only[go_sem,Nat.reduceBEq];exact hfin g H Hx hp hM2 (M1 hgp') (.inl rfl) hK2 (fun _ _ _=>rfl)
theorem pE (h:MapO H g L):∀g',g=some g'->∃ks vs,MapH H g' ks vs:=fun g' e=>by subst e;exact⟨_,_,h⟩
theorem Gu:∃kt et,Try.prog.underlying 27=some (.map kt et):=⟨_,_,Try.underlying27⟩
variable {Hx:HH} {r:Nat} {vis:List Nat}
theorem Cw (hM:MapO H g L) (hr:H r=none) (hI:ItO Hx r g vis) (hk:∀y,y≠r->Hx y=H y)
 (h0:(∀i,i<L.length->i∈vis)->T (.tup [.x (.bool false)]) Hx) (h1:∀(i:Nat) (x:Ch) Hy,L[i]?=some x->i∉vis->ItO Hy r g (vis++[i])->(∀y,y≠r->Hy y=H y)->T (.tup [.x (.bool true),.agg [.x (.int .i64 x.1.1),.x (.int .i64 x.1.2.1),.x (.int .i64 x.1.2.2)],.x (.int .i64 x.2)]) Hy):zt Hx r T:=by
 cases g with
 |none=>have e:L=[]:=hM;subst e;exact .inr ⟨hI.1,h0 fun i hi=>by simp at hi⟩
 | some g=>
   have hM':MapH H g (fe L) (gi L):=hM;have hgr:g≠r:=fun e=>by obtain⟨_,_,e',_⟩:=hM';rw[e,hr] at e';cases e'
   refine .inl ⟨g,_,_,vis,hM'.to (hk g hgr),hI,fun h=>h0 fun i hi=>h i (by simpa[fe] using hi),fun i k v hk1 hv1 hn ob hI2=>?_⟩;rw[fe,LS] at hk1;rw[gi,LS] at hv1;obtain⟨x,hx,rfl⟩:=LT.1 hk1;rw[hx] at hv1;cases hv1;exact h1 i x _ hx hn hI2 fun y hy=>(ag _ _ hy).trans (hk y hy)
theorem zW {i:Nat} {x:Ch} (hM:MapO H g L) (hr:H r=none) (hI:ItO Hx r g (vis++[i])) (hk:∀y,y≠r->Hx y=H y) (hx:L[i]?=some x)
 (h1:T (.tup [.agg [.x (.int .i64 x.1.1),.x (.int .i64 x.1.2.1),.x (.int .i64 x.1.2.2)],.x (.int .i64 x.2)]) Hx):rY Hx r T:=by
 cases g with
 |none=>have e:L=[]:=hM;rw[e] at hx;simp at hx
 | some g=>
   have hM':MapH H g (fe L) (gi L):=hM;have hgr:g≠r:=fun e=>by obtain⟨_,_,e',_⟩:=hM';rw[e,hr] at e';cases e'
   exact⟨g,_,_,vis,i,ay x.1,_,hM'.to (hk g hgr),hI,by rw[fe,LS,hx];rfl,by rw[gi,LS,hx];rfl,h1⟩
theorem fT:cE (bO [(20,aq)] [] [] (fun _=>false) (fun _=>false)) 11 (jy DFr):=by
 refine mX (F:={F:=fun _=>none,D:=fun _=>false,Y:=lh (po Try.prog) (lh (f8 (fun d=>d==13) Try.prog) (lh (iL fun d=>d==14) iK))}) (n:=26) (k:=2) (aZ [(20,aq)] [] [] _ _ ⟨de,trivial⟩ trivial trivial) (by kernel_rfl) (fun f C e=>by cases e) (fun t s C e=>by cases e) Try.func11 rfl (fun a w=>Try.call11 a w) Try.ntmps11 (by decide) (by decide) (by kernel_rfl) ?_ (hY:=(cz jx (cz (kA (aZ [(20,aq)] [] [] _ _ ⟨de,trivial⟩ trivial trivial) _) (cz (lZ (aZ [(20,aq)] [] [] _ _ ⟨de,trivial⟩ trivial trivial) _) lY))));rintro us H T ⟨p,s,c,k,F,rfl,⟨L,g,hp,hM,hne,hO,hz,hc,⟨hk,hk1⟩,rfl⟩,hT⟩ hdat;clear hdat;refine⟨rfl,?_⟩;have fF:fg Try.prog 29 0=some 0:=by kernel_rfl
 have nT:pn Try.prog 26 (.x (.pointer none))=true:=by kernel_rfl
 have c1:=ah hp;simp +decide (maxDischargeDepth:=200) only[go_sem,Nat.reduceBEq,ay,fF,nT,c1,iO];refine⟨Gu,pE hM,fun r ob hr hI0=>?_⟩;refine bz (X:={vis:List Nat//∀i∈vis,∀x,L[i]?=some x->0<x.2->al x.1 s=false}) (fun _=>[(3,.ptr 3 0),(13,.x (.pointer (some ⟨r,0,none⟩)))]) (fun _=>[(3,[.x (.int .i64 s.1),.x (.int .i64 s.2.1),.x (.int .i64 s.2.2)])]) (fun vis Hx=>ItO Hx r g vis.1∧∀y,y≠r->Hx y=H y) (fun vis=>((List.range L.length).filter fun j=>decide (j∉vis.1)).length) ⟨[],fun i hi=>by cases hi⟩ (by simp +decide only[go_sem,Nat.reduceBEq,Mc]<;>(repeat' first|rfl|constructor)) (by simp +decide only[go_sem,Nat.reduceBEq,Mc]<;>(repeat' first|rfl|constructor)) ⟨hI0,fun y hy=>ag _ _ hy⟩ ?_;rintro⟨vis,hvis⟩ Hx ⟨hI,hK⟩;simp only at hvis hI⊢;have hkeep:∀Hy:HH,(∀y,y≠r->Hy y=H y)->∀y ob,H y=some ob->Hy y=some ob:=fun Hy h y ob e=>(h y (fun q=>by rw[q,hr] at e;cases e)).trans e
 simp +decide (maxDischargeDepth:=200) only[go_sem,Nat.reduceBEq];refine Cw hM hr hI hK (fun hall=>?_) (fun i x Hy hx hni hI2 hK2=>?_)
 . simp +decide (maxDischargeDepth:=200) only[go_sem,Nat.reduceBEq];exact kB (hkeep Hx hK) (hT true ⟨fun _ t ht=>by rw[hc] at ht;obtain⟨x,hx,rfl⟩:=kE (L:=L) (s:=t) (by omega);rw[fS hO hx] at ht;obtain⟨i,hi⟩:=MX.1 hx;exact hvis i (hall i (LN.1 hi).1) x hi ht,fun _=>rfl⟩)
 . simp +decide (maxDischargeDepth:=200) only[go_sem,Nat.reduceBEq];refine zW hM hr hI2 hK2 hx ?_;have hag:∀(hno:0<x.2->al x.1 s=false),∀j∈vis++[i],∀y,L[j]?=some y->0<y.2->al y.1 s=false:=fun hno j hj y hy h0=>by
    rcases L4.1 hj with hj|hj
    . exact hvis j hj y hy h0
    . rw[LX.1 hj,hx] at hy;cases hy;exact hno h0
   have hil:=(LN.1 hx).1;by_cases hn:0<x.2
   . have dg:=LP hn;have ew:ef x.1.1 x.1.2.1 x.1.2.2 s.1 s.2.1 s.2.2=al x.1 s:=rfl;cases hq:al x.1 s
     . simp +decide (maxDischargeDepth:=200) only[go_sem,Nat.reduceBEq,dg,aq,ew,hq];exact⟨⟨vis++[i],hag fun _=>hq⟩,⟨by simp +decide (maxDischargeDepth:=200) only[go_sem,Nat.reduceBEq],by simp +decide (maxDischargeDepth:=200) only[go_sem,Nat.reduceBEq],hI2,hK2⟩,ia hil hni⟩
     . simp +decide (maxDischargeDepth:=200) only[go_sem,Nat.reduceBEq,dg,aq,ew,hq];refine kB (hkeep Hy hK2) (hT false ⟨(fun h=>by cases h),fun h=>?_⟩);have:=h x.1 (by rw[hc,fS hO (LW hx)];exact hn);rw[hq] at this;cases this
   . have dg:=LO hn;simp +decide (maxDischargeDepth:=200) only[go_sem,Nat.reduceBEq,dg];exact⟨⟨vis++[i],hag fun h=>absurd h hn⟩,⟨by simp +decide (maxDischargeDepth:=200) only[go_sem,Nat.reduceBEq],by simp +decide (maxDischargeDepth:=200) only[go_sem,Nat.reduceBEq],hI2,hK2⟩,ia hil hni⟩
def Ez (us:List V) (H:HH) (T:V->HH->Prop):Prop:=∃a r s tS,us=[ay a,.x (.pointer (some ⟨r,0,none⟩))]∧H r=some (rowO [.int .i64 s.1,.int .i64 s.2.1,.int .i64 s.2.2] tS)∧T (.x (.bool (al a s))) H
abbrev EA (r:Nat):V:= .x (.func (.func 19) #[] #[.pointer (some ⟨r,0,none⟩)])
def EB (us:List V) (H:HH) (T:V->HH->Prop):Prop:=∃nl z l r s tS,us=[.sl nl z (l.map ay) none,EA r]∧(l≠[]->z=3)∧l.length<=1000000∧H r=some (rowO [.int .i64 s.1,.int .i64 s.2.1,.int .i64 s.2.2] tS)∧∀i:Int,(0<=i↔∃a∈l,al a s=true)->T (.x (.int .i64 i)) H
def EC (us:List V) (H:HH) (T:V->HH->Prop):Prop:=∃nl z l r s tS,us=[.sl nl z (l.map ay) none,EA r]∧(l≠[]->z=3)∧l.length<=1000000∧H r=some (rowO [.int .i64 s.1,.int .i64 s.2.1,.int .i64 s.2.2] tS)∧T (.x (.bool (l.any fun a=>al a s))) H
theorem Cx:cE (bO [(20,aq)] [] [] (fun _=>false) (fun _=>false)) 19 Ez:=by refine cP (F:={F:=fun _=>none,D:=fun _=>false}) (n:=7) (k:=2) (aZ [(20,aq)] [] [] _ _ ⟨de,trivial⟩ trivial trivial) (by kernel_rfl) (fun f C e=>by cases e) (fun t s C e=>by cases e) Try.func19 rfl (fun a w=>Try.call19 a w) Try.ntmps19 (by decide) (by decide) (by kernel_rfl) ?_;rintro us H T ⟨a,r,s,tS,rfl,hr,hT⟩ hdat;clear hdat;refine⟨rfl,?_⟩;have c1:=ah hr;have ew:ef a.1 a.2.1 a.2.2 s.1 s.2.1 s.2.2=al a s:=rfl;simp +decide (maxDischargeDepth:=200) only[go_sem,Nat.reduceBEq,ay,c1,aq,ew];exact hT
theorem Cy:cE (bO [(20,aq)] [] [] (fun _=>false) (fun _=>false)) 24 EB:=by
 refine cP (F:={F:=fun _=>none,D:=fun _=>false,Y:=kz (vD [(19,Ez)])}) (n:=19) (k:=2) (aZ [(20,aq)] [] [] _ _ ⟨de,trivial⟩ trivial trivial) (by kernel_rfl) (fun f C e=>by cases e) (fun t s C e=>by cases e) Try.func24 rfl (fun a w=>Try.call24 a w) Try.ntmps24 (by decide) (by decide) (by kernel_rfl) ?_ (hY:=(vL (aZ [(20,aq)] [] [] _ _ ⟨de,trivial⟩ trivial trivial) (fK (l:=[(19,Ez)]) ⟨Cx,trivial⟩)));rintro us H T ⟨b,z,rs,r,s,tS,rfl,hz,hl,hr,hT⟩ hdat;clear hdat;refine⟨rfl,?_⟩;have l3:(0:Int)<=(rs.length:Int):=by omega
 simp +decide (maxDischargeDepth:=200) only[go_sem,Nat.reduceBEq,eq];refine bz (X:={i:Nat//i<=rs.length∧∀x∈rs.take i,al x s=false}) (fun i=>[(0,.sl b z (rs.map ay) none),(1,EA r),(7,.x (.int .i64 (rs.length:Int))),(8,.x (.int .i64 ((i.1:Nat):Int)))]) (fun _=>[]) (fun _ H'=>H'=H) (fun i=>rs.length-i.1) ⟨0,LQ _,fun x hx=>by simp at hx⟩ (by simp +decide only[go_sem,Nat.reduceBEq,Mc]<;>(repeat' first|rfl|constructor)) (by simp +decide only[go_sem,Nat.reduceBEq,Mc]<;>(repeat' first|rfl|constructor)) rfl ?_;rintro⟨i,hi,hno⟩ H1 rfl;simp only at hi hno⊢;by_cases hil:i<rs.length
 case neg=>have d1:decide ((i:Int)<(rs.length:Int))=false:=LO (by omega);rw[Mk (by omega)] at hno;simp +decide (maxDischargeDepth:=200) only[go_sem,Nat.reduceBEq,eq,d1];exact hT _ ⟨fun h=>by omega,fun⟨a,ha,h⟩=>by rw[hno a ha] at h;cases h⟩
 obtain rfl:=hz (fun h=>by rw[h] at hil;cases hil);have d1:decide ((i:Int)<(rs.length:Int))=true:=LP (by omega);have d2:(0:Int)<=(i:Int):=by omega
 have d3:(i:Int)<(rs.length:Int):=by omega
 have d4:=be (i:=i) (by omega);have q1:rs[i]?=some rs[i]:=Io hil;have q2:(rs.map ay)[i]?=some (.agg [.x (.int .i64 rs[i].1),.x (.int .i64 rs[i].2.1),.x (.int .i64 rs[i].2.2)]):=by rw[LS,q1];rfl
 have qm:rs[i]∈rs:=Of hil;generalize rs[i]=x at q1 q2 qm;simp +decide (maxDischargeDepth:=200) only[go_sem,Nat.reduceBEq,io,eq,d1,d2,d3,q2];refine⟨x,r,s,tS,rfl,hr,?_⟩;cases e:al x s
 . simp +decide (maxDischargeDepth:=200) only[go_sem,Nat.reduceBEq,d4];refine⟨⟨i+1,hil,fun y hy=>?_⟩,⟨?_,?_,rfl⟩,by simp only;omega⟩
   . rw[bQ q1,L4,LX] at hy;rcases hy with hy|rfl
     . exact hno y hy
     . exact e
   . simp +decide (maxDischargeDepth:=200) only[go_sem,Nat.reduceBEq]
   . simp +decide (maxDischargeDepth:=200) only[go_sem,Nat.reduceBEq]
 . simp +decide (maxDischargeDepth:=200) only[go_sem,Nat.reduceBEq];exact hT _ ⟨fun _=>⟨x,qm,e⟩,fun _=>by omega⟩
theorem Cz:cE (bO [(20,aq)] [] [] (fun _=>false) (fun _=>false)) 18 EC:=by
 refine cP (F:={F:=vD [(24,EB)],D:=fun _=>false}) (n:=9) (k:=2) (aZ [(20,aq)] [] [] _ _ ⟨de,trivial⟩ trivial trivial) (by kernel_rfl) (fK (l:=[(24,EB)]) ⟨Cy,trivial⟩) (fun t s C e=>by cases e) Try.func18 rfl (fun a w=>Try.call18 a w) Try.ntmps18 (by decide) (by decide) (by kernel_rfl) ?_;rintro us H T ⟨b,z,rs,r,s,tS,rfl,hz,hl,hr,hT⟩ hdat;clear hdat;refine⟨rfl,?_⟩;simp +decide (maxDischargeDepth:=200) only[go_sem,Nat.reduceBEq];refine⟨b,z,rs,r,s,tS,rfl,hz,hl,hr,fun i hi=>?_⟩;simp +decide (maxDischargeDepth:=200) only[go_sem,Nat.reduceBEq];have:(rs.any fun a=>al a s)=decide (0<=i):=by rw[NH,MS,Mi];exact hi.symm
 rw[this] at hT;exact hT
open Go.Sort (PermIn SortedIn)
def nf (l:List aJ):Prop:=l.Pairwise fun a b=>ac a b=true
theorem zY {d d':Array aJ} (hp:PermIn 0 d.size d d') (hs:SortedIn ac 0 d.size d') (hn:d.toList.Nodup):nf d'.toList∧d'.toList.Perm d.toList:=by
 obtain⟨hsz,_,hperm⟩:=hp;have e1:d'.extract 0 d.size=d':=by rw[<-hsz];exact Array.extract_size
 rw[e1,Array.extract_size] at hperm;refine⟨?_,hperm⟩;have hnd:d'.toList.Nodup:=hperm.nodup_iff.2 hn;rw[nf,Na];intro i j hi hj hij;have hi':i<d'.size:=by simpa using hi
 have hj':j<d'.size:=by simpa using hj
 have h1:=hs i j (LQ _) hij (by omega);rw[NY d' i hi',NY d' j hj'] at h1;have hne:d'.toList[i]≠d'.toList[j]:=(Na.1 hnd) i j hi hj hij;rw[Array.getElem_toList,Array.getElem_toList] at hne⊢;cases h2:ac d'[i] d'[j] with
 |true=>rfl
 |false=>exact absurd (pt.tri _ _ h2 h1) hne
def KN (ob:Obj) (l:List aJ):Prop:=∀(w:World) (q:Nat),w.heap[q]?=some ob->BoxAt (fun _=>some 0) w q (ak l.toArray)
def Ae (l:List aJ):List Value:=l.flatMap aQ
def zZ (us:List V) (H:HH) (T:V->HH->Prop):Prop:=∃b v A TL,us=[.x (.iface 38 v),.x (.func (.func 22) #[] #[.pointer (some ⟨b,0,none⟩)])]∧H b=some (rowO [v] TL)∧RowV H v 3 (Ae A)∧rV v=0∧aC v=A.length∧A.length<=1000000∧A.Nodup∧blkOf v≠some b∧
 (v= .slice none 0 0->T (.x (.tuple #[])) H)∧∀q A' ob,blkOf v=some q->A'.Perm A->nf A'->KN ob A'->T (.x (.tuple #[])) (au H q (some ob))
theorem Step.of_new {S:Nat->Prop} {m:Lim} {w w':World} (ho:w'.os=w.os) (ht:w'.tape=w.tape) (hu:w'.output=w.output) (hz:w.heap.size<=w'.heap.size) (hS:∀b,S b->m b=some 0) (hb:∀k,k<w.heap.size-> ¬S k->w'.heap[k]?=w.heap[k]?):Step S m w (fun j=>if w.heap.size<=j then some 0 else m j) w':=by
 refine⟨ho,ht,hu,⟨hz,fun b off v hlt hm hc=>?_,fun b hlt fr' hf=>?_,fun b es c hm hc=>?_⟩,fun k hk hn=>⟨hb k hk hn,L1 (Nj.2 hk)⟩⟩
 . by_cases e:S b
   . exact absurd (hm 0 (hS b e)) (Np _)
   . rw[aU (hb b hlt e)];exact hc
 . rw[L1 (Nj.2 hlt)] at hf;exact⟨fr',hf,LM _⟩
 . by_cases e:S b
   . rw[hS b e] at hm;cases hm
   . rw[hb b (cX hc) e];exact hc
theorem z6 (l:List (FuncId×(List V->Option V))) (lp:List (FuncId×(List V->Option (V×List (List V))))) (lm:List (FuncId×(List V->Option (List V×List V)))) (lit any:Nat->Bool):cE (bO l lp lm lit any) 21 zZ:=by
 refine⟨fun a w=>Try.call21 a w,fun m w vs us H T hC hdat hr hH hj hg=>?_⟩;obtain⟨b,v,A,TL,rfl,hb,hrow,hoff,hlen,hmax,hnd,hne,h0,h1⟩:=hC;have hvs:vs= #[.iface 38 v,.func (.func 22) #[] #[.pointer (some ⟨b,0,none⟩)]]:=by apply Mm.1;exact eZ (l:=[.iface 38 v,.func (.func 22) #[] #[.pointer (some ⟨b,0,none⟩)]]) hr
 subst hvs;have hH0:∀y,H y≠none->m y=some 0:=fun y hy=>by
  cases e:H y with
  |none=>exact absurd e hy
  |some ob=>exact(hH y ob e).2.1
 rcases hrow with⟨_,rfl⟩|⟨g,off,n,cap,cur,ty,rfl,hg0,hn,hs,hc⟩
 . refine(Cr (w:=w) (Bk:=b)).mono ?_;rintro e w' ⟨rfl,os,rfl⟩;have hold:∀k,k<w.heap.size->(Go.Sort.grow w os).heap[k]?=w.heap[k]?:=fun k hk=>Go.Sort.heap_grow_old _ _ hk
   refine⟨_,_,_,H,rfl,.x _,h0 rfl,Step.of_new rfl rfl rfl (by simp[Go.Sort.grow]) hH0 (fun k hk _=>hold k hk),fun g ob e=>?_⟩;have hlt:=aj (hH g ob e).1;exact⟨(hold g hlt).trans (hH g ob e).1,by rw[L1 (Nj.2 hlt)];exact(hH g ob e).2.1,.inl (by rw[e];simp)⟩
 . have:off=0:=hoff;subst this;obtain rfl:n=A.toArray.size:=by simpa[aC] using hlen
   have hgb:b≠g:=fun e=>hne (by rw[e];rfl)
   have hcur:∃rest,cur.toList=A.toArray.toList.flatMap aQ++rest:=by refine⟨cur.toList.drop (A.toArray.size*3),?_⟩;rw[Nu] at hc;show _=Ae A++_;rw[<-hc,MO]
   have hblk:=aj (hH g _ hg0).1;refine(Cq (hH g _ hg0).1 hcur (hH b _ hb).1 rfl hgb hn (by simpa[MXS3] using hmax) (hH g _ hg0).2.2 hj).mono ?_;rintro e w' ⟨rfl,d',hp,hsd,hbel,m',hbx⟩;obtain⟨hsrt,hperm⟩:=zY hp hsd (by simpa using hnd);obtain⟨_,vals,ty8,xs,rest,hh8,hx8,hr8⟩:=hbx;rw[bU] at hr8;have hxs:=eZ hr8;subst hxs;have hob:KN (.cells vals ty8.ty ty8.fz) d'.toList:=fun w q hq=>⟨rfl,vals,ty8,_,rest,hq,hx8,by rw[bU];exact fR _⟩
   refine⟨_,_,_,_,rfl,.x _,h1 g d'.toList _ rfl hperm hsrt hob,Step.of_new hbel.os hbel.tape hbel.output hbel.size hH0 (fun k hk hn=>hbel.block k hk (by intro hm;rw[LX.1 hm] at hn;exact hn (by rw[hg0];simp))),fun y ob e=>?_⟩
   by_cases ey:y=g
   . subst ey;rw[aa] at e;cases e;exact⟨hh8,by rw[L1 (Nj.2 hblk)];exact(hH y _ hg0).2.1,.inl (by rw[hg0];simp)⟩
   . rw[ag _ _ ey] at e;have hlt:=aj (hH y ob e).1;exact⟨(hbel.block y hlt (by simpa using ey)).trans (hH y ob e).1,by rw[L1 (Nj.2 hlt)];exact(hH y ob e).2.1,.inl (by rw[e];simp)⟩
def z8 (x:Ch):Option aJ:=if 0<x.2 then some x.1 else none
def gj (L:List Ch) (vis:List Nat):List aJ:=vis.filterMap fun i=>(L[i]?).bind z8
theorem v6 {i:Nat} {x:Ch} (h:L[i]?=some x):gj L (vis++[i])=gj L vis++(if 0<x.2 then [x.1] else []):=by unfold gj;rw[List.filterMap_append];congr 1;simp only[List.filterMap_cons,List.filterMap_nil,h,MQ,z8];split<;>rename_i e<;>split at e<;>simp_all
theorem ir:s∈gj L vis↔∃i∈vis,∃x,L[i]?=some x∧0<x.2∧x.1=s:=by
 unfold gj;rw[List.mem_filterMap];constructor
 . rintro⟨i,hi,h⟩;obtain⟨x,hx,h⟩:=MP.1 h;unfold z8 at h;split at h
   . rename_i h0;exact⟨i,hi,x,hx,h0,MU h⟩
   . cases h
 . rintro⟨i,hi,x,hx,h0,rfl⟩;exact⟨i,hi,by rw[hx];show z8 x=_;unfold z8;rw[L0 h0]⟩
theorem CA (h:eh L) {i j:Nat} {x y:Ch} (hx:L[i]?=some x) (hy:L[j]?=some y) (e:x.1=y.1):i=j:=by obtain⟨hi,rfl⟩:=LN.1 hx;obtain⟨hj,rfl⟩:=LN.1 hy;exact(List.getElem_inj (xs:=L.map (·.1)) (h₀:=by simpa using hi) (h₁:=by simpa using hj) h).1 (by simpa using e)
theorem gO {L:List Ch} (h:eh L):∀{vis:List Nat},vis.Nodup->(gj L vis).Nodup
 |[],_=>Nr
 | i::vis,hn=>by
   rw[MK] at hn;have ih:=gO h hn.2;have e:gj L (i::vis)=gj L [i]++gj L vis:=by unfold gj;rw[<-List.filterMap_append];rfl
   rw[e];refine Nf.2 ⟨?_,ih,fun a ha b hb q=>?_⟩
   . unfold gj;simp only[List.filterMap_cons,List.filterMap_nil];split<;>simp
   . obtain⟨j,hj,x,hx,_,rfl⟩:=ir.1 ha;obtain⟨j',hj',y,hy,_,rfl⟩:=ir.1 hb;rw[LX.1 hj] at hx;exact hn.1 (CA h hx hy q▸hj')
theorem pF (h:eh L) {vis:List Nat} (hv:vis.Nodup):(gj L vis).length<=L.length:=by
 have:=lN (gO h hv) (l':=L.map (·.1)) fun s hs=>by obtain⟨i,_,x,hx,_,rfl⟩:=ir.1 hs;exact Mw.2 ⟨x,LW hx,rfl⟩
 rwa [eq] at this
theorem CB (A B:List aJ):Ae (A++B)=Ae A++Ae B:=List.flatMap_append ..
theorem CC (A:List aJ):∀u∈Ae A,u.oneCell'=true:=fun u hu=>by obtain⟨x,_,hx⟩:=List.mem_flatMap.1 hu;simp only[aQ,L8,Oh,or_false] at hx;rcases hx with rfl|rfl|rfl<;>rfl
def AbJ (H Hx:HH) (b r:Nat) (A:List aJ):Prop:=∃v,Hx b=some (rowO [v] 38)∧RowV Hx v 3 (Ae A)∧rV v=0∧aC v=A.length∧blkOf v≠some b∧blkOf v≠some r∧(∀q,blkOf v=some q->H q=none)∧∀y,H y≠none->Hx y=H y
variable {b:Nat} {A:List aJ}
theorem AbJ.iter (h:AbJ H Hx b r A) (hr:H r=none) (hbr:b≠r) (ob:Obj):AbJ H (au Hx r (some ob)) b r A:=by obtain⟨v,h1,h2,h3,h4,h5,h6,h7,h8⟩:=h;exact⟨v,(ag _ _ hbr).trans h1,h2.to fun g hg=>ag _ _ fun e=>h6 (e▸hg),h3,h4,h5,h6,h7,fun y hy=>(ag _ _ fun e=>hy (by rw[e];exact hr)).trans (h8 y hy)⟩
theorem ItO.to (h:ItO H r g vis) (e:H' r=H r) (e':∀y,g=some y->H' y=H y):ItO H' r g vis:=by
 cases g with
 |none=>obtain⟨⟨a,s,b,h⟩,h2⟩:=h;exact⟨⟨a,s,b,e.trans h⟩,h2⟩
 |some g=>exact IterH.to h (e' g rfl) e
theorem Aa (hM:MapO Hx g L) (hI:ItO Hx r g vis)
 (h0:(∀i,i<L.length->i∈vis)->T (.tup [.x (.bool false)]) Hx) (h1:∀(i:Nat) (x:Ch) ob,L[i]?=some x->i∉vis->ItO (au Hx r (some ob)) r g (vis++[i])->T (.tup [.x (.bool true),.agg [.x (.int .i64 x.1.1),.x (.int .i64 x.1.2.1),.x (.int .i64 x.1.2.2)],.x (.int .i64 x.2)]) (au Hx r (some ob))):zt Hx r T:=by
 cases g with
 |none=>have e:L=[]:=hM;subst e;exact .inr ⟨hI.1,h0 fun i hi=>by simp at hi⟩
 |some g=>have hM':MapH Hx g (fe L) (gi L):=hM;refine .inl ⟨g,_,_,vis,hM',hI,fun h=>h0 fun i hi=>h i (by simpa[fe] using hi),fun i k v hk1 hv1 hn ob hI2=>?_⟩;rw[fe,LS] at hk1;rw[gi,LS] at hv1;obtain⟨x,hx,rfl⟩:=LT.1 hk1;rw[hx] at hv1;cases hv1;exact h1 i x ob hx hn hI2
theorem v7 {i:Nat} {x:Ch} (hM:MapO Hx g L) (hI:ItO Hx r g (vis++[i])) (hx:L[i]?=some x)
 (h1:T (.tup [.agg [.x (.int .i64 x.1.1),.x (.int .i64 x.1.2.1),.x (.int .i64 x.1.2.2)],.x (.int .i64 x.2)]) Hx):rY Hx r T:=by
 cases g with
 |none=>have e:L=[]:=hM;rw[e] at hx;simp at hx
 |some g=>have hM':MapH Hx g (fe L) (gi L):=hM;exact⟨g,_,_,vis,i,ay x.1,_,hM',hI,by rw[fe,LS,hx];rfl,by rw[gi,LS,hx];rfl,h1⟩
theorem CD {v:Value} {tok:Option Nat} (hb:Hx b=some (rowO [v] 38)) (hrow:RowV Hx v 3 (Ae A)) (ho:rV v=0) (hl:aC v=A.length) (hvb:blkOf v≠some b) (hvr:blkOf v≠some r) (hnew:∀q,blkOf v=some q->H q=none) (hK:∀y,H y≠none->Hx y=H y) (hI:ItO Hx r g vis) (hg:∀y,g=some y->H y≠none) (hbH:H b=none) (hbr:b≠r) (hA:A.length<=100000)
 (hT:∀v' Hy,v'.oneCell'=true->Hy b=some (rowO [v] 38)->AbJ H (au Hy b (some (rowO [v'] 38))) b r (A++[s])->ItO (au Hy b (some (rowO [v'] 38))) r g vis->T (.x v') Hy):Eh Try.prog 38 Hx v (.sl false 3 [.agg [.x (.int .i64 s.1),.x (.int .i64 s.2.1),.x (.int .i64 s.2.2)]] tok) T:=by
 refine⟨3,1,Ae A,Ae [s],by kernel_rfl,hrow,⟨.inl rfl,rfl,rfl⟩,CC _,by rw[hl];omega,fun h=>absurd h (by decide),fun _ v' q ob hq hlq hqn hoq hrq=>?_⟩;have hqb:q≠b:=fun e=>by
  subst e;rcases hqn with h|h
  . exact hvb h
  . rw[hb] at h;cases h
 have hqr:q≠r:=fun e=>by
  subst e;rcases hqn with h|h
  . exact hvr h
  . cases g with
    |none=>obtain⟨⟨_,_,_,h2⟩,_⟩:=hI;rw[h] at h2;cases h2
    |some g=>obtain⟨_,_,_,h2,_⟩:=(show IterH Hx q g vis from hI);rw[h] at h2;cases h2
 have hqH:H q=none:=by
  rcases hqn with h|h
  . exact hnew q h
  . cases e:H q with
    |none=>rfl
    |some ob=>rw[hK q (by rw[e];simp),e] at h;cases h
 refine hT v' _ hrq.one ((ag _ _ (M1 hqb)).trans hb) ⟨v',aa _ _ _,?_,hoq ho,by rw[hlq,hl,LY];rfl,(fun e=>hqb (by rw[hq] at e;exact MU e)),(fun e=>hqr (by rw[hq] at e;exact MU e)),(fun q' e=>by rw[hq] at e;cases e;exact hqH),fun y hy=>?_⟩ (hI.to ?_ fun y hy=>?_)
 . rw[CB];exact hrq.to fun g' hg'=>ag _ _ fun e=>by rw[hq] at hg';cases hg';exact hqb e
 . exact(ag _ _ fun e=>hy (by rw[e];exact hbH)).trans ((ag _ _ fun e=>hy (by rw[e];exact hqH)).trans (hK y hy))
 . exact(ag _ _ (M1 hbr)).trans (ag _ _ (M1 hqr))
 . exact(ag _ _ fun e=>hg y hy (by rw[e];exact hbH)).trans (ag _ _ fun e=>hg y hy (by rw[e];exact hqH))
theorem CE {q n cap:Nat} {ob:Obj} {l:List aJ} (hob:KN ob l) (hq:Hx q=some ob) (hqH:H q=none) (hn:n=l.length) (hc:n<=cap) (hk:∀y ob,H y=some ob->Hx y=some ob) (hT:T (.sl false 3 (l.map ay) none) H):y3 (.x (.slice (some ⟨q,0,none⟩) n cap)) Hx T:=by
 refine⟨fun y=>(H y).isNone,.sl false 3 (l.map ay) none,fun m w v hw hm hv=>?_,?_⟩
 . cases hv;have hb:=hob w q (hw q ob hq);have hs:l.toArray.size=l.length:=by simp
   have:=zQ (cap:=cap) hb (by rw[hs,<-hn];exact hc) m (hm q (by simp[hqH]) (by rw[hq];simp));rw[hs,<-hn] at this;exact this
 . have e:(fun g=>if (H g).isNone=true then none else Hx g)=H:=by
    funext g;cases hg:H g with
    |none=>simp
    |some ob=>simp[hk g ob hg]
   rw[e];exact hT
theorem Ab (hk:∀y ob,H y=some ob->Hx y=some ob) (hT:T (.sl true 3 ([]:List V) none) H):y3 (.x (.slice none 0 0)) Hx T:=by
 refine⟨fun y=>(H y).isNone,.sl true 3 [] none,fun m w v _ _ hv=>by cases hv;exact .nil _ _,?_⟩;have e:(fun g=>if (H g).isNone=true then none else Hx g)=H:=by
  funext g;cases hg:H g with
  |none=>simp
  |some ob=>simp[hk g ob hg]
 rw[e];exact hT
def ED (us:List V) (H:HH) (T:V->HH->Prop):Prop:=∃p c k F,us=[.x (ai p)]∧DFr H p c k F∧∀S nl,nf S->(∀s,s∈S↔0<c s)->S.length<=k->(nl=true->S=[])->T (.sl nl 3 (S.map ay) none) H
theorem CF:cE (bO [] [] [] (fun _=>false) (fun _=>false)) 17 ED:=by
 refine mX (F:={F:=vD [(21,zZ)],D:=fun _=>false,Y:=lh (po Try.prog) (lh (f8 (fun d=>d==12) Try.prog) (lh (iL fun d=>d==13) (lh iK (lh (vI Try.prog fun d=>d==3) (lh (vG Try.prog fun d=>d==23) lX)))))}) (n:=29) (k:=1) (aZ [] [] [] _ _ trivial trivial trivial) (by kernel_rfl) (fK (l:=[(21,zZ)]) ⟨z6 _ _ _ _ _,trivial⟩) (fun t s C e=>by cases e) Try.func17 rfl (fun a w=>Try.call17 a w) Try.ntmps17 (by decide) (by decide) (by kernel_rfl) ?_ (hY:=(cz jx (cz (kA (aZ [] [] [] _ _ trivial trivial trivial) _) (cz (lZ (aZ [] [] [] _ _ trivial trivial trivial) _) (cz lY (cz (tp (aZ [] [] [] _ _ trivial trivial trivial) _) (cz (tj (aZ [] [] [] _ _ trivial trivial trivial) _) pp)))))));rintro us H T ⟨p,c,k,F,rfl,⟨L,g,hp,hM,hne,hO,hz,hc,⟨hk,hk1⟩,rfl⟩,hT⟩ hdat;clear hdat;refine⟨rfl,?_⟩;have fF:fg Try.prog 29 0=some 0:=by kernel_rfl
 have nT:pn Try.prog 26 (.x (.pointer none))=true:=by kernel_rfl
 have zX:tn Try.prog 38=some [.slice none 0 0]:=by kernel_rfl
 have nI:yR Try.prog 38=true:=by kernel_rfl
 have sL:bi Try.prog 38=some 1:=by kernel_rfl
 simp +decide (maxDischargeDepth:=200) only[go_sem,Nat.reduceBEq,zX,fF,nT,iO];intro b hbn;have hpb:p≠b:=fun e=>by rw[<-e,hp] at hbn;cases hbn
 have hp2:(au H b (some (rowO [.slice none 0 0] 38))) p=some (rowO [.map g] 29):=(ag _ _ hpb).trans hp;have c1:=ah hp2;have hgH:∀y,g=some y->H y≠none:=fun y hy=>by subst hy;obtain⟨_,_,e,_⟩:MapH H y (fe L) (gi L):=hM;rw[e];simp
 have hMx:∀Hx:HH,(∀y,H y≠none->Hx y=H y)->MapO Hx g L:=fun Hx h=>hM.to fun y hy=>h y (hgH y hy)
 have hK2:∀y,H y≠none->(au H b (some (rowO [.slice none 0 0] 38))) y=H y:=fun y hy=>ag _ _ fun e=>hy (by rw[e];exact hbn)
 simp +decide (maxDischargeDepth:=200) only[go_sem,Nat.reduceBEq,fF,nT,iO,c1];refine⟨Gu,pE (hMx _ hK2),fun r ob hr hI0=>?_⟩;have hbr:b≠r:=fun e=>by rw[<-e,L0 rfl] at hr;cases hr
 have hrH:H r=none:=by rwa [L1 (M1 hbr)] at hr
 refine bz (X:={vis:List Nat//vis.Nodup}) (fun _=>[(3,.x (ai b)),(12,.x (ai r))]) (fun _=>[]) (fun vis Hx=>AbJ H Hx b r (gj L vis.1)∧ItO Hx r g vis.1) (fun vis=>((List.range L.length).filter fun j=>decide (j∉vis.1)).length) ⟨[],Nr⟩ (by simp +decide only[go_sem,Nat.reduceBEq,Mc]<;>(repeat' first|rfl|constructor)) (by simp +decide only[go_sem,Nat.reduceBEq,Mc]<;>(repeat' first|rfl|constructor)) ⟨⟨.slice none 0 0,(ag _ _ hbr).trans (aa _ _ _),.inl ⟨rfl,rfl⟩,rfl,rfl,by simp[blkOf],by simp[blkOf],(fun q e=>by cases e),fun y hy=>(ag _ _ fun e=>hy (by rw[e];exact hrH)).trans (hK2 y hy)⟩,hI0⟩ ?_;rintro⟨vis,hvn⟩ Hx ⟨hJ,hI⟩;simp only at hJ hI⊢;have hKx:∀y,H y≠none->Hx y=H y:=by obtain⟨_,_,_,_,_,_,_,_,h⟩:=hJ;exact h
 simp +decide (maxDischargeDepth:=200) only[go_sem,Nat.reduceBEq];refine Aa (hMx Hx hKx) hI (fun hall=>?_) (fun i x ob2 hx hni hI2=>?_)
 . obtain⟨v,hb1,hrow,ho,hl,hvb,hvr,hnew,_⟩:=hJ;have c2:=ah hb1;have hx1:=sb hrow.one;simp +decide (maxDischargeDepth:=200) only[go_sem,Nat.reduceBEq,c2,nI];have hmem:∀s,s∈gj L vis↔0<c s:=fun s=>by
    rw[ir,hc];constructor
    . rintro⟨i,_,x,hx,h0,rfl⟩;rw[fS hO (LW hx)];exact h0
    . intro h0;obtain⟨x,hx,rfl⟩:=kE (L:=L) (s:=s) (by omega);rw[fS hO hx] at h0;obtain⟨i,hi⟩:=MX.1 hx;exact⟨i,hall i (LN.1 hi).1,x,hi,h0,rfl⟩
   have hcl:=pF hO hvn;have hkeep:∀y ob,H y=some ob->Hx y=some ob:=fun y ob e=>(hKx y (by rw[e];simp)).trans e
   refine⟨b,v,gj L vis,38,rfl,hb1,hrow,ho,hl,by omega,gO hO hvn,hvb,fun hv=>?_,fun q A' ob hq hperm hsrt hob=>?_⟩
   . subst hv;have hA:gj L vis=[]:=MD.1 hl.symm;simp +decide (maxDischargeDepth:=200) only[go_sem,Nat.reduceBEq,c2];refine Ab hkeep (hT [] true List.Pairwise.nil (fun s=>by rw[<-hA];exact hmem s) (LQ _) (fun _=>rfl))
   . have hqb:b≠q:=fun e=>hvb (by rw[e];exact hq)
     have hb3:(au Hx q (some ob)) b=some (rowO [v] 38):=(ag _ _ hqb).trans hb1;have c3:=ah hb3;simp +decide (maxDischargeDepth:=200) only[go_sem,Nat.reduceBEq,c3];rcases hrow with⟨_,rfl⟩|⟨q',off,n,cap,cur,ty,rfl,hg0,hn,_⟩
     . cases hq
     . have e0:off=0:=ho;subst e0;cases hq;have hA':n=A'.length:=by rw[hperm.length_eq];exact hl
       exact CE hob (aa _ _ _) (hnew q' rfl) hA' hn (fun y ob' e=>(ag _ _ fun e'=>by rw[e',hnew q' rfl] at e;cases e).trans (hkeep y ob' e)) (hT A' false hsrt (fun s=>hperm.mem_iff.trans (hmem s)) (by rw[hperm.length_eq];omega) (fun h=>by cases h))
 . have hJ2:=hJ.iter hrH hbr ob2;have hil:=(LN.1 hx).1;have hnd2:(vis++[i]).Nodup:=Nf.2 ⟨hvn,by simp,fun a ha b hb e=>by rw[LX.1 hb] at e;exact hni (e▸ha)⟩;have hcs:=v6 (L:=L) (vis:=vis) hx;generalize au Hx r (some ob2)=Hy at hJ2 hI2;have hKy:∀y,H y≠none->Hy y=H y:=by obtain⟨_,_,_,_,_,_,_,_,h⟩:=hJ2;exact h
   simp +decide (maxDischargeDepth:=200) only[go_sem,Nat.reduceBEq];refine v7 (hMx Hy hKy) hI2 hx ?_;by_cases hn:0<x.2
   . have dg:=LP hn;rw[L0 hn] at hcs;obtain⟨v,hb1,hrow,ho,hl,hvb,hvr,hnew,_⟩:=hJ2;have c2:=ah hb1;simp +decide (maxDischargeDepth:=200) only[go_sem,Nat.reduceBEq,dg,c2];refine CD (s:=x.1) hb1 hrow ho hl hvb hvr hnew hKy hI2 hgH hbn hbr (by have:=pF hO hvn;omega) fun v' Hz h1 h2 h3 h4=>?_
     have c4:=ah h2;have hx4:=sb h1;have sp:cd [v] 0 [v']=[v']:=rfl;simp +decide (maxDischargeDepth:=200) only[go_sem,Nat.reduceBEq,c4,hx4,sL,sp];rw[<-hcs] at h3;exact⟨⟨vis++[i],hnd2⟩,⟨by simp +decide (maxDischargeDepth:=200) only[go_sem,Nat.reduceBEq],by simp +decide (maxDischargeDepth:=200) only[go_sem,Nat.reduceBEq],h3,h4⟩,ia hil hni⟩
   . have dg:=LO hn;rw[L1 hn,MV] at hcs;simp +decide (maxDischargeDepth:=200) only[go_sem,Nat.reduceBEq,dg];rw[<-hcs] at hJ2;exact⟨⟨vis++[i],hnd2⟩,⟨by simp +decide (maxDischargeDepth:=200) only[go_sem,Nat.reduceBEq],by simp +decide (maxDischargeDepth:=200) only[go_sem,Nat.reduceBEq],hJ2,hI2⟩,ia hil hni⟩
def tB (acc:List aJ) (s:aJ):List aJ:=if (acc.any fun a=>al a s)=true then acc else acc++[s]
def jn (S:List aJ):List aJ:=S.foldl tB []
variable {S:List aJ}
theorem pG {i:Nat} (h:S[i]?=some s):jn (S.take (i+1))=tB (jn (S.take i)) s:=by rw[bQ h,jn,List.foldl_append];rfl
theorem sr {S:List aJ} (hS:nf S):∀i,i<=S.length->nf (jn (S.take i))∧(∀s,s∈jn (S.take i)↔s∈S.take i∧∀t∈S.take i,t≠s->al t s=false)∧(∀t∈S.take i,∃a∈jn (S.take i),al a t=true)∧(jn (S.take i)).length<=i
 |0,_=>by simp[jn,nf]
 | i + 1,hi=>by
   obtain⟨h1,h2,h3,h4⟩:=sr hS i (by omega);have hx:S[i]?=some S[i]:=Io (by omega);generalize S[i]=x at hx;have hlt:∀t∈S.take i,ac t x=true:=fun t ht=>by
    obtain⟨j,hj⟩:=MX.1 ht;rw[Mf] at hj;split at hj
    case isFalse=>cases hj
    rename_i hji;obtain⟨hj1,rfl⟩:=LN.1 hj;obtain⟨hi1,rfl⟩:=LN.1 hx;exact Na.1 hS j i hj1 hi1 hji
   have hwx:∀t∈S.take i,al x t=false:=fun t ht=>by
    have hl:=hlt t ht;cases e:al x t with
    |false=>rfl
    |true=>simp only[ac,al,eI,f5] at hl e;omega
   have hnx:x∉S.take i:=fun h=>by have:=hlt x h;rw[cf] at this;cases this
   rw[pG hx,bQ hx];unfold tB;by_cases ha:((jn (S.take i)).any fun a=>al a x)=true
   . rw [L0 ha];obtain⟨a,ha1,ha2⟩:=MS.1 ha;refine⟨h1,fun s=>?_,fun t ht=>?_,by omega⟩
     . rw[h2];constructor
       . rintro⟨hs,hn⟩;refine⟨Mn _ hs,fun t ht hne=>?_⟩;rcases L4.1 ht with ht|ht
         . exact hn t ht hne
         . rw[LX.1 ht];exact hwx s hs
       . rintro⟨hs,hn⟩;rcases L4.1 hs with hs|hs
         . exact⟨hs,fun t ht hne=>hn t (Mn _ ht) hne⟩
         . rw[LX.1 hs] at hn;have ham:=((h2 a).1 ha1).1;have:=hn a (Mn _ ham) (fun e=>hnx (e▸ham));rw[ha2] at this;cases this
     . rcases L4.1 ht with ht|ht
       . exact h3 t ht
       . rw[LX.1 ht];exact⟨a,ha1,ha2⟩
   . rw [L1 ha];have hno:∀t∈S.take i,al t x=false:=fun t ht=>by
      obtain⟨a,ha1,ha2⟩:=h3 t ht;cases e:al t x with
      |false=>rfl
      |true=>exact absurd (MS.2 ⟨a,ha1,(show al a x=true from ic ha2 e)⟩) ha
     refine⟨?_,fun s=>?_,fun t ht=>?_,by rw[LY];simp only[List.length_singleton];omega⟩
     . rw[nf,Nx];exact⟨h1,List.pairwise_singleton _ _,fun a ha b hb=>by rw[LX.1 hb];exact hlt a ((h2 a).1 ha).1⟩
     . rw [L4,LX,h2];constructor
       . rintro(⟨hs,hn⟩|rfl)
         . refine⟨Mn _ hs,fun t ht hne=>?_⟩;rcases L4.1 ht with ht|ht
           . exact hn t ht hne
           . rw[LX.1 ht];exact hwx s hs
         . refine⟨by simp,fun t ht hne=>?_⟩;rcases L4.1 ht with ht|ht
           . exact hno t ht
           . exact absurd (LX.1 ht) hne
       . rintro⟨hs,hn⟩;rcases L4.1 hs with hs|hs
         . exact .inl ⟨hs,fun t ht hne=>hn t (Mn _ ht) hne⟩
         . exact .inr (LX.1 hs)
     . rcases L4.1 ht with ht|ht
       . obtain⟨a,ha1,ha2⟩:=h3 t ht;exact⟨a,Mn _ ha1,ha2⟩
       . rw[LX.1 ht];exact⟨x,by simp,eX x⟩
theorem EE {c:Cn} (hS:nf S) (hc:∀s,s∈S↔0<c s):LeastIs c (jn S)∧(jn S).length<=S.length:=by obtain⟨h1,h2,_,h4⟩:=sr hS S.length (LM _);rw[MR] at h1 h2 h4;refine⟨⟨h1,fun s=>(h2 s).trans ?_⟩,h4⟩;rw[hc];exact and_congr_right fun _=>⟨fun h t hne h0=>h t ((hc t).2 h0) hne,fun h t ht hne=>h t hne ((hc t).1 ht)⟩
theorem gP:cE (bO [] [] [] (fun _=>false) (fun _=>false)) 9 (mZ DFr):=by
 refine mX (F:={F:=vD [(17,ED),(18,EC)],D:=fun _=>false,Y:=lh (vI Try.prog fun d=>d==5) lX}) (n:=23) (k:=1) (aZ [] [] [] _ _ trivial trivial trivial) (by kernel_rfl) (fK (l:=[(17,ED),(18,EC)]) ⟨CF,Cz,trivial⟩) (fun t s C e=>by cases e) Try.func9 rfl (fun a w=>Try.call9 a w) Try.ntmps9 (by decide) (by decide) (by kernel_rfl) ?_ (hY:=(cz (tp (aZ [] [] [] _ _ trivial trivial trivial) _) pp));rintro us H T ⟨p,c,k,F,rfl,hfr,hk,hT⟩ hdat;clear hdat;refine⟨rfl,?_⟩;have zX:tn Try.prog 24=some [.int .i64 0,.int .i64 0,.int .i64 0]:=by kernel_rfl
 have sS:bi Try.prog 24=some 3:=by kernel_rfl
 simp +decide (maxDischargeDepth:=200) only[go_sem,Nat.reduceBEq];refine⟨p,c,k,F,rfl,hfr,fun S nl hS hmS hlS hnl=>?_⟩;obtain⟨hLe,hLen⟩:=EE hS hmS;simp +decide (maxDischargeDepth:=200) only[go_sem,Nat.reduceBEq,eq];refine lR 3 3 20 (by simp only[go_sem];rfl) ?_;refine bz (X:={i:Nat//i<=S.length}) (fun i=>[(3,.sl ((jn (S.take i.1)).map ay).isEmpty 3 ((jn (S.take i.1)).map ay) (some 20)),(7,.sl nl 3 (S.map ay) none),(8,.x (.int .i64 (S.length:Int))),(9,.x (.int .i64 ((i.1:Nat):Int)))]) (fun _=>[]) (fun _ Hx=>∀y,H y≠none->Hx y=H y) (fun i=>S.length-i.1) ⟨0,LQ _⟩ (by simp +decide only[go_sem,Nat.reduceBEq,jn,Nz,List.foldl_nil,Ol,Mc]<;>(repeat' first|rfl|constructor)) (by simp +decide only[go_sem,Nat.reduceBEq,Mc]<;>(repeat' first|rfl|constructor)) (fun _ _=>rfl) ?_;rintro⟨i,hi⟩ Hx hKx;simp only at hi⊢;by_cases hil:i<S.length
 case neg=>
  obtain rfl:i=S.length:=by omega
  have d0:decide ((S.length:Int)<(S.length:Int))=false:=LO (by omega);have e:=hT (jn S) ((jn S).map ay).isEmpty 3 hLe (fun h=>by simpa using h) (fun _=>rfl) (tl hLen hlS);rw[MR];simp +decide (maxDischargeDepth:=200) only[go_sem,Nat.reduceBEq,d0];exact kB (fun y ob e=>(hKx y (by rw[e];simp)).trans e) e
 have d0:decide ((i:Int)<(S.length:Int))=true:=LP (by omega);have d2:(0:Int)<=(i:Int):=by omega
 have cu:=be (i:=i) (by omega :i<9223372036854775807);have q1:S[i]?=some S[i]:=Io hil;have q2:(S.map ay)[i]?=some (.agg [.x (.int .i64 S[i].1),.x (.int .i64 S[i].2.1),.x (.int .i64 S[i].2.2)]):=by rw[LS,q1];rfl
 generalize S[i]=x at q1 q2;have hsucc:=pG q1;have hxs:iF (.agg [.x (.int .i64 x.1),.x (.int .i64 x.2.1),.x (.int .i64 x.2.2)])=some [.int .i64 x.1,.int .i64 x.2.1,.int .i64 x.2.2]:=rfl;simp +decide (maxDischargeDepth:=200) only[go_sem,Nat.reduceBEq,d0,d2,io,q2,zX];intro q hq;have cq:an (au Hx q (some (rowO [.int .i64 0,.int .i64 0,.int .i64 0] 24))) q=some ([.int .i64 0,.int .i64 0,.int .i64 0],24):=ah (aa _ _ _);have sp:cd [Value.int .i64 0,Value.int .i64 0,Value.int .i64 0] 0 [Value.int .i64 x.1,Value.int .i64 x.2.1,Value.int .i64 x.2.2]=[.int .i64 x.1,.int .i64 x.2.1,.int .i64 x.2.2]:=rfl;simp +decide (maxDischargeDepth:=200) only[go_sem,Nat.reduceBEq,cq,hxs,sS,sp];have hqH:H q=none:=by
  cases e:H q with
  |none=>rfl
  |some ob=>rw[hKx q (by rw[e];simp),e] at hq;cases hq
 have hHq:(au (au Hx q (some (rowO [.int .i64 0,.int .i64 0,.int .i64 0] 24))) q (some (rowO [.int .i64 x.1,.int .i64 x.2.1,.int .i64 x.2.2] 24))) q=some (rowO [.int .i64 x.1,.int .i64 x.2.1,.int .i64 x.2.2] 24):=aa _ _ _;have hKy:∀y,H y≠none->(au (au Hx q (some (rowO [.int .i64 0,.int .i64 0,.int .i64 0] 24))) q (some (rowO [.int .i64 x.1,.int .i64 x.2.1,.int .i64 x.2.2] 24))) y=H y:=fun y hy=>by
  have hyq:y≠q:=fun e=>hy (by rw[e];exact hqH)
  exact(ag _ _ hyq).trans ((ag _ _ hyq).trans (hKx y hy))
 generalize (au (au Hx q (some (rowO [.int .i64 0,.int .i64 0,.int .i64 0] 24))) q (some (rowO [.int .i64 x.1,.int .i64 x.2.1,.int .i64 x.2.2] 24)))=Hy at hHq hKy⊢;have hli:=(sr hS i (by omega)).2.2.2;refine⟨((jn (S.take i)).map ay).isEmpty,3,jn (S.take i),q,x,24,rfl,fun _=>rfl,by omega,hHq,?_⟩;rw[tB] at hsucc;have c5:=ah hHq;cases ha:((jn (S.take i)).any fun a=>al a x)
 . rw[ha,L1 (by simp)] at hsucc;have g1:∀st d tok nl t',ft (bO [] [] [] (fun _=>false) (fun _=>false)) st (some d) 24 (.sl ((jn (S.take i)).map ay).isEmpty 3 ((jn (S.take i)).map ay) (some tok)) (.sl nl 3 [.agg [.x (.int .i64 x.1),.x (.int .i64 x.2.1),.x (.int .i64 x.2.2)]] t')=some ⟨au (strip tok (strip d st.t)) d (.sl false 3 ((jn (S.take i)).map ay++[.agg [.x (.int .i64 x.1),.x (.int .i64 x.2.1),.x (.int .i64 x.2.2)]]) (some d)),aD (bO [] [] [] (fun _=>false) (fun _=>false)) tok (aD (bO [] [] [] (fun _=>false) (fun _=>false)) d st.b)⟩:=fun st d tok nl t'=>lK (E:=(bO [] [] [] (fun _=>false) (fun _=>false))) (el:=24) (n:=3) Db Dc Dd (by decide) rfl (es:=(jn (S.take i)).map ay) (v:= .agg [.x (.int .i64 x.1),.x (.int .i64 x.2.1),.x (.int .i64 x.2.2)]) rfl (by rw[eq];omega) (by rw[eq];omega) st d tok nl t'
   have hs2:(jn (S.take i)).map ay++[.agg [.x (.int .i64 x.1),.x (.int .i64 x.2.1),.x (.int .i64 x.2.2)]]=(jn (S.take (i+1))).map ay:=by rw[hsucc,M8];rfl
   have hs3:((jn (S.take (i+1))).map ay).isEmpty=false:=by rw[<-hs2];exact gE _ _
   simp +decide (maxDischargeDepth:=200) only[go_sem,Nat.reduceBEq,c5,cu,g1,hs2];refine⟨⟨i+1,hil⟩,⟨?_,?_,hKy⟩,by simp only;omega⟩
   . simp +decide (maxDischargeDepth:=200) only[go_sem,Nat.reduceBEq,hs3]
   . simp +decide (maxDischargeDepth:=200) only[go_sem,Nat.reduceBEq]
 . rw[ha,L0 rfl] at hsucc;simp +decide (maxDischargeDepth:=200) only[go_sem,Nat.reduceBEq,cu];refine⟨⟨i+1,hil⟩,⟨?_,?_,hKy⟩,by simp only;omega⟩
   . simp +decide (maxDischargeDepth:=200) only[go_sem,Nat.reduceBEq,hsucc]
   . simp +decide (maxDischargeDepth:=200) only[go_sem,Nat.reduceBEq]
end Go.Proofs.Ytenmccehpkiamaa
