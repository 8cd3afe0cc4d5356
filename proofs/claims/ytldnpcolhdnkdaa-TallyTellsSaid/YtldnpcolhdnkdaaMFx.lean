/- Package front: what a front is in memory; Count. -/
import Derived.Test.YtldnpcolhdnkdaaMTx
import Derived.Test.YtldnpcolhdnkdaaMFr
import Derived.Test.YtldnpcolhdnkdaaMSq
import Derived.Test.YtldnpcolhdnkdaaMHx
import Derived.Test.YtldnpcolhdnkdaaMFa
namespace Go.Proofs.Ytldnpcolhdnkdaa
set_option linter.unusedSimpArgs false
set_option maxHeartbeats 32000000
set_option maxRecDepth 100000
open Go Go.RowKit
attribute [go_sem] Try.results11 Try.results12 Try.results13 Try.results18 Try.results19 Try.results20 Try.results21 Try.results32
def DFr:FrT:=fun H p c k F=>∃(L:List Ch) (g:Option Nat),H p=some (rowO [.map g] 40)∧MapO H g L∧g≠some p∧dC L∧(∀x∈L,x.2≠0)∧(∀s,c s=bn L s)∧(L.length<=k∧k<=100)∧F=p::g.toList
theorem DFr.ok:FrOK DFr 40 [.map none]:=by
 refine⟨?_,?_,?_⟩
 . rintro H H' p c k F ⟨L,g,h1,h2,h3,h4,h5,h6,h7,rfl⟩ hk;exact⟨L,g,(hk p (PZ ..)).trans h1,h2.to (fun y hy=>hk y (P4 _ (by rw[hy];simp))),h3,h4,h5,h6,h7,rfl⟩
 . rintro H p c k F ⟨L,g,h1,h2,h3,h4,h5,h6,h7,rfl⟩ y hy;rcases PY.1 hy with rfl|hy
   . rw[h1];simp
   . cases g with
     |none=>cases hy
     |some g=>obtain⟨ents,clock,e,_⟩:MapH H g (cX L) (dE L):=h2;simp only[Option.toList_some,PQ] at hy;subst hy;rw[e];simp
 . intro H p h;exact⟨[],none,h,rfl,by simp,Q3,(fun x hx=>by cases hx),fun s=>rfl,⟨PB _,by decide⟩,rfl⟩
def KB (p:Nat) (g:Option Nat) (L:List Ch) (s:aK):Nat->V
 |4=> .x (.int .i64 (bn L s))
 |7=> .x (ar p)
 |8=> .x (ar p)
 |9=> .x (ar p)
 |10=> .x (.map g)
 |11=> .agg [.x (.int .i64 s.1),.x (.int .i64 s.2.1),.x (.int .i64 s.2.2)]
 |12=> .x (.int .i64 (bn L s))
 |_=> .undef
theorem vd:cV (bU [] [] [] (fun _=>false) (fun _=>false)) 13 (Co DFr):=by
 refine dS (F:={F:=fun _=>none,D:=fun _=>false,any:=fun i=>i==3,Y:=iZ (rH Try.prog) (me Try.prog)}) (n:=13) (k:=2) (aP [] [] [] _ _ trivial trivial trivial) (by kernel_rfl) (fun f C e=>by cases e) (fun t s C e=>by cases e) Try.func13 rfl (fun a w=>Try.call13 a w) Try.ntmps13 (by decide) (by decide) (by kernel_rfl) ?_ (hY:=(bF k6 mh));rintro us H T ⟨p,s,c,k,F,rfl,⟨L,g,hp,hM,hne,hO,hz,hc,⟨hk,hk1⟩,rfl⟩,hT⟩ hdat;clear hdat;refine⟨rfl,?_⟩;rw[hc] at hT;have fF:m7 Try.prog 40 0=some 0:=by kernel_rfl
 have nT:rG Try.prog 37 (.x (.pointer none))=true:=by kernel_rfl
 have c1:=ak hp;simp +decide (maxDischargeDepth:=200) only[go_sem,Nat.reduceBEq,aJ,fF,nT,c1,iO];refine aU (fun k=>match k with|1=>[7]|2=>[8]|3=>[9]|5=>[10,11]|6=>[12]|_=>[]) [] (fun k=>match k with|_=>0) (fun _ Hx _=>H=Hx) (KB p g L s) (by kernel_rfl) (by kernel_rfl) (by kernel_rfl) rfl ?_ ?_ ?_
 . rintro j i' o Hx val st ho hW hj hJ hv hn hb hbb K' hk;have b0:st.t 0= .x (ar p):=hb 0 (by kernel_rfl);have b3:st.t 3= .ptr 3 0:=hb 3 (by kernel_rfl);have bb3:st.b 3=some ([.x (.int .i64 s.1),.x (.int .i64 s.2.1),.x (.int .i64 s.2.2)]):=(QP hbb 3).trans (by kernel_rfl);clear hb hbb;subst hJ;rcases i' with _|_|_|_|_|_|_|i'
   . cases ho;simp +decide (maxDischargeDepth:=200) only[go_sem,Nat.reduceBEq,b0,fF,nT,c1,iO];exact hk _ (Le.refl _)
   . cases ho;have h7:st.t 7= .x (ar p):=(hn 7 (by decide)).trans (hv 7 (by kernel_rfl));simp +decide (maxDischargeDepth:=200) only[go_sem,Nat.reduceBEq,h7,fF,nT,c1,iO];exact hk _ (Le.refl _)
   . cases ho;have h8:st.t 8= .x (ar p):=(hn 8 (by decide)).trans (hv 8 (by kernel_rfl));simp +decide (maxDischargeDepth:=200) only[go_sem,Nat.reduceBEq,h8,fF,nT,c1,iO];exact hk _ (Le.refl _)
   . cases ho;have h9:st.t 9= .x (ar p):=(hn 9 (by decide)).trans (hv 9 (by kernel_rfl));simp +decide (maxDischargeDepth:=200) only[go_sem,Nat.reduceBEq,h9,fF,nT,c1,iO];exact hk _ (Le.refl _)
   . cases ho;simp +decide (maxDischargeDepth:=200) only[go_sem,Nat.reduceBEq,b3,bb3,fF,nT,c1,iO];exact hk _ (Le.refl _)
   . cases ho;have h10:st.t 10= .x (.map g):=(hn 10 (by decide)).trans (hv 10 (by kernel_rfl));have h11:st.t 11= .agg [.x (.int .i64 s.1),.x (.int .i64 s.2.1),.x (.int .i64 s.2.2)]:=(hn 11 (by decide)).trans (hv 11 (by kernel_rfl));simp +decide (maxDischargeDepth:=200) only[go_sem,Nat.reduceBEq,h10,h11,fF,nT,c1,iO];exact pj hM (by simp only[bo];exact hk _ (Le.refl _))
   . cases ho;have h12:st.t 12= .x (.int .i64 (bn L s)):=(hn 12 (by decide)).trans (hv 12 (by kernel_rfl));simp +decide (maxDischargeDepth:=200) only[go_sem,Nat.reduceBEq,h12,fF,nT,c1,iO];exact hk _ (Le.refl _)
   . cases ho
 . rintro j i' o Hx val st hj ho hJ hv hn hb hbb K' hk;have b0:st.t 0= .x (ar p):=hb 0 (by kernel_rfl);have b3:st.t 3= .ptr 3 0:=hb 3 (by kernel_rfl);have bb3:st.b 3=some ([.x (.int .i64 s.1),.x (.int .i64 s.2.1),.x (.int .i64 s.2.2)]):=(QP hbb 3).trans (by kernel_rfl);clear hb hbb;rcases j with j
   . cases hj
 . rintro Hx val hJ hv;refine⟨[(4,.x (.int .i64 (bn L s)))],[],?_,?_,?_⟩
   . simp +decide only[go_sem,Nat.reduceBEq]<;>(repeat' first|exact bd (by kernel_rfl)|exact(be (by kernel_rfl)).trans (hv _ (by kernel_rfl))|rfl|constructor)
   . simp +decide only[go_sem,Nat.reduceBEq]<;>(repeat' first|rfl|constructor)
   subst hJ;simp +decide (maxDischargeDepth:=200) only[go_sem,Nat.reduceBEq];exact hT
variable {H:HH} {L:List Ch} {s:aK} {T:V->HH->Prop}
theorem Ih {g:Nat} (h:MapH H g (cX L) (dE L)) (hT:∀Hx,MapH Hx g (cX (fY s L)) (dE (fY s L))->(∀y,y≠g->Hx y=H y)->T (.x (.tuple #[])) Hx):Kv Try.prog 38 H g (.agg [.x (.int .i64 s.1),.x (.int .i64 s.2.1),.x (.int .i64 s.2.2)]) T:=
 ⟨_,_,_,_,h,rfl,wj L s,fun _ hm=>hT _ hm fun _ hy=>ae _ _ hy⟩
theorem FS (s:aK):uG Try.prog 38 [] [] (.agg [.x (.int .i64 s.1),.x (.int .i64 s.2.1),.x (.int .i64 s.2.2)])=some ([],[]):=wj [] s
def KC (p:Nat) (g:Option Nat) (L:List Ch) (s:aK) (n:Int):Nat->V
 |6=> .x (.int .i64 (bn L s+n))
 |9=> .x (ar p)
 |10=> .x (ar p)
 |11=> .x (ar p)
 |12=> .x (.map g)
 |13=> .agg [.x (.int .i64 s.1),.x (.int .i64 s.2.1),.x (.int .i64 s.2.2)]
 |14=> .x (.int .i64 (bn L s))
 |15=> .x (.int .i64 n)
 |16=> .x (.int .i64 (bn L s+n))
 |_=> .undef
def KD (p:Nat) (g:Option Nat) (s:aK):Nat->V
 |19=> .x (ar p)
 |20=> .x (ar p)
 |21=> .x (ar p)
 |22=> .x (.map g)
 |23=> .agg [.x (.int .i64 s.1),.x (.int .i64 s.2.1),.x (.int .i64 s.2.2)]
 |_=> .undef
def Gr (p g:Nat) (s:aK) (m:Int):Nat->V
 |33=> .x (ar p)
 |34=> .x (ar p)
 |35=> .x (ar p)
 |36=> .x (.map (some g))
 |37=> .agg [.x (.int .i64 s.1),.x (.int .i64 s.2.1),.x (.int .i64 s.2.2)]
 |38=> .x (.int .i64 m)
 |_=> .undef
theorem Dc:cV (bU [] [] [] (fun _=>false) (fun _=>false)) 18 (Fp DFr):=by
 refine dS (F:={F:=fun _=>none,D:=fun _=>false,any:=fun i=>i==2||(i==4||i==7),Y:=iZ (rH Try.prog) (iZ (me Try.prog) (iZ (Cb Try.prog) (iZ (rF Try.prog) (iZ (Iw fun d=>d==30) (Ca Try.prog)))))}) (n:=39) (k:=3) (aP [] [] [] _ _ trivial trivial trivial) (by kernel_rfl) (fun f C e=>by cases e) (fun t s C e=>by cases e) Try.func18 rfl (fun a w=>Try.call18 a w) Try.ntmps18 (by decide) (by decide) (by kernel_rfl) ?_ (hY:=(bF k6 (bF mh (bF (Fm (aP [] [] [] _ _ trivial trivial trivial)) (bF Cj (bF (Cf (aP [] [] [] _ _ trivial trivial trivial) _) (Fl (aP [] [] [] _ _ trivial trivial trivial))))))));rintro us H T ⟨p,s,n,c,k,F,rfl,⟨L,g,hp,hM,hne,hO,hz,hc,⟨hk,hk1⟩,rfl⟩,hk2,hbig,hn,hT⟩ hdat;clear hdat;refine⟨rfl,?_⟩;have hcs:=hbig s;rw[hc] at hcs;have hw:aq .i64 (bn L s+n)=bn L s+n:=aj (by unfold aS;omega);have fF:m7 Try.prog 40 0=some 0:=by kernel_rfl
 have nT:rG Try.prog 37 (.x (.pointer none))=true:=by kernel_rfl
 have c1:=ak hp;simp +decide (maxDischargeDepth:=200) only[go_sem,Nat.reduceBEq,aJ,fF,nT,c1,iO];refine aU (fun k=>match k with|1=>[9]|2=>[10]|3=>[11]|5=>[12,13]|7=>[14,15]|8=>[16]|_=>[]) [] (fun k=>match k with|_=>0) (fun _ Hx _=>H=Hx) (KC p g L s n) (by kernel_rfl) (by kernel_rfl) (by kernel_rfl) rfl ?_ ?_ ?_
 . rintro j i' o Hx val st ho hW hj hJ hv hn hb hbb K' hk;have b0:st.t 0= .x (ar p):=hb 0 (by kernel_rfl);have b2:st.t 2= .x (.int .i64 n):=hb 2 (by kernel_rfl);have b4:st.t 4= .ptr 4 0:=hb 4 (by kernel_rfl);have bb4:st.b 4=some ([.x (.int .i64 s.1),.x (.int .i64 s.2.1),.x (.int .i64 s.2.2)]):=(QP hbb 4).trans (by kernel_rfl);clear hb hbb;subst hJ;rcases i' with _|_|_|_|_|_|_|_|_|i'
   . cases ho;simp +decide (maxDischargeDepth:=200) only[go_sem,Nat.reduceBEq,b0,fF,nT,c1,iO,hw];exact hk _ (Le.refl _)
   . cases ho;have h9:st.t 9= .x (ar p):=(hn 9 (by decide)).trans (hv 9 (by kernel_rfl));simp +decide (maxDischargeDepth:=200) only[go_sem,Nat.reduceBEq,h9,fF,nT,c1,iO,hw];exact hk _ (Le.refl _)
   . cases ho;have h10:st.t 10= .x (ar p):=(hn 10 (by decide)).trans (hv 10 (by kernel_rfl));simp +decide (maxDischargeDepth:=200) only[go_sem,Nat.reduceBEq,h10,fF,nT,c1,iO,hw];exact hk _ (Le.refl _)
   . cases ho;have h11:st.t 11= .x (ar p):=(hn 11 (by decide)).trans (hv 11 (by kernel_rfl));simp +decide (maxDischargeDepth:=200) only[go_sem,Nat.reduceBEq,h11,fF,nT,c1,iO,hw];exact hk _ (Le.refl _)
   . cases ho;simp +decide (maxDischargeDepth:=200) only[go_sem,Nat.reduceBEq,b4,bb4,fF,nT,c1,iO,hw];exact hk _ (Le.refl _)
   . cases ho;have h12:st.t 12= .x (.map g):=(hn 12 (by decide)).trans (hv 12 (by kernel_rfl));have h13:st.t 13= .agg [.x (.int .i64 s.1),.x (.int .i64 s.2.1),.x (.int .i64 s.2.2)]:=(hn 13 (by decide)).trans (hv 13 (by kernel_rfl));simp +decide (maxDischargeDepth:=200) only[go_sem,Nat.reduceBEq,h12,h13,fF,nT,c1,iO,hw];exact pj hM (by simp only[bo];exact hk _ (Le.refl _))
   . cases ho;simp +decide (maxDischargeDepth:=200) only[go_sem,Nat.reduceBEq,b2,fF,nT,c1,iO,hw];exact hk _ (Le.refl _)
   . cases ho;have h14:st.t 14= .x (.int .i64 (bn L s)):=(hn 14 (by decide)).trans (hv 14 (by kernel_rfl));have h15:st.t 15= .x (.int .i64 n):=(hn 15 (by decide)).trans (hv 15 (by kernel_rfl));simp +decide (maxDischargeDepth:=200) only[go_sem,Nat.reduceBEq,h14,h15,fF,nT,c1,iO,hw];exact hk _ (Le.refl _)
   . cases ho;have h16:st.t 16= .x (.int .i64 (bn L s+n)):=(hn 16 (by decide)).trans (hv 16 (by kernel_rfl));simp +decide (maxDischargeDepth:=200) only[go_sem,Nat.reduceBEq,h16,fF,nT,c1,iO,hw];exact hk _ (Le.refl _)
   . cases ho
 . rintro j i' o Hx val st hj ho hJ hv hn hb hbb K' hk;have b0:st.t 0= .x (ar p):=hb 0 (by kernel_rfl);have b2:st.t 2= .x (.int .i64 n):=hb 2 (by kernel_rfl);have b4:st.t 4= .ptr 4 0:=hb 4 (by kernel_rfl);have bb4:st.b 4=some ([.x (.int .i64 s.1),.x (.int .i64 s.2.1),.x (.int .i64 s.2.2)]):=(QP hbb 4).trans (by kernel_rfl);clear hb hbb;rcases j with j
   . cases hj
 . rintro Hx val hJ hv;refine⟨[(0,.x (ar p)),(2,.x (.int .i64 n)),(4,.ptr 4 0),(6,.x (.int .i64 (bn L s+n)))],[(4,[.x (.int .i64 s.1),.x (.int .i64 s.2.1),.x (.int .i64 s.2.2)])],?_,?_,?_⟩
   . simp +decide only[go_sem,Nat.reduceBEq]<;>(repeat' first|exact bd (by kernel_rfl)|exact(be (by kernel_rfl)).trans (hv _ (by kernel_rfl))|rfl|constructor)
   . simp +decide only[go_sem,Nat.reduceBEq]<;>(repeat' first|rfl|constructor)
   subst hJ;clear hv;have hgp:g≠some p:=hne;by_cases h0:bn L s+n=0
   . have d0:=PD h0;simp +decide (maxDischargeDepth:=200) only[go_sem,Nat.reduceBEq,fF,nT,c1,iO,d0];refine aU (fun k=>match k with|1=>[19]|2=>[20]|3=>[21]|5=>[22,23]|_=>[]) [5] (fun k=>match k with|0=>0|1=>0|2=>0|3=>0|4=>0|_=>1) (fun j Hx _=>match j with|0=>Hx=H|_=>MapO Hx g (fY s L)∧∀y,g≠some y->Hx y=H y) (KD p g s) (by kernel_rfl) (by kernel_rfl) (by kernel_rfl) rfl ?_ ?_ ?_
     . rintro j i' o Hx val st ho hW hj hJ hv hn hb hbb K' hk;have b0:st.t 0= .x (ar p):=hb 0 (by kernel_rfl);have b4:st.t 4= .ptr 4 0:=hb 4 (by kernel_rfl);have bb4:st.b 4=some ([.x (.int .i64 s.1),.x (.int .i64 s.2.1),.x (.int .i64 s.2.2)]):=(QP hbb 4).trans (by kernel_rfl);clear hb hbb;have hHp:Hx p=some (rowO [.map g] 40):=by
        rcases j with _|j
        . have e:Hx=H:=hJ;rw[e];exact hp
        . rw[(show _∧_ from hJ).2 p hgp];exact hp
       have c7:=ak hHp;rcases i' with _|_|_|_|_|_|i'
       . cases ho;simp +decide (maxDischargeDepth:=200) only[go_sem,Nat.reduceBEq,b0,fF,nT,c7,iO];exact hk _ (Le.refl _)
       . cases ho;have h19:st.t 19= .x (ar p):=(hn 19 (by decide)).trans (hv 19 (by kernel_rfl));simp +decide (maxDischargeDepth:=200) only[go_sem,Nat.reduceBEq,h19,fF,nT,c7,iO];exact hk _ (Le.refl _)
       . cases ho;have h20:st.t 20= .x (ar p):=(hn 20 (by decide)).trans (hv 20 (by kernel_rfl));simp +decide (maxDischargeDepth:=200) only[go_sem,Nat.reduceBEq,h20,fF,nT,c7,iO];exact hk _ (Le.refl _)
       . cases ho;have h21:st.t 21= .x (ar p):=(hn 21 (by decide)).trans (hv 21 (by kernel_rfl));simp +decide (maxDischargeDepth:=200) only[go_sem,Nat.reduceBEq,h21,fF,nT,c7,iO];exact hk _ (Le.refl _)
       . cases ho;simp +decide (maxDischargeDepth:=200) only[go_sem,Nat.reduceBEq,b4,bb4,fF,nT,c7,iO];exact hk _ (Le.refl _)
       . cases hW
       . cases ho
     . rintro j i' o Hx val st hj ho hJ hv hn hb hbb K' hk;have b0:st.t 0= .x (ar p):=hb 0 (by kernel_rfl);have b4:st.t 4= .ptr 4 0:=hb 4 (by kernel_rfl);have bb4:st.b 4=some ([.x (.int .i64 s.1),.x (.int .i64 s.2.1),.x (.int .i64 s.2.2)]):=(QP hbb 4).trans (by kernel_rfl);clear hb hbb;rcases j with _|j
       . cases hj;cases ho;have h22:st.t 22= .x (.map g):=(hn 22 (by decide)).trans (hv 22 (by kernel_rfl));have h23:st.t 23= .agg [.x (.int .i64 s.1),.x (.int .i64 s.2.1),.x (.int .i64 s.2.2)]:=(hn 23 (by decide)).trans (hv 23 (by kernel_rfl));have e:Hx=H:=hJ;subst e;cases g with
         |none=>have e:L=[]:=hM;subst e;have dM:=FS s;simp +decide (maxDischargeDepth:=200) only[go_sem,Nat.reduceBEq,h22,h23,dM];exact hk _ .undef _ ⟨rfl,fun _ _=>rfl⟩ (Le.refl _)
         |some g=>simp +decide (maxDischargeDepth:=200) only[go_sem,Nat.reduceBEq,h22,h23];exact Ih hM fun H' q1 q2=>hk H' .undef _ ⟨q1,fun y hy=>q2 y (fun e=>hy (by rw[e]))⟩ (Le.refl _)
       . cases hj
     . rintro Hx val hJ hv;refine⟨[],[(4,[.x (.int .i64 s.1),.x (.int .i64 s.2.1),.x (.int .i64 s.2.2)])],?_,?_,?_⟩
       . simp +decide only[go_sem,Nat.reduceBEq]<;>(repeat' first|exact bd (by kernel_rfl)|exact(be (by kernel_rfl)).trans (hv _ (by kernel_rfl))|rfl|constructor)
       . simp +decide only[go_sem,Nat.reduceBEq]<;>(repeat' first|rfl|constructor)
       obtain⟨hM2,hK2⟩:MapO Hx g (fY s L)∧_:=hJ;simp +decide (maxDischargeDepth:=200) only[go_sem,Nat.reduceBEq];refine hT Hx (p::g.toList) ⟨fY s L,g,(hK2 p hgp).trans hp,hM2,hne,yW hO,fun x hx=>hz x (CK hx),fun t=>?_,⟨tl (CL s L) (Nat.le_succ_of_le hk),hk2⟩,rfl⟩ (fun y hy _=>hK2 y (fun e=>hy (by rw[e];simp))) (fun y hy=> .inl hy);rw[rQ s hO,js];by_cases e:t=s
       . rw[PO e,PO e,hc,e];exact h0
       . rw[PS e,PS e,hc]
   have d0:=PC h0;have hfin:∀(g1:Nat) (H1 Hx:HH),H1 p=some (rowO [.map (some g1)] 40)->MapH Hx g1 (cX (bR s (bn L s+n) L)) (dE (bR s (bn L s+n) L))->g1≠p->(g=some g1∨H g1=none)->(∀y,y≠g1->Hx y=H1 y)->(∀y,y≠p->y≠g1->H1 y=H y)->T (.tup []) Hx:=fun g1 H1 Hx q1 q2 q3 q4 q5 q6=>by
    refine hT Hx [p,g1] ⟨bR s (bn L s+n) L,some g1,(q5 p (QT q3)).trans q1,q2,(fun e=>q3 (QE e)),od hO,CJ h0 hz,fun t=>?_,⟨tl (rR s _ L) (Nat.succ_le_succ hk),hk2⟩,rfl⟩ (fun y hy hn2=>?_) (fun y hy=>?_)
    . rw[jA,js];by_cases e:t=s
      . rw[PO e,PO e,hc,e]
      . rw[PS e,PS e,hc]
    . have e1:y≠p:=fun e=>hy (by rw[e];simp)
      have e2:y≠g1:=fun e=>by
       rcases q4 with q4|q4
       . exact hy (by rw[q4,e];simp)
       . rw[e] at hn2;exact hn2 q4
      exact(q5 y e2).trans (q6 y e1 e2)
    . simp only[PY,R9,or_false] at hy;rcases hy with rfl|rfl
      . exact .inl (by simp)
      . rcases q4 with q4|q4
        . exact .inl (by rw[q4];simp)
        . exact .inr q4
   cases g with
   | none=>
     have e:L=[]:=hM;subst e;simp +decide (maxDischargeDepth:=200) only[go_sem,Nat.reduceBEq,fF,nT,c1,iO,d0,Option.isNone_none];intro gn hgn hMn;have hgp':p≠gn:=fun e=>by rw[<-e,hp] at hgn;cases hgn
     have hp3:(aw H gn (some (.map #[] 0))) p=some (rowO [.map none] 40):=(ae _ _ hgp').trans hp;have c3:=ak hp3;have sp0:cF [Value.map none] 0 [Value.map (some gn)]=[Value.map (some gn)]:=rfl;simp +decide (maxDischargeDepth:=200) only[go_sem,Nat.reduceBEq,fF,nT,c1,iO,c3,sp0];have hp4:(aw (aw H gn (some (.map #[] 0))) p (some (rowO [.map (some gn)] 40))) p=some (rowO [.map (some gn)] 40):=aa _ _ _;have hM4:MapH (aw (aw H gn (some (.map #[] 0))) p (some (rowO [.map (some gn)] 40))) gn (cX []) (dE []):=MapH.to hMn (ae _ _ (QT hgp'));have hK4:∀y,y≠p->y≠gn->(aw (aw H gn (some (.map #[] 0))) p (some (rowO [.map (some gn)] 40))) y=H y:=fun y h1 h2=>(ae _ _ h1).trans (ae _ _ h2)
     generalize (aw (aw H gn (some (.map #[] 0))) p (some (rowO [.map (some gn)] 40)))=H4 at hp4 hM4 hK4⊢;refine aU (fun k=>match k with|1=>[33]|2=>[34]|3=>[35]|6=>[36,37,38]|_=>[]) [6] (fun k=>match k with|0=>0|1=>0|2=>0|3=>0|4=>0|5=>0|_=>1) (fun j Hx _=>match j with|0=>Hx=H4|_=>MapH Hx gn (cX (bR s (bn [] s+n) [])) (dE (bR s (bn [] s+n) []))∧∀y,y≠gn->Hx y=H4 y) (Gr p gn s (bn [] s+n)) (by kernel_rfl) (by kernel_rfl) (by kernel_rfl) rfl ?_ ?_ ?_
     . rintro j i' o Hx val st ho hW hj hJ hv hn hb hbb K' hk;have b0:st.t 0= .x (ar p):=hb 0 (by kernel_rfl);have b4:st.t 4= .ptr 4 0:=hb 4 (by kernel_rfl);have b6:st.t 6= .x (.int .i64 (bn [] s+n)):=hb 6 (by kernel_rfl);have bb4:st.b 4=some ([.x (.int .i64 s.1),.x (.int .i64 s.2.1),.x (.int .i64 s.2.2)]):=(QP hbb 4).trans (by kernel_rfl);clear hb hbb;have hHp:Hx p=some (rowO [.map (some gn)] 40):=by
        rcases j with _|j
        . have e:Hx=H4:=hJ;rw[e];exact hp4
        . rw[(show _∧_ from hJ).2 p hgp'];exact hp4
       have c7:=ak hHp;rcases i' with _|_|_|_|_|_|_|i'
       . cases ho;simp +decide (maxDischargeDepth:=200) only[go_sem,Nat.reduceBEq,b0,fF,nT,c7,iO];exact hk _ (Le.refl _)
       . cases ho;have h33:st.t 33= .x (ar p):=(hn 33 (by decide)).trans (hv 33 (by kernel_rfl));simp +decide (maxDischargeDepth:=200) only[go_sem,Nat.reduceBEq,h33,fF,nT,c7,iO];exact hk _ (Le.refl _)
       . cases ho;have h34:st.t 34= .x (ar p):=(hn 34 (by decide)).trans (hv 34 (by kernel_rfl));simp +decide (maxDischargeDepth:=200) only[go_sem,Nat.reduceBEq,h34,fF,nT,c7,iO];exact hk _ (Le.refl _)
       . cases ho;have h35:st.t 35= .x (ar p):=(hn 35 (by decide)).trans (hv 35 (by kernel_rfl));simp +decide (maxDischargeDepth:=200) only[go_sem,Nat.reduceBEq,h35,fF,nT,c7,iO];exact hk _ (Le.refl _)
       . cases ho;simp +decide (maxDischargeDepth:=200) only[go_sem,Nat.reduceBEq,b4,bb4,fF,nT,c7,iO];exact hk _ (Le.refl _)
       . cases ho;simp +decide (maxDischargeDepth:=200) only[go_sem,Nat.reduceBEq,b6,fF,nT,c7,iO];exact hk _ (Le.refl _)
       . cases hW
       . cases ho
     . rintro j i' o Hx val st hj ho hJ hv hn hb hbb K' hk;have b0:st.t 0= .x (ar p):=hb 0 (by kernel_rfl);have b4:st.t 4= .ptr 4 0:=hb 4 (by kernel_rfl);have b6:st.t 6= .x (.int .i64 (bn [] s+n)):=hb 6 (by kernel_rfl);have bb4:st.b 4=some ([.x (.int .i64 s.1),.x (.int .i64 s.2.1),.x (.int .i64 s.2.2)]):=(QP hbb 4).trans (by kernel_rfl);clear hb hbb;rcases j with _|j
       . cases hj;cases ho;have h36:st.t 36= .x (.map (some gn)):=(hn 36 (by decide)).trans (hv 36 (by kernel_rfl));have h37:st.t 37= .agg [.x (.int .i64 s.1),.x (.int .i64 s.2.1),.x (.int .i64 s.2.2)]:=(hn 37 (by decide)).trans (hv 37 (by kernel_rfl));have h38:st.t 38= .x (.int .i64 (bn [] s+n)):=(hn 38 (by decide)).trans (hv 38 (by kernel_rfl));have e:Hx=H4:=hJ;subst e;simp +decide (maxDischargeDepth:=200) only[go_sem,Nat.reduceBEq,h36,h37,h38];exact CM hM4 fun H' q1 q2=>hk H' .undef _ ⟨q1,q2⟩ (Le.refl _)
       . cases hj
     . rintro Hx val hJ hv;refine⟨[],[(4,[.x (.int .i64 s.1),.x (.int .i64 s.2.1),.x (.int .i64 s.2.2)])],?_,?_,?_⟩
       . simp +decide only[go_sem,Nat.reduceBEq]<;>(repeat' first|exact bd (by kernel_rfl)|exact(be (by kernel_rfl)).trans (hv _ (by kernel_rfl))|rfl|constructor)
       . simp +decide only[go_sem,Nat.reduceBEq]<;>(repeat' first|rfl|constructor)
       obtain⟨hM2,hK2⟩:MapH Hx gn _ _∧_:=hJ;simp +decide (maxDischargeDepth:=200) only[go_sem,Nat.reduceBEq];exact hfin gn H4 Hx hp4 hM2 (QT hgp') (.inr hgn) hK2 hK4
   | some g=>
     have hgp':p≠g:=fun e=>hgp (by rw[e])
     simp +decide (maxDischargeDepth:=200) only[go_sem,Nat.reduceBEq,fF,nT,c1,iO,d0,Option.isNone_some];refine aU (fun k=>match k with|1=>[33]|2=>[34]|3=>[35]|6=>[36,37,38]|_=>[]) [6] (fun k=>match k with|0=>0|1=>0|2=>0|3=>0|4=>0|5=>0|_=>1) (fun j Hx _=>match j with|0=>Hx=H|_=>MapH Hx g (cX (bR s (bn L s+n) L)) (dE (bR s (bn L s+n) L))∧∀y,y≠g->Hx y=H y) (Gr p g s (bn L s+n)) (by kernel_rfl) (by kernel_rfl) (by kernel_rfl) rfl ?_ ?_ ?_
     . rintro j i' o Hx val st ho hW hj hJ hv hn hb hbb K' hk;have b0:st.t 0= .x (ar p):=hb 0 (by kernel_rfl);have b4:st.t 4= .ptr 4 0:=hb 4 (by kernel_rfl);have b6:st.t 6= .x (.int .i64 (bn L s+n)):=hb 6 (by kernel_rfl);have bb4:st.b 4=some ([.x (.int .i64 s.1),.x (.int .i64 s.2.1),.x (.int .i64 s.2.2)]):=(QP hbb 4).trans (by kernel_rfl);clear hb hbb;have hHp:Hx p=some (rowO [.map (some g)] 40):=by
        rcases j with _|j
        . have e:Hx=H:=hJ;rw[e];exact hp
        . rw[(show _∧_ from hJ).2 p hgp'];exact hp
       have c7:=ak hHp;rcases i' with _|_|_|_|_|_|_|i'
       . cases ho;simp +decide (maxDischargeDepth:=200) only[go_sem,Nat.reduceBEq,b0,fF,nT,c7,iO];exact hk _ (Le.refl _)
       . cases ho;have h33:st.t 33= .x (ar p):=(hn 33 (by decide)).trans (hv 33 (by kernel_rfl));simp +decide (maxDischargeDepth:=200) only[go_sem,Nat.reduceBEq,h33,fF,nT,c7,iO];exact hk _ (Le.refl _)
       . cases ho;have h34:st.t 34= .x (ar p):=(hn 34 (by decide)).trans (hv 34 (by kernel_rfl));simp +decide (maxDischargeDepth:=200) only[go_sem,Nat.reduceBEq,h34,fF,nT,c7,iO];exact hk _ (Le.refl _)
       . cases ho;have h35:st.t 35= .x (ar p):=(hn 35 (by decide)).trans (hv 35 (by kernel_rfl));simp +decide (maxDischargeDepth:=200) only[go_sem,Nat.reduceBEq,h35,fF,nT,c7,iO];exact hk _ (Le.refl _)
       . cases ho;simp +decide (maxDischargeDepth:=200) only[go_sem,Nat.reduceBEq,b4,bb4,fF,nT,c7,iO];exact hk _ (Le.refl _)
       . cases ho;simp +decide (maxDischargeDepth:=200) only[go_sem,Nat.reduceBEq,b6,fF,nT,c7,iO];exact hk _ (Le.refl _)
       . cases hW
       . cases ho
     . rintro j i' o Hx val st hj ho hJ hv hn hb hbb K' hk;have b0:st.t 0= .x (ar p):=hb 0 (by kernel_rfl);have b4:st.t 4= .ptr 4 0:=hb 4 (by kernel_rfl);have b6:st.t 6= .x (.int .i64 (bn L s+n)):=hb 6 (by kernel_rfl);have bb4:st.b 4=some ([.x (.int .i64 s.1),.x (.int .i64 s.2.1),.x (.int .i64 s.2.2)]):=(QP hbb 4).trans (by kernel_rfl);clear hb hbb;rcases j with _|j
       . cases hj;cases ho;have h36:st.t 36= .x (.map (some g)):=(hn 36 (by decide)).trans (hv 36 (by kernel_rfl));have h37:st.t 37= .agg [.x (.int .i64 s.1),.x (.int .i64 s.2.1),.x (.int .i64 s.2.2)]:=(hn 37 (by decide)).trans (hv 37 (by kernel_rfl));have h38:st.t 38= .x (.int .i64 (bn L s+n)):=(hn 38 (by decide)).trans (hv 38 (by kernel_rfl));have e:Hx=H:=hJ;subst e;simp +decide (maxDischargeDepth:=200) only[go_sem,Nat.reduceBEq,h36,h37,h38];exact CM (show MapH _ g (cX L) (dE L) from hM) fun H' q1 q2=>hk H' .undef _ ⟨q1,q2⟩ (Le.refl _)
       . cases hj
     . rintro Hx val hJ hv;refine⟨[],[(4,[.x (.int .i64 s.1),.x (.int .i64 s.2.1),.x (.int .i64 s.2.2)])],?_,?_,?_⟩
       . simp +decide only[go_sem,Nat.reduceBEq]<;>(repeat' first|exact bd (by kernel_rfl)|exact(be (by kernel_rfl)).trans (hv _ (by kernel_rfl))|rfl|constructor)
       . simp +decide only[go_sem,Nat.reduceBEq]<;>(repeat' first|rfl|constructor)
       obtain⟨hM2,hK2⟩:MapH Hx g _ _∧_:=hJ;simp +decide (maxDischargeDepth:=200) only[go_sem,Nat.reduceBEq];exact hfin g H Hx hp hM2 (QT hgp') (.inl rfl) hK2 (fun _ _ _=>rfl)
variable {Hx:HH} {r:Nat} {g:Option Nat} {vis:List Nat}
theorem FT (hM:MapO H g L) (hr:H r=none) (hI:ItO Hx r g vis) (hk:∀y,y≠r->Hx y=H y)
 (h0:(∀i,i<L.length->i∈vis)->T (.tup [.x (.bool false)]) Hx) (h1:∀(i:Nat) (x:Ch) Hy,L[i]?=some x->i∉vis->ItO Hy r g (vis++[i])->(∀y,y≠r->Hy y=H y)->T (.tup [.x (.bool true),.agg [.x (.int .i64 x.1.1),.x (.int .i64 x.1.2.1),.x (.int .i64 x.1.2.2)],.x (.int .i64 x.2)]) Hy):Ci Hx r T:=by
 cases g with
 |none=>have e:L=[]:=hM;subst e;exact .inr ⟨hI.1,h0 fun i hi=>by simp at hi⟩
 | some g=>
   have hM':MapH H g (cX L) (dE L):=hM;have hgr:g≠r:=fun e=>by obtain⟨_,_,e',_⟩:=hM';rw[e,hr] at e';cases e'
   refine .inl ⟨g,_,_,vis,hM'.to (hk g hgr),hI,fun h=>h0 fun i hi=>h i (by simpa[cX] using hi),fun i k v hk1 hv1 hn ob hI2=>?_⟩;rw[cX,PF] at hk1;rw[dE,PF] at hv1;obtain⟨x,hx,rfl⟩:=PK.1 hk1;rw[hx] at hv1;cases hv1;exact h1 i x _ hx hn hI2 fun y hy=>(ae _ _ hy).trans (hk y hy)
theorem Dd {i:Nat} {x:Ch} (hM:MapO H g L) (hr:H r=none) (hI:ItO Hx r g (vis++[i])) (hk:∀y,y≠r->Hx y=H y) (hx:L[i]?=some x)
 (h1:T (.tup [.agg [.x (.int .i64 x.1.1),.x (.int .i64 x.1.2.1),.x (.int .i64 x.1.2.2)],.x (.int .i64 x.2)]) Hx):uH Hx r T:=by
 cases g with
 |none=>have e:L=[]:=hM;rw[e] at hx;simp at hx
 | some g=>
   have hM':MapH H g (cX L) (dE L):=hM;have hgr:g≠r:=fun e=>by obtain⟨_,_,e',_⟩:=hM';rw[e,hr] at e';cases e'
   exact⟨g,_,_,vis,i,aJ x.1,_,hM'.to (hk g hgr),hI,by rw[cX,PF,hx];rfl,by rw[dE,PF,hx];rfl,h1⟩
theorem se:cV (bU [(22,df)] [] [] (fun _=>false) (fun _=>false)) 12 (v8 DFr):=by
 refine jq (F:={F:=fun _=>none,D:=fun _=>false,Y:=iZ (rH Try.prog) (iZ (fU (fun d=>d==13) Try.prog) (iZ (iP fun d=>d==14) iN))}) (n:=26) (k:=2) (aP [(22,df)] [] [] _ _ ⟨dH,trivial⟩ trivial trivial) (by kernel_rfl) (fun f C e=>by cases e) (fun t s C e=>by cases e) Try.func12 rfl (fun a w=>Try.call12 a w) Try.ntmps12 (by decide) (by decide) (by kernel_rfl) ?_ (hY:=(bF k6 (bF (iQ (aP [(22,df)] [] [] _ _ ⟨dH,trivial⟩ trivial trivial) _) (bF (j9 (aP [(22,df)] [] [] _ _ ⟨dH,trivial⟩ trivial trivial) _) j8))));rintro us H T ⟨p,s,c,k,F,rfl,⟨L,g,hp,hM,hne,hO,hz,hc,⟨hk,hk1⟩,rfl⟩,hT⟩ hdat;clear hdat;refine⟨rfl,?_⟩;have fF:m7 Try.prog 40 0=some 0:=by kernel_rfl
 have nT:rG Try.prog 37 (.x (.pointer none))=true:=by kernel_rfl
 have c1:=ak hp;simp +decide (maxDischargeDepth:=200) only[go_sem,Nat.reduceBEq,aJ,fF,nT,c1,iO];refine⟨H0,mG hM,fun r ob hr hI0=>?_⟩;refine bP (X:={vis:List Nat//∀i∈vis,∀x,L[i]?=some x->0<x.2->a7 x.1 s=false}) (fun _=>[(3,.ptr 3 0),(13,.x (.pointer (some ⟨r,0,none⟩)))]) (fun _=>[(3,[.x (.int .i64 s.1),.x (.int .i64 s.2.1),.x (.int .i64 s.2.2)])]) (fun vis Hx=>ItO Hx r g vis.1∧∀y,y≠r->Hx y=H y) (fun vis=>((List.range L.length).filter fun j=>decide (j∉vis.1)).length) ⟨[],fun i hi=>by cases hi⟩ (by simp +decide only[go_sem,Nat.reduceBEq,P3]<;>(repeat' first|rfl|constructor)) (by simp +decide only[go_sem,Nat.reduceBEq,P3]<;>(repeat' first|rfl|constructor)) ⟨hI0,fun y hy=>ae _ _ hy⟩ ?_;rintro⟨vis,hvis⟩ Hx ⟨hI,hK⟩;simp only at hvis hI⊢;have hkeep:∀Hy:HH,(∀y,y≠r->Hy y=H y)->∀y ob,H y=some ob->Hy y=some ob:=fun Hy h y ob e=>(h y (fun q=>by rw[q,hr] at e;cases e)).trans e
 simp +decide (maxDischargeDepth:=200) only[go_sem,Nat.reduceBEq];refine FT hM hr hI hK (fun hall=>?_) (fun i x Hy hx hni hI2 hK2=>?_)
 . simp +decide (maxDischargeDepth:=200) only[go_sem,Nat.reduceBEq];exact mo (hkeep Hx hK) (hT true ⟨fun _ t ht=>by rw[hc] at ht;obtain⟨x,hx,rfl⟩:=ka (L:=L) (s:=t) (by omega);rw[eT hO hx] at ht;obtain⟨i,hi⟩:=Q8.1 hx;exact hvis i (hall i (PE.1 hi).1) x hi ht,fun _=>rfl⟩)
 . simp +decide (maxDischargeDepth:=200) only[go_sem,Nat.reduceBEq];refine Dd hM hr hI2 hK2 hx ?_;have hag:∀(hno:0<x.2->a7 x.1 s=false),∀j∈vis++[i],∀y,L[j]?=some y->0<y.2->a7 y.1 s=false:=fun hno j hj y hy h0=>by
    rcases PU.1 hj with hj|hj
    . exact hvis j hj y hy h0
    . rw[PQ.1 hj,hx] at hy;cases hy;exact hno h0
   have hil:=(PE.1 hx).1;by_cases hn:0<x.2
   . have dg:=PD hn;have ew:iz x.1.1 x.1.2.1 x.1.2.2 s.1 s.2.1 s.2.2=a7 x.1 s:=rfl;cases hq:a7 x.1 s
     . simp +decide (maxDischargeDepth:=200) only[go_sem,Nat.reduceBEq,dg,df,ew,hq];exact⟨⟨vis++[i],hag fun _=>hq⟩,⟨by simp +decide (maxDischargeDepth:=200) only[go_sem,Nat.reduceBEq],by simp +decide (maxDischargeDepth:=200) only[go_sem,Nat.reduceBEq],hI2,hK2⟩,fH hil hni⟩
     . simp +decide (maxDischargeDepth:=200) only[go_sem,Nat.reduceBEq,dg,df,ew,hq];refine mo (hkeep Hy hK2) (hT false ⟨(fun h=>by cases h),fun h=>?_⟩);have:=h x.1 (by rw[hc,eT hO (PM hx)];exact hn);rw[hq] at this;cases this
   . have dg:=PC hn;simp +decide (maxDischargeDepth:=200) only[go_sem,Nat.reduceBEq,dg];exact⟨⟨vis++[i],hag fun h=>absurd h hn⟩,⟨by simp +decide (maxDischargeDepth:=200) only[go_sem,Nat.reduceBEq],by simp +decide (maxDischargeDepth:=200) only[go_sem,Nat.reduceBEq],hI2,hK2⟩,fH hil hni⟩
def Ii (us:List V) (H:HH) (T:V->HH->Prop):Prop:=∃a r s tS,us=[aJ a,.x (.pointer (some ⟨r,0,none⟩))]∧H r=some (rowO [.int .i64 s.1,.int .i64 s.2.1,.int .i64 s.2.2] tS)∧T (.x (.bool (a7 a s))) H
abbrev Ij (r:Nat):V:= .x (.func (.func 21) #[] #[.pointer (some ⟨r,0,none⟩)])
def Ik (us:List V) (H:HH) (T:V->HH->Prop):Prop:=∃nl z l r s tS,us=[.sl nl z (l.map aJ) none,Ij r]∧(l≠[]->z=3)∧l.length<=1000000∧H r=some (rowO [.int .i64 s.1,.int .i64 s.2.1,.int .i64 s.2.2] tS)∧∀i:Int,(0<=i↔∃a∈l,a7 a s=true)->T (.x (.int .i64 i)) H
def Il (us:List V) (H:HH) (T:V->HH->Prop):Prop:=∃nl z l r s tS,us=[.sl nl z (l.map aJ) none,Ij r]∧(l≠[]->z=3)∧l.length<=1000000∧H r=some (rowO [.int .i64 s.1,.int .i64 s.2.1,.int .i64 s.2.2] tS)∧T (.x (.bool (l.any fun a=>a7 a s))) H
theorem FU:cV (bU [(22,df)] [] [] (fun _=>false) (fun _=>false)) 21 Ii:=by refine dS (F:={F:=fun _=>none,D:=fun _=>false}) (n:=7) (k:=2) (aP [(22,df)] [] [] _ _ ⟨dH,trivial⟩ trivial trivial) (by kernel_rfl) (fun f C e=>by cases e) (fun t s C e=>by cases e) Try.func21 rfl (fun a w=>Try.call21 a w) Try.ntmps21 (by decide) (by decide) (by kernel_rfl) ?_;rintro us H T ⟨a,r,s,tS,rfl,hr,hT⟩ hdat;clear hdat;refine⟨rfl,?_⟩;have c1:=ak hr;have ew:iz a.1 a.2.1 a.2.2 s.1 s.2.1 s.2.2=a7 a s:=rfl;simp +decide (maxDischargeDepth:=200) only[go_sem,Nat.reduceBEq,aJ,c1,df,ew];exact hT
theorem FV:cV (bU [(22,df)] [] [] (fun _=>false) (fun _=>false)) 32 Ik:=by
 refine dS (F:={F:=fun _=>none,D:=fun _=>false,Y:=ml (so [(21,Ii)])}) (n:=19) (k:=2) (aP [(22,df)] [] [] _ _ ⟨dH,trivial⟩ trivial trivial) (by kernel_rfl) (fun f C e=>by cases e) (fun t s C e=>by cases e) Try.func32 rfl (fun a w=>Try.call32 a w) Try.ntmps32 (by decide) (by decide) (by kernel_rfl) ?_ (hY:=(yG (aP [(22,df)] [] [] _ _ ⟨dH,trivial⟩ trivial trivial) (eO (l:=[(21,Ii)]) ⟨FU,trivial⟩)));rintro us H T ⟨b,z,rs,r,s,tS,rfl,hz,hl,hr,hT⟩ hdat;clear hdat;refine⟨rfl,?_⟩;have l3:(0:Int)<=(rs.length:Int):=by omega
 simp +decide (maxDischargeDepth:=200) only[go_sem,Nat.reduceBEq,eq];refine bP (X:={i:Nat//i<=rs.length∧∀x∈rs.take i,a7 x s=false}) (fun i=>[(0,.sl b z (rs.map aJ) none),(1,Ij r),(7,.x (.int .i64 (rs.length:Int))),(8,.x (.int .i64 ((i.1:Nat):Int)))]) (fun _=>[]) (fun _ H'=>H'=H) (fun i=>rs.length-i.1) ⟨0,PH _,fun x hx=>by simp at hx⟩ (by simp +decide only[go_sem,Nat.reduceBEq,P3]<;>(repeat' first|rfl|constructor)) (by simp +decide only[go_sem,Nat.reduceBEq,P3]<;>(repeat' first|rfl|constructor)) rfl ?_;rintro⟨i,hi,hno⟩ H1 rfl;simp only at hi hno⊢;by_cases hil:i<rs.length
 case neg=>have d1:decide ((i:Int)<(rs.length:Int))=false:=PC (by omega);rw[Qb (by omega)] at hno;simp +decide (maxDischargeDepth:=200) only[go_sem,Nat.reduceBEq,eq,d1];exact hT _ ⟨fun h=>by omega,fun⟨a,ha,h⟩=>by rw[hno a ha] at h;cases h⟩
 obtain rfl:=hz (fun h=>by rw[h] at hil;cases hil);have d1:decide ((i:Int)<(rs.length:Int))=true:=PD (by omega);have d2:(0:Int)<=(i:Int):=by omega
 have d3:(i:Int)<(rs.length:Int):=by omega
 have d4:=bh (i:=i) (by omega);have q1:rs[i]?=some rs[i]:=Io hil;have q2:(rs.map aJ)[i]?=some (.agg [.x (.int .i64 rs[i].1),.x (.int .i64 rs[i].2.1),.x (.int .i64 rs[i].2.2)]):=by rw[PF,q1];rfl
 have qm:rs[i]∈rs:=R8 hil;generalize rs[i]=x at q1 q2 qm;simp +decide (maxDischargeDepth:=200) only[go_sem,Nat.reduceBEq,io,eq,d1,d2,d3,q2];refine⟨x,r,s,tS,rfl,hr,?_⟩;cases e:a7 x s
 . simp +decide (maxDischargeDepth:=200) only[go_sem,Nat.reduceBEq,d4];refine⟨⟨i+1,hil,fun y hy=>?_⟩,⟨?_,?_,rfl⟩,by simp only;omega⟩
   . rw[br q1,PU,PQ] at hy;rcases hy with hy|rfl
     . exact hno y hy
     . exact e
   . simp +decide (maxDischargeDepth:=200) only[go_sem,Nat.reduceBEq]
   . simp +decide (maxDischargeDepth:=200) only[go_sem,Nat.reduceBEq]
 . simp +decide (maxDischargeDepth:=200) only[go_sem,Nat.reduceBEq];exact hT _ ⟨fun _=>⟨x,qm,e⟩,fun _=>by omega⟩
theorem FW:cV (bU [(22,df)] [] [] (fun _=>false) (fun _=>false)) 20 Il:=by
 refine dS (F:={F:=so [(32,Ik)],D:=fun _=>false}) (n:=9) (k:=2) (aP [(22,df)] [] [] _ _ ⟨dH,trivial⟩ trivial trivial) (by kernel_rfl) (eO (l:=[(32,Ik)]) ⟨FV,trivial⟩) (fun t s C e=>by cases e) Try.func20 rfl (fun a w=>Try.call20 a w) Try.ntmps20 (by decide) (by decide) (by kernel_rfl) ?_;rintro us H T ⟨b,z,rs,r,s,tS,rfl,hz,hl,hr,hT⟩ hdat;clear hdat;refine⟨rfl,?_⟩;simp +decide (maxDischargeDepth:=200) only[go_sem,Nat.reduceBEq];refine⟨b,z,rs,r,s,tS,rfl,hz,hl,hr,fun i hi=>?_⟩;simp +decide (maxDischargeDepth:=200) only[go_sem,Nat.reduceBEq];have:(rs.any fun a=>a7 a s)=decide (0<=i):=by rw[RL,Q2,Qa];exact hi.symm
 rw[this] at hT;exact hT
open Go.Sort (PermIn SortedIn)
def pp (l:List aK):Prop:=l.Pairwise fun a b=>ac a b=true
theorem De {d d':Array aK} (hp:PermIn 0 d.size d d') (hs:SortedIn ac 0 d.size d') (hn:d.toList.Nodup):pp d'.toList∧d'.toList.Perm d.toList:=by
 obtain⟨hsz,_,hperm⟩:=hp;have e1:d'.extract 0 d.size=d':=by rw[<-hsz];exact Sj
 rw[e1,Sj] at hperm;refine⟨?_,hperm⟩;have hnd:d'.toList.Nodup:=hperm.nodup_iff.2 hn;rw[pp,Re];intro i j hi hj hij;have hi':i<d'.size:=by simpa using hi
 have hj':j<d'.size:=by simpa using hj
 have h1:=hs i j (PH _) hij (by omega);rw[Rp d' i hi',Rp d' j hj'] at h1;have hne:d'.toList[i]≠d'.toList[j]:=(Re.1 hnd) i j hi hj hij;rw[Rz,Rz] at hne⊢;cases h2:ac d'[i] d'[j] with
 |true=>rfl
 |false=>exact absurd (rY.tri _ _ h2 h1) hne
def OB (ob:Obj) (l:List aK):Prop:=∀(w:World) (q:Nat),w.heap[q]?=some ob->BoxAt (fun _=>some 0) w q (an l.toArray)
def Dq (l:List aK):List Value:=l.flatMap aQ
def Df (us:List V) (H:HH) (T:V->HH->Prop):Prop:=∃b v A TL,us=[.x (.iface 43 v),.x (.func (.func 31) #[] #[.pointer (some ⟨b,0,none⟩)])]∧H b=some (rowO [v] TL)∧RowV H v 3 (Dq A)∧nh v=0∧aB v=A.length∧A.length<=1000000∧A.Nodup∧blkOf v≠some b∧
 (v= .slice none 0 0->T (.x (.tuple #[])) H)∧∀q A' ob,blkOf v=some q->A'.Perm A->pp A'->OB ob A'->T (.x (.tuple #[])) (aw H q (some ob))
theorem Dg (l:List (FuncId×(List V->Option V))) (lp:List (FuncId×(List V->Option (V×List (List V))))) (lm:List (FuncId×(List V->Option (List V×List V)))) (lit any:Nat->Bool):cV (bU l lp lm lit any) 14 Df:=by
 refine⟨fun a w=>Try.call14 a w,fun m w vs us H T hC hdat hr hH hj hg=>?_⟩;obtain⟨b,v,A,TL,rfl,hb,hrow,hoff,hlen,hmax,hnd,hne,h0,h1⟩:=hC;have hvs:vs= #[.iface 43 v,.func (.func 31) #[] #[.pointer (some ⟨b,0,none⟩)]]:=by apply Qe.1;exact f8 (l:=[.iface 43 v,.func (.func 31) #[] #[.pointer (some ⟨b,0,none⟩)]]) hr
 subst hvs;have hH0:∀y,H y≠none->m y=some 0:=fun y hy=>by
  cases e:H y with
  |none=>exact absurd e hy
  |some ob=>exact(hH y ob e).2.1
 rcases hrow with⟨_,rfl⟩|⟨g,off,n,cap,cur,ty,rfl,hg0,hn,hs,hc⟩
 . refine(FR (w:=w) (Bk:=b)).mono ?_;rintro e w' ⟨rfl,os,rfl⟩;have hold:∀k,k<w.heap.size->(Go.Sort.grow w os).heap[k]?=w.heap[k]?:=fun k hk=>Go.Sort.heap_grow_old _ _ hk
   refine⟨_,_,_,H,rfl,.x _,h0 rfl,Step.of_new rfl rfl rfl (by simp[Go.Sort.grow]) hH0 (fun k hk _=>hold k hk),fun g ob e=>?_⟩;have hlt:=al (hH g ob e).1;exact⟨(hold g hlt).trans (hH g ob e).1,by rw[PS (Q7.2 hlt)];exact(hH g ob e).2.1,.inl (by rw[e];simp)⟩
 . have:off=0:=hoff;subst this;obtain rfl:n=A.toArray.size:=by simpa[aB] using hlen
   have hgb:b≠g:=fun e=>hne (by rw[e];rfl)
   have hcur:∃rest,cur.toList=A.toArray.toList.flatMap aQ++rest:=by refine⟨cur.toList.drop (A.toArray.size*3),?_⟩;rw[Rm] at hc;show _=Dq A++_;rw[<-hc,Qv]
   have hblk:=al (hH g _ hg0).1;refine(FQ (hH g _ hg0).1 hcur (hH b _ hb).1 rfl hgb hn (by simpa[MXS3] using hmax) (hH g _ hg0).2.2 hj).mono ?_;rintro e w' ⟨rfl,d',hp,hsd,hbel,m',hbx⟩;obtain⟨hsrt,hperm⟩:=De hp hsd (by simpa using hnd);obtain⟨_,vals,ty8,xs,rest,hh8,hx8,hr8⟩:=hbx;rw[cH] at hr8;have hxs:=f8 hr8;subst hxs;have hob:OB (.cells vals ty8.ty ty8.fz) d'.toList:=fun w q hq=>⟨rfl,vals,ty8,_,rest,hq,hx8,by rw[cH];exact gS _⟩
   refine⟨_,_,_,_,rfl,.x _,h1 g d'.toList _ rfl hperm hsrt hob,Step.of_new hbel.os hbel.tape hbel.output hbel.size hH0 (fun k hk hn=>hbel.block k hk (by intro hm;rw[PQ.1 hm] at hn;exact hn (by rw[hg0];simp))),fun y ob e=>?_⟩
   by_cases ey:y=g
   . subst ey;rw[aa] at e;cases e;exact⟨hh8,by rw[PS (Q7.2 hblk)];exact(hH y _ hg0).2.1,.inl (by rw[hg0];simp)⟩
   . rw[ae _ _ ey] at e;have hlt:=al (hH y ob e).1;exact⟨(hbel.block y hlt (by simpa using ey)).trans (hH y ob e).1,by rw[PS (Q7.2 hlt)];exact(hH y ob e).2.1,.inl (by rw[e];simp)⟩
def Dh (x:Ch):Option aK:=if 0<x.2 then some x.1 else none
def im (L:List Ch) (vis:List Nat):List aK:=vis.filterMap fun i=>(L[i]?).bind Dh
theorem zf {i:Nat} {x:Ch} (h:L[i]?=some x):im L (vis++[i])=im L vis++(if 0<x.2 then [x.1] else []):=by unfold im;rw[R1];congr 1;simp only[Sc,Sk,h,QQ,Dh];split<;>rename_i e<;>split at e<;>simp_all
theorem jH:s∈im L vis↔∃i∈vis,∃x,L[i]?=some x∧0<x.2∧x.1=s:=by
 unfold im;rw[List.mem_filterMap];constructor
 . rintro⟨i,hi,h⟩;obtain⟨x,hx,h⟩:=QG.1 h;unfold Dh at h;split at h
   . rename_i h0;exact⟨i,hi,x,hx,h0,QE h⟩
   . cases h
 . rintro⟨i,hi,x,hx,h0,rfl⟩;exact⟨i,hi,by rw[hx];show Dh x=_;unfold Dh;rw[PO h0]⟩
theorem iX {L:List Ch} (h:dC L):∀{vis:List Nat},vis.Nodup->(im L vis).Nodup
 |[],_=>Q3
 | i::vis,hn=>by
   rw[QF] at hn;have ih:=iX h hn.2;have e:im L (i::vis)=im L [i]++im L vis:=by unfold im;rw[<-R1];rfl
   rw[e];refine QJ.2 ⟨?_,ih,fun a ha b hb q=>?_⟩
   . unfold im;simp only[Sc,Sk];split<;>simp
   . obtain⟨j,hj,x,hx,_,rfl⟩:=jH.1 ha;obtain⟨j',hj',y,hy,_,rfl⟩:=jH.1 hb;rw[PQ.1 hj] at hx;exact hn.1 (wl h hx hy q▸hj')
theorem sg (h:dC L) {vis:List Nat} (hv:vis.Nodup):(im L vis).length<=L.length:=by
 have:=fE (iX h hv) (l':=L.map (·.1)) fun s hs=>by obtain⟨i,_,x,hx,_,rfl⟩:=jH.1 hs;exact Qi.2 ⟨x,PM hx,rfl⟩
 rwa [eq] at this
theorem FX (A B:List aK):Dq (A++B)=Dq A++Dq B:=List.flatMap_append ..
theorem FY (A:List aK):∀u∈Dq A,u.oneCell'=true:=fun u hu=>by obtain⟨x,_,hx⟩:=List.mem_flatMap.1 hu;simp only[aQ,PY,R9,or_false] at hx;rcases hx with rfl|rfl|rfl<;>rfl
def AbJ (H Hx:HH) (b r:Nat) (A:List aK):Prop:=∃v,Hx b=some (rowO [v] 43)∧RowV Hx v 3 (Dq A)∧nh v=0∧aB v=A.length∧blkOf v≠some b∧blkOf v≠some r∧(∀q,blkOf v=some q->H q=none)∧∀y,H y≠none->Hx y=H y
variable {b:Nat} {A:List aK}
theorem AbJ.iter (h:AbJ H Hx b r A) (hr:H r=none) (hbr:b≠r) (ob:Obj):AbJ H (aw Hx r (some ob)) b r A:=by obtain⟨v,h1,h2,h3,h4,h5,h6,h7,h8⟩:=h;exact⟨v,(ae _ _ hbr).trans h1,h2.to fun g hg=>ae _ _ fun e=>h6 (e▸hg),h3,h4,h5,h6,h7,fun y hy=>(ae _ _ fun e=>hy (by rw[e];exact hr)).trans (h8 y hy)⟩
theorem FZ {v:Value} {tok:Option Nat} (hb:Hx b=some (rowO [v] 43)) (hrow:RowV Hx v 3 (Dq A)) (ho:nh v=0) (hl:aB v=A.length) (hvb:blkOf v≠some b) (hvr:blkOf v≠some r) (hnew:∀q,blkOf v=some q->H q=none) (hK:∀y,H y≠none->Hx y=H y) (hI:ItO Hx r g vis) (hg:∀y,g=some y->H y≠none) (hbH:H b=none) (hbr:b≠r) (hA:A.length<=100000)
 (hT:∀v' Hy,v'.oneCell'=true->Hy b=some (rowO [v] 43)->AbJ H (aw Hy b (some (rowO [v'] 43))) b r (A++[s])->ItO (aw Hy b (some (rowO [v'] 43))) r g vis->T (.x v') Hy):Fh Try.prog 43 Hx v (.sl false 3 [.agg [.x (.int .i64 s.1),.x (.int .i64 s.2.1),.x (.int .i64 s.2.2)]] tok) T:=by
 refine⟨3,1,Dq A,Dq [s],by kernel_rfl,hrow,⟨.inl rfl,rfl,rfl⟩,FY _,by rw[hl];omega,fun h=>absurd h (by decide),fun _ v' q ob hq hlq hqn hoq hrq=>?_⟩;have hqb:q≠b:=fun e=>by
  subst e;rcases hqn with h|h
  . exact hvb h
  . rw[hb] at h;cases h
 have hqr:q≠r:=fun e=>by
  subst e;rcases hqn with h|h
  . exact hvr h
  . cases g with
    |none=>obtain⟨⟨_,_,_,h2⟩,_⟩:=hI;rw[h] at h2;cases h2
    |some g=>obtain⟨_,_,_,h2,_⟩:=(show IterH Hx q g vis from hI);rw[h] at h2;cases h2
 have hqH:H q=none:=by
  rcases hqn with h|h
  . exact hnew q h
  . cases e:H q with
    |none=>rfl
    |some ob=>rw[hK q (by rw[e];simp),e] at h;cases h
 refine hT v' _ hrq.one ((ae _ _ (QT hqb)).trans hb) ⟨v',aa _ _ _,?_,hoq ho,by rw[hlq,hl,PP];rfl,(fun e=>hqb (by rw[hq] at e;exact QE e)),(fun e=>hqr (by rw[hq] at e;exact QE e)),(fun q' e=>by rw[hq] at e;cases e;exact hqH),fun y hy=>?_⟩ (hI.to ?_ fun y hy=>?_)
 . rw[FX];exact hrq.to fun g' hg'=>ae _ _ fun e=>by rw[hq] at hg';cases hg';exact hqb e
 . exact(ae _ _ fun e=>hy (by rw[e];exact hbH)).trans ((ae _ _ fun e=>hy (by rw[e];exact hqH)).trans (hK y hy))
 . exact(ae _ _ (QT hbr)).trans (ae _ _ (QT hqr))
 . exact(ae _ _ fun e=>hg y hy (by rw[e];exact hbH)).trans (ae _ _ fun e=>hg y hy (by rw[e];exact hqH))
theorem F0 {q n cap:Nat} {ob:Obj} {l:List aK} (hob:OB ob l) (hq:Hx q=some ob) (hqH:H q=none) (hn:n=l.length) (hc:n<=cap) (hk:∀y ob,H y=some ob->Hx y=some ob) (hT:T (.sl false 3 (l.map aJ) none) H):uA (.x (.slice (some ⟨q,0,none⟩) n cap)) Hx T:=by
 refine⟨fun y=>(H y).isNone,.sl false 3 (l.map aJ) none,fun m w v hw hm hv=>?_,?_⟩
 . cases hv;have hb:=hob w q (hw q ob hq);have hs:l.toArray.size=l.length:=by simp
   have:=Db (cap:=cap) hb (by rw[hs,<-hn];exact hc) m (hm q (by simp[hqH]) (by rw[hq];simp));rw[hs,<-hn] at this;exact this
 . have e:(fun g=>if (H g).isNone=true then none else Hx g)=H:=by
    funext g;cases hg:H g with
    |none=>simp
    |some ob=>simp[hk g ob hg]
   rw[e];exact hT
theorem Di (hk:∀y ob,H y=some ob->Hx y=some ob) (hT:T (.sl true 3 ([]:List V) none) H):uA (.x (.slice none 0 0)) Hx T:=by
 refine⟨fun y=>(H y).isNone,.sl true 3 [] none,fun m w v _ _ hv=>by cases hv;exact .nil _ _,?_⟩;have e:(fun g=>if (H g).isNone=true then none else Hx g)=H:=by
  funext g;cases hg:H g with
  |none=>simp
  |some ob=>simp[hk g ob hg]
 rw[e];exact hT
def Im (us:List V) (H:HH) (T:V->HH->Prop):Prop:=∃p c k F,us=[.x (ar p)]∧DFr H p c k F∧∀S nl,pp S->(∀s,s∈S↔0<c s)->S.length<=k->(nl=true->S=[])->T (.sl nl 3 (S.map aJ) none) H
theorem F3:cV (bU [] [] [] (fun _=>false) (fun _=>false)) 19 Im:=by
 refine jq (F:={F:=so [(14,Df)],D:=fun _=>false,Y:=iZ (rH Try.prog) (iZ (fU (fun d=>d==12) Try.prog) (iZ (iP fun d=>d==13) (iZ iN (iZ (uE Try.prog fun d=>d==3) (iZ (uD Try.prog fun d=>d==23) mj)))))}) (n:=29) (k:=1) (aP [] [] [] _ _ trivial trivial trivial) (by kernel_rfl) (eO (l:=[(14,Df)]) ⟨Dg _ _ _ _ _,trivial⟩) (fun t s C e=>by cases e) Try.func19 rfl (fun a w=>Try.call19 a w) Try.ntmps19 (by decide) (by decide) (by kernel_rfl) ?_ (hY:=(bF k6 (bF (iQ (aP [] [] [] _ _ trivial trivial trivial) _) (bF (j9 (aP [] [] [] _ _ trivial trivial trivial) _) (bF j8 (bF (o8 (aP [] [] [] _ _ trivial trivial trivial) _) (bF (o7 (aP [] [] [] _ _ trivial trivial trivial) _) mn)))))));rintro us H T ⟨p,c,k,F,rfl,⟨L,g,hp,hM,hne,hO,hz,hc,⟨hk,hk1⟩,rfl⟩,hT⟩ hdat;clear hdat;refine⟨rfl,?_⟩;have fF:m7 Try.prog 40 0=some 0:=by kernel_rfl
 have nT:rG Try.prog 37 (.x (.pointer none))=true:=by kernel_rfl
 have zX:rz Try.prog 43=some [.slice none 0 0]:=by kernel_rfl
 have nI:yk Try.prog 43=true:=by kernel_rfl
 have sL:bg Try.prog 43=some 1:=by kernel_rfl
 simp +decide (maxDischargeDepth:=200) only[go_sem,Nat.reduceBEq,zX,fF,nT,iO];intro b hbn;have hpb:p≠b:=fun e=>by rw[<-e,hp] at hbn;cases hbn
 have hp2:(aw H b (some (rowO [.slice none 0 0] 43))) p=some (rowO [.map g] 40):=(ae _ _ hpb).trans hp;have c1:=ak hp2;have hgH:∀y,g=some y->H y≠none:=fun y hy=>by subst hy;obtain⟨_,_,e,_⟩:MapH H y (cX L) (dE L):=hM;rw[e];simp
 have hMx:∀Hx:HH,(∀y,H y≠none->Hx y=H y)->MapO Hx g L:=fun Hx h=>hM.to fun y hy=>h y (hgH y hy)
 have hK2:∀y,H y≠none->(aw H b (some (rowO [.slice none 0 0] 43))) y=H y:=fun y hy=>ae _ _ fun e=>hy (by rw[e];exact hbn)
 simp +decide (maxDischargeDepth:=200) only[go_sem,Nat.reduceBEq,fF,nT,iO,c1];refine⟨H0,mG (hMx _ hK2),fun r ob hr hI0=>?_⟩;have hbr:b≠r:=fun e=>by rw[<-e,PO rfl] at hr;cases hr
 have hrH:H r=none:=by rwa [PS (QT hbr)] at hr
 refine bP (X:={vis:List Nat//vis.Nodup}) (fun _=>[(3,.x (ar b)),(12,.x (ar r))]) (fun _=>[]) (fun vis Hx=>AbJ H Hx b r (im L vis.1)∧ItO Hx r g vis.1) (fun vis=>((List.range L.length).filter fun j=>decide (j∉vis.1)).length) ⟨[],Q3⟩ (by simp +decide only[go_sem,Nat.reduceBEq,P3]<;>(repeat' first|rfl|constructor)) (by simp +decide only[go_sem,Nat.reduceBEq,P3]<;>(repeat' first|rfl|constructor)) ⟨⟨.slice none 0 0,(ae _ _ hbr).trans (aa _ _ _),.inl ⟨rfl,rfl⟩,rfl,rfl,by simp[blkOf],by simp[blkOf],(fun q e=>by cases e),fun y hy=>(ae _ _ fun e=>hy (by rw[e];exact hrH)).trans (hK2 y hy)⟩,hI0⟩ ?_;rintro⟨vis,hvn⟩ Hx ⟨hJ,hI⟩;simp only at hJ hI⊢;have hKx:∀y,H y≠none->Hx y=H y:=by obtain⟨_,_,_,_,_,_,_,_,h⟩:=hJ;exact h
 simp +decide (maxDischargeDepth:=200) only[go_sem,Nat.reduceBEq];refine rS (hMx Hx hKx) hI (fun hall=>?_) (fun i x ob2 hx hni hI2=>?_)
 . obtain⟨v,hb1,hrow,ho,hl,hvb,hvr,hnew,_⟩:=hJ;have c2:=ak hb1;have hx1:=pd hrow.one;simp +decide (maxDischargeDepth:=200) only[go_sem,Nat.reduceBEq,c2,nI];have hmem:∀s,s∈im L vis↔0<c s:=fun s=>by
    rw[jH,hc];constructor
    . rintro⟨i,_,x,hx,h0,rfl⟩;rw[eT hO (PM hx)];exact h0
    . intro h0;obtain⟨x,hx,rfl⟩:=ka (L:=L) (s:=s) (by omega);rw[eT hO hx] at h0;obtain⟨i,hi⟩:=Q8.1 hx;exact⟨i,hall i (PE.1 hi).1,x,hi,h0,rfl⟩
   have hcl:=sg hO hvn;have hkeep:∀y ob,H y=some ob->Hx y=some ob:=fun y ob e=>(hKx y (by rw[e];simp)).trans e
   refine⟨b,v,im L vis,43,rfl,hb1,hrow,ho,hl,by omega,iX hO hvn,hvb,fun hv=>?_,fun q A' ob hq hperm hsrt hob=>?_⟩
   . subst hv;have hA:im L vis=[]:=Qu.1 hl.symm;simp +decide (maxDischargeDepth:=200) only[go_sem,Nat.reduceBEq,c2];refine Di hkeep (hT [] true List.Pairwise.nil (fun s=>by rw[<-hA];exact hmem s) (PH _) (fun _=>rfl))
   . have hqb:b≠q:=fun e=>hvb (by rw[e];exact hq)
     have hb3:(aw Hx q (some ob)) b=some (rowO [v] 43):=(ae _ _ hqb).trans hb1;have c3:=ak hb3;simp +decide (maxDischargeDepth:=200) only[go_sem,Nat.reduceBEq,c3];rcases hrow with⟨_,rfl⟩|⟨q',off,n,cap,cur,ty,rfl,hg0,hn,_⟩
     . cases hq
     . have e0:off=0:=ho;subst e0;cases hq;have hA':n=A'.length:=by rw[hperm.length_eq];exact hl
       exact F0 hob (aa _ _ _) (hnew q' rfl) hA' hn (fun y ob' e=>(ae _ _ fun e'=>by rw[e',hnew q' rfl] at e;cases e).trans (hkeep y ob' e)) (hT A' false hsrt (fun s=>hperm.mem_iff.trans (hmem s)) (by rw[hperm.length_eq];omega) (fun h=>by cases h))
 . have hJ2:=hJ.iter hrH hbr ob2;have hil:=(PE.1 hx).1;have hnd2:(vis++[i]).Nodup:=QJ.2 ⟨hvn,by simp,fun a ha b hb e=>by rw[PQ.1 hb] at e;exact hni (e▸ha)⟩;have hcs:=zf (L:=L) (vis:=vis) hx;generalize aw Hx r (some ob2)=Hy at hJ2 hI2;have hKy:∀y,H y≠none->Hy y=H y:=by obtain⟨_,_,_,_,_,_,_,_,h⟩:=hJ2;exact h
   simp +decide (maxDischargeDepth:=200) only[go_sem,Nat.reduceBEq];refine oe (hMx Hy hKy) hI2 hx ?_;by_cases hn:0<x.2
   . have dg:=PD hn;rw[PO hn] at hcs;obtain⟨v,hb1,hrow,ho,hl,hvb,hvr,hnew,_⟩:=hJ2;have c2:=ak hb1;simp +decide (maxDischargeDepth:=200) only[go_sem,Nat.reduceBEq,dg,c2];refine FZ (s:=x.1) hb1 hrow ho hl hvb hvr hnew hKy hI2 hgH hbn hbr (by have:=sg hO hvn;omega) fun v' Hz h1 h2 h3 h4=>?_
     have c4:=ak h2;have hx4:=pd h1;have sp:cF [v] 0 [v']=[v']:=rfl;simp +decide (maxDischargeDepth:=200) only[go_sem,Nat.reduceBEq,c4,hx4,sL,sp];rw[<-hcs] at h3;exact⟨⟨vis++[i],hnd2⟩,⟨by simp +decide (maxDischargeDepth:=200) only[go_sem,Nat.reduceBEq],by simp +decide (maxDischargeDepth:=200) only[go_sem,Nat.reduceBEq],h3,h4⟩,fH hil hni⟩
   . have dg:=PC hn;rw[PS hn,QS] at hcs;simp +decide (maxDischargeDepth:=200) only[go_sem,Nat.reduceBEq,dg];rw[<-hcs] at hJ2;exact⟨⟨vis++[i],hnd2⟩,⟨by simp +decide (maxDischargeDepth:=200) only[go_sem,Nat.reduceBEq],by simp +decide (maxDischargeDepth:=200) only[go_sem,Nat.reduceBEq],hJ2,hI2⟩,fH hil hni⟩
def wx (acc:List aK) (s:aK):List aK:=if (acc.any fun a=>a7 a s)=true then acc else acc++[s]
def kR (S:List aK):List aK:=S.foldl wx []
variable {S:List aK}
theorem sh {i:Nat} (h:S[i]?=some s):kR (S.take (i+1))=wx (kR (S.take i)) s:=by rw[br h,kR,List.foldl_append];rfl
theorem ve {S:List aK} (hS:pp S):∀i,i<=S.length->pp (kR (S.take i))∧(∀s,s∈kR (S.take i)↔s∈S.take i∧∀t∈S.take i,t≠s->a7 t s=false)∧(∀t∈S.take i,∃a∈kR (S.take i),a7 a t=true)∧(kR (S.take i)).length<=i
 |0,_=>by simp[kR,pp]
 | i + 1,hi=>by
   obtain⟨h1,h2,h3,h4⟩:=ve hS i (by omega);have hx:S[i]?=some S[i]:=Io (by omega);generalize S[i]=x at hx;have hlt:∀t∈S.take i,ac t x=true:=fun t ht=>by
    obtain⟨j,hj⟩:=Q8.1 ht;rw[P9] at hj;split at hj
    case isFalse=>cases hj
    rename_i hji;obtain⟨hj1,rfl⟩:=PE.1 hj;obtain⟨hi1,rfl⟩:=PE.1 hx;exact Re.1 hS j i hj1 hi1 hji
   have hwx:∀t∈S.take i,a7 x t=false:=fun t ht=>by
    have hl:=hlt t ht;cases e:a7 x t with
    |false=>rfl
    |true=>simp only[ac,a7,fD,jS] at hl e;omega
   have hnx:x∉S.take i:=fun h=>by have:=hlt x h;rw[cP] at this;cases this
   rw[sh hx,br hx];unfold wx;by_cases ha:((kR (S.take i)).any fun a=>a7 a x)=true
   . rw [PO ha];obtain⟨a,ha1,ha2⟩:=Q2.1 ha;refine⟨h1,fun s=>?_,fun t ht=>?_,by omega⟩
     . rw[h2];constructor
       . rintro⟨hs,hn⟩;refine⟨Qp _ hs,fun t ht hne=>?_⟩;rcases PU.1 ht with ht|ht
         . exact hn t ht hne
         . rw[PQ.1 ht];exact hwx s hs
       . rintro⟨hs,hn⟩;rcases PU.1 hs with hs|hs
         . exact⟨hs,fun t ht hne=>hn t (Qp _ ht) hne⟩
         . rw[PQ.1 hs] at hn;have ham:=((h2 a).1 ha1).1;have:=hn a (Qp _ ham) (fun e=>hnx (e▸ham));rw[ha2] at this;cases this
     . rcases PU.1 ht with ht|ht
       . exact h3 t ht
       . rw[PQ.1 ht];exact⟨a,ha1,ha2⟩
   . rw [PS ha];have hno:∀t∈S.take i,a7 t x=false:=fun t ht=>by
      obtain⟨a,ha1,ha2⟩:=h3 t ht;cases e:a7 t x with
      |false=>rfl
      |true=>exact absurd (Q2.2 ⟨a,ha1,(show a7 a x=true from Cl ha2 e)⟩) ha
     refine⟨?_,fun s=>?_,fun t ht=>?_,by rw[PP];simp only[List.length_singleton];omega⟩
     . rw[pp,Ry];exact⟨h1,List.pairwise_singleton _ _,fun a ha b hb=>by rw[PQ.1 hb];exact hlt a ((h2 a).1 ha).1⟩
     . rw [PU,PQ,h2];constructor
       . rintro(⟨hs,hn⟩|rfl)
         . refine⟨Qp _ hs,fun t ht hne=>?_⟩;rcases PU.1 ht with ht|ht
           . exact hn t ht hne
           . rw[PQ.1 ht];exact hwx s hs
         . refine⟨by simp,fun t ht hne=>?_⟩;rcases PU.1 ht with ht|ht
           . exact hno t ht
           . exact absurd (PQ.1 ht) hne
       . rintro⟨hs,hn⟩;rcases PU.1 hs with hs|hs
         . exact .inl ⟨hs,fun t ht hne=>hn t (Qp _ ht) hne⟩
         . exact .inr (PQ.1 hs)
     . rcases PU.1 ht with ht|ht
       . obtain⟨a,ha1,ha2⟩:=h3 t ht;exact⟨a,Qp _ ha1,ha2⟩
       . rw[PQ.1 ht];exact⟨x,by simp,uI x⟩
theorem In {c:Cn} (hS:pp S) (hc:∀s,s∈S↔0<c s):LeastIs c (kR S)∧(kR S).length<=S.length:=by obtain⟨h1,h2,_,h4⟩:=ve hS S.length (PB _);rw[QL] at h1 h2 h4;refine⟨⟨h1,fun s=>(h2 s).trans ?_⟩,h4⟩;rw[hc];exact Sw fun _=>⟨fun h t hne h0=>h t ((hc t).2 h0) hne,fun h t ht hne=>h t hne ((hc t).1 ht)⟩
theorem vf:cV (bU [] [] [] (fun _=>false) (fun _=>false)) 11 (Cp DFr):=by
 refine jq (F:={F:=so [(19,Im),(20,Il)],D:=fun _=>false,Y:=iZ (uE Try.prog fun d=>d==5) mj}) (n:=23) (k:=1) (aP [] [] [] _ _ trivial trivial trivial) (by kernel_rfl) (eO (l:=[(19,Im),(20,Il)]) ⟨F3,FW,trivial⟩) (fun t s C e=>by cases e) Try.func11 rfl (fun a w=>Try.call11 a w) Try.ntmps11 (by decide) (by decide) (by kernel_rfl) ?_ (hY:=(bF (o8 (aP [] [] [] _ _ trivial trivial trivial) _) mn));rintro us H T ⟨p,c,k,F,rfl,hfr,hk,hT⟩ hdat;clear hdat;refine⟨rfl,?_⟩;have zX:rz Try.prog 32=some [.int .i64 0,.int .i64 0,.int .i64 0]:=by kernel_rfl
 have sS:bg Try.prog 32=some 3:=by kernel_rfl
 simp +decide (maxDischargeDepth:=200) only[go_sem,Nat.reduceBEq];refine⟨p,c,k,F,rfl,hfr,fun S nl hS hmS hlS hnl=>?_⟩;obtain⟨hLe,hLen⟩:=In hS hmS;simp +decide (maxDischargeDepth:=200) only[go_sem,Nat.reduceBEq,eq];refine jX 3 3 20 (by simp only[go_sem];rfl) ?_;refine bP (X:={i:Nat//i<=S.length}) (fun i=>[(3,.sl ((kR (S.take i.1)).map aJ).isEmpty 3 ((kR (S.take i.1)).map aJ) (some 20)),(7,.sl nl 3 (S.map aJ) none),(8,.x (.int .i64 (S.length:Int))),(9,.x (.int .i64 ((i.1:Nat):Int)))]) (fun _=>[]) (fun _ Hx=>∀y,H y≠none->Hx y=H y) (fun i=>S.length-i.1) ⟨0,PH _⟩ (by simp +decide only[go_sem,Nat.reduceBEq,kR,RI,List.foldl_nil,Sx,P3]<;>(repeat' first|rfl|constructor)) (by simp +decide only[go_sem,Nat.reduceBEq,P3]<;>(repeat' first|rfl|constructor)) (fun _ _=>rfl) ?_;rintro⟨i,hi⟩ Hx hKx;simp only at hi⊢;by_cases hil:i<S.length
 case neg=>
  obtain rfl:i=S.length:=by omega
  have d0:decide ((S.length:Int)<(S.length:Int))=false:=PC (by omega);have e:=hT (kR S) ((kR S).map aJ).isEmpty 3 hLe (fun h=>by simpa using h) (fun _=>rfl) (tl hLen hlS);rw[QL];simp +decide (maxDischargeDepth:=200) only[go_sem,Nat.reduceBEq,d0];exact mo (fun y ob e=>(hKx y (by rw[e];simp)).trans e) e
 have d0:decide ((i:Int)<(S.length:Int))=true:=PD (by omega);have d2:(0:Int)<=(i:Int):=by omega
 have cu:=bh (i:=i) (by omega :i<9223372036854775807);have q1:S[i]?=some S[i]:=Io hil;have q2:(S.map aJ)[i]?=some (.agg [.x (.int .i64 S[i].1),.x (.int .i64 S[i].2.1),.x (.int .i64 S[i].2.2)]):=by rw[PF,q1];rfl
 generalize S[i]=x at q1 q2;have hsucc:=sh q1;have hxs:jV (.agg [.x (.int .i64 x.1),.x (.int .i64 x.2.1),.x (.int .i64 x.2.2)])=some [.int .i64 x.1,.int .i64 x.2.1,.int .i64 x.2.2]:=rfl;simp +decide (maxDischargeDepth:=200) only[go_sem,Nat.reduceBEq,d0,d2,io,q2,zX];intro q hq;have cq:au (aw Hx q (some (rowO [.int .i64 0,.int .i64 0,.int .i64 0] 32))) q=some ([.int .i64 0,.int .i64 0,.int .i64 0],32):=ak (aa _ _ _);have sp:cF [Value.int .i64 0,Value.int .i64 0,Value.int .i64 0] 0 [Value.int .i64 x.1,Value.int .i64 x.2.1,Value.int .i64 x.2.2]=[.int .i64 x.1,.int .i64 x.2.1,.int .i64 x.2.2]:=rfl;simp +decide (maxDischargeDepth:=200) only[go_sem,Nat.reduceBEq,cq,hxs,sS,sp];have hqH:H q=none:=by
  cases e:H q with
  |none=>rfl
  |some ob=>rw[hKx q (by rw[e];simp),e] at hq;cases hq
 have hHq:(aw (aw Hx q (some (rowO [.int .i64 0,.int .i64 0,.int .i64 0] 32))) q (some (rowO [.int .i64 x.1,.int .i64 x.2.1,.int .i64 x.2.2] 32))) q=some (rowO [.int .i64 x.1,.int .i64 x.2.1,.int .i64 x.2.2] 32):=aa _ _ _;have hKy:∀y,H y≠none->(aw (aw Hx q (some (rowO [.int .i64 0,.int .i64 0,.int .i64 0] 32))) q (some (rowO [.int .i64 x.1,.int .i64 x.2.1,.int .i64 x.2.2] 32))) y=H y:=fun y hy=>by
  have hyq:y≠q:=fun e=>hy (by rw[e];exact hqH)
  exact(ae _ _ hyq).trans ((ae _ _ hyq).trans (hKx y hy))
 generalize (aw (aw Hx q (some (rowO [.int .i64 0,.int .i64 0,.int .i64 0] 32))) q (some (rowO [.int .i64 x.1,.int .i64 x.2.1,.int .i64 x.2.2] 32)))=Hy at hHq hKy⊢;have hli:=(ve hS i (by omega)).2.2.2;refine⟨((kR (S.take i)).map aJ).isEmpty,3,kR (S.take i),q,x,32,rfl,fun _=>rfl,by omega,hHq,?_⟩;rw[wx] at hsucc;have c5:=ak hHq;cases ha:((kR (S.take i)).any fun a=>a7 a x)
 . rw[ha,PS (by simp)] at hsucc;have g1:∀st d tok nl t',fq (bU [] [] [] (fun _=>false) (fun _=>false)) st (some d) 32 (.sl ((kR (S.take i)).map aJ).isEmpty 3 ((kR (S.take i)).map aJ) (some tok)) (.sl nl 3 [.agg [.x (.int .i64 x.1),.x (.int .i64 x.2.1),.x (.int .i64 x.2.2)]] t')=some ⟨aw (strip tok (strip d st.t)) d (.sl false 3 ((kR (S.take i)).map aJ++[.agg [.x (.int .i64 x.1),.x (.int .i64 x.2.1),.x (.int .i64 x.2.2)]]) (some d)),az (bU [] [] [] (fun _=>false) (fun _=>false)) tok (az (bU [] [] [] (fun _=>false) (fun _=>false)) d st.b)⟩:=fun st d tok nl t'=>gZ (E:=(bU [] [] [] (fun _=>false) (fun _=>false))) (el:=32) (n:=3) IS IT IU (by decide) rfl (es:=(kR (S.take i)).map aJ) (v:= .agg [.x (.int .i64 x.1),.x (.int .i64 x.2.1),.x (.int .i64 x.2.2)]) rfl (by rw[eq];omega) (by rw[eq];omega) st d tok nl t'
   have hs2:(kR (S.take i)).map aJ++[.agg [.x (.int .i64 x.1),.x (.int .i64 x.2.1),.x (.int .i64 x.2.2)]]=(kR (S.take (i+1))).map aJ:=by rw[hsucc,Qj];rfl
   have hs3:((kR (S.take (i+1))).map aJ).isEmpty=false:=by rw[<-hs2];exact eN _ _
   simp +decide (maxDischargeDepth:=200) only[go_sem,Nat.reduceBEq,c5,cu,g1,hs2];refine⟨⟨i+1,hil⟩,⟨?_,?_,hKy⟩,by simp only;omega⟩
   . simp +decide (maxDischargeDepth:=200) only[go_sem,Nat.reduceBEq,hs3]
   . simp +decide (maxDischargeDepth:=200) only[go_sem,Nat.reduceBEq]
 . rw[ha,PO rfl] at hsucc;simp +decide (maxDischargeDepth:=200) only[go_sem,Nat.reduceBEq,cu];refine⟨⟨i+1,hil⟩,⟨?_,?_,hKy⟩,by simp only;omega⟩
   . simp +decide (maxDischargeDepth:=200) only[go_sem,Nat.reduceBEq,hsucc]
   . simp +decide (maxDischargeDepth:=200) only[go_sem,Nat.reduceBEq]
end Go.Proofs.Ytldnpcolhdnkdaa
