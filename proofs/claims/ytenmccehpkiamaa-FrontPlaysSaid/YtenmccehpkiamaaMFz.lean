/- Chapter 16's laws: alive; what an Add leaves of other fronts. -/
import Derived.Test.YtenmccehpkiamaaMFr
import Derived.Test.YtenmccehpkiamaaMFa
import Derived.Test.YtenmccehpkiamaaMFx
namespace Go.Proofs.Ytenmccehpkiamaa
set_option linter.unusedSimpArgs false
set_option maxHeartbeats 64000000
set_option maxRecDepth 100000
open Go Go.RowKit
attribute [go_sem] Try.results3 Try.results5
def aO:List (FuncId×(List V->HH->Tr)):=[(9,mZ DFr),(6,Ce DFr),(11,jy DFr),(13,mY DFr),(10,mZ RFr),(7,Ce RFr),(12,jy RFr),(14,mY RFr)]
theorem v8 (s:aJ):LeastIs (dV (fun _=>0) s 1) [s]:=by
 refine⟨List.pairwise_singleton _ _,fun t=>?_⟩;rw[LX];unfold dV;constructor
 . rintro rfl;refine⟨by rw[L0 rfl];show(0:Int)<0+1;decide,fun u hu h=>?_⟩;rw[L1 hu] at h;exact absurd h (Int.lt_irrefl 0)
 . rintro⟨h,_⟩;by_cases e:t=s
   . exact e
   . rw[L1 e] at h;exact absurd h (Int.lt_irrefl 0)
def Disj (A B:List Nat):Prop:=∀y∈A,y∉B
theorem Disj.symm {A B:List Nat} (h:Disj A B):Disj B A:=fun y hb ha=>h y ha hb
theorem cW {Fr2:FrT} {t:TypeId} {z:List Value} (ok2:FrOK Fr2 t z) {H H':HH} {p2 k2:Nat} {c2:Cn} {F F' F2:List Nat} (h2:Fr2 H p2 c2 k2 F2) (hd:Disj F2 F) (hf:∀y,y∉F->H y≠none->H' y=H y) (hn:∀y∈F',y∈F∨H y=none):Fr2 H' p2 c2 k2 F2∧Disj F2 F':=
 ⟨ok2.keep h2 (fun y hy=>hf y (hd y hy) (ok2.on h2 y hy)),fun y hy hy'=>(hn y hy').elim (hd y hy) (fun e=>ok2.on h2 y hy e)⟩
def cM:List V->Option V
 |[]=>some (.x (.bool true))
 |_=>none
theorem wc:cE (bO [] [] [] (fun _=>false) (fun _=>false)) 5 (fun us _ T=>us=[]∧∀H',T (.x (.bool true)) H'):=by
 refine cP (F:={F:=vD aO,D:=fun d=>d==5}) (n:=40) (k:=0) (aZ [] [] [] _ _ trivial trivial trivial) (by kernel_rfl) (fK (l:=aO) ⟨gP,kN,fT,gN,gJ,kG,fN,gH,trivial⟩) (fun t s C e=>by cases e) Try.func5 rfl (fun a w=>Try.call5 a w) Try.ntmps5 (by decide) (by decide) (by kernel_rfl) ?_;rintro us H T ⟨rfl,hT⟩ hdat;clear hdat;refine⟨rfl,?_⟩;simp +decide (maxDischargeDepth:=200) only[go_sem,Nat.reduceBEq,aO];intro g hg;simp +decide (maxDischargeDepth:=200) only[go_sem,Nat.reduceBEq,aO];have z0:=DFr.ok.zero (aa H g (some (rowO [.map none] 29)));refine⟨g,_,0,_,rfl,z0,by decide,fun l nl z hl hnl hz hlen=>?_⟩;obtain rfl:l=[]:=MD.1 (by omega);simp +decide (maxDischargeDepth:=200) only[go_sem,Nat.reduceBEq,aO,Ol,Mc];refine⟨g,(2,0,0),1,_,0,_,rfl,z0,by decide,ii.big (by decide),⟨by decide,by decide⟩,fun H1 F1 h1 hf1 hn1=>?_⟩;simp +decide (maxDischargeDepth:=200) only[go_sem,Nat.reduceBEq,aO];refine⟨g,_,1,_,rfl,h1,by decide,fun l nl z hl hnl hz hlen=>?_⟩;obtain rfl:=hl.uniq (v8 (2,0,0));obtain rfl:nl=false:=by cases nl with|false=>rfl|true=>cases hnl rfl
 obtain rfl:z=3:=hz (by simp);have q1:([(2,0,0)]:List aJ).map ay=[.agg [.x (.int .i64 2),.x (.int .i64 0),.x (.int .i64 0)]]:=rfl;have e1:dV (fun _=>0) (2,0,0) 1 (2,0,0)=1:=by decide
 simp +decide (maxDischargeDepth:=200) only[go_sem,Nat.reduceBEq,aO,q1,Int.toNat_zero,M0,Mu,show((1:Nat):Int)=1 from rfl];refine⟨g,(2,0,0),_,1,_,rfl,h1,?_⟩;rw[e1];simp +decide (maxDischargeDepth:=200) only[go_sem,Nat.reduceBEq,aO];refine⟨g,(3,0,0),_,1,_,rfl,h1,fun b hb=>?_⟩;obtain rfl:b=false:=by
  cases b with
  |false=>rfl
  |true=>have:=hb.1 rfl (2,0,0) (by rw[e1];decide);exact absurd this (by decide)
 simp +decide (maxDischargeDepth:=200) only[go_sem,Nat.reduceBEq,aO];exact hT _
theorem jo:gD 5 cM:=by
 refine ku wc ?_;intro us r hF;unfold cM at hF;split at hF
 case h_2=>cases hF
 cases hF;exact⟨rfl,fun _=>rfl⟩
def bB (x:Ch):V:= .agg [.x (.int .i64 x.1.1),.x (.int .i64 x.1.2.1),.x (.int .i64 x.1.2.2),.x (.int .i64 x.2)]
theorem Ac {x y:Ch} (h:bB x=bB y):x=y:=by obtain⟨⟨a,b,c⟩,n⟩:=x;obtain⟨⟨a',b',c'⟩,n'⟩:=y;simp only[bB,V.agg.injEq,Nk,V.x.injEq,Value.int.injEq,On,Oc] at h;obtain⟨rfl,rfl,rfl,rfl⟩:=h;rfl
abbrev AR:=(Bool×Nat×List Ch)×aJ
def su (q:AR):List V:=[.sl q.1.1 q.1.2.1 (q.1.2.2.map bB) none,ay q.2]
theorem pH (p q:AR) (e:su p=su q):p=q:=by
 obtain⟨⟨a,b,c⟩,s⟩:=p;obtain⟨⟨a',b',c'⟩,s'⟩:=q;injection e with e1 e2
 injection e2 with e2 e3
 injection e1 with e1 e4 e5
 cases e1;cases e4;have h:c=c':=(List.map_inj_right (fun _ _=>Ac)).1 e5;rw[h,show s=s' from kC e2]
def EF (q:AR):Prop:=q.1.2.2≠[]->q.1.2.1=4
noncomputable instance (q:AR):Decidable (EF q):=Classical.propDecidable _
noncomputable def EP (q:AR):Option V:=if EF q then some (.x (.bool true)) else none
def KX (us:List V) (_H:HH) (T:V->HH->Prop):Prop:=∃q,us=su q∧EF q∧∀H',T (.x (.bool true)) H'
def EG (gf i:Nat) (nl:Bool) (L:List Ch) (x:Ch):Nat->V
 |52=> .x (ai gf)
 |53=> .sl nl 4 (L.map bB) none
 |54=> .x (.int .i64 ((i:Nat):Int))
 |55=> .ip [.x (.int .i64 x.1.1),.x (.int .i64 x.1.2.1),.x (.int .i64 x.1.2.2),.x (.int .i64 x.2)]
 |56=> .ip [.x (.int .i64 x.1.1),.x (.int .i64 x.1.2.1),.x (.int .i64 x.1.2.2),.x (.int .i64 x.2)]
 |57=> .agg [.x (.int .i64 x.1.1),.x (.int .i64 x.1.2.1),.x (.int .i64 x.1.2.2)]
 |58=> .sl nl 4 (L.map bB) none
 |59=> .x (.int .i64 ((i:Nat):Int))
 |60=> .ip [.x (.int .i64 x.1.1),.x (.int .i64 x.1.2.1),.x (.int .i64 x.1.2.2),.x (.int .i64 x.2)]
 |61=> .ip [.x (.int .i64 x.2)]
 |62=> .x (.int .i64 x.2)
 |_=> .undef
def EH (gr i:Nat) (nl:Bool) (L:List Ch) (x:Ch):Nat->V
 |64=> .x (ai gr)
 |65=> .sl nl 4 (L.map bB) none
 |66=> .x (.int .i64 ((i:Nat):Int))
 |67=> .ip [.x (.int .i64 x.1.1),.x (.int .i64 x.1.2.1),.x (.int .i64 x.1.2.2),.x (.int .i64 x.2)]
 |68=> .ip [.x (.int .i64 x.1.1),.x (.int .i64 x.1.2.1),.x (.int .i64 x.1.2.2),.x (.int .i64 x.2)]
 |69=> .agg [.x (.int .i64 x.1.1),.x (.int .i64 x.1.2.1),.x (.int .i64 x.1.2.2)]
 |70=> .sl nl 4 (L.map bB) none
 |71=> .x (.int .i64 ((i:Nat):Int))
 |72=> .ip [.x (.int .i64 x.1.1),.x (.int .i64 x.1.2.1),.x (.int .i64 x.1.2.2),.x (.int .i64 x.2)]
 |73=> .ip [.x (.int .i64 x.2)]
 |74=> .x (.int .i64 x.2)
 |_=> .undef
noncomputable def EI (gf gr i:Nat) (nl:Bool) (L:List Ch) (x:Ch) (s:aJ) (c:Cn):Nat->V
 |76=> .x (ai gf)
 |78=> .x (ai gr)
 |80=> .x (.bool true)
 |81=> .x (.bool false)
 |82=> .x (.bool false)
 |83=> .x (ai gf)
 |84=> .agg [.x (.int .i64 s.1),.x (.int .i64 s.2.1),.x (.int .i64 s.2.2)]
 |85=> .x (.bool (dW c s))
 |86=> .x (ai gr)
 |87=> .agg [.x (.int .i64 s.1),.x (.int .i64 s.2.1),.x (.int .i64 s.2.2)]
 |88=> .x (.bool (dW c s))
 |89=> .x (.bool false)
 |90=> .x (.bool false)
 |91=> .x (.bool false)
 |92=> .x (ai gf)
 |93=> .sl nl 4 (L.map bB) none
 |94=> .x (.int .i64 ((i:Nat):Int))
 |95=> .ip [.x (.int .i64 x.1.1),.x (.int .i64 x.1.2.1),.x (.int .i64 x.1.2.2),.x (.int .i64 x.2)]
 |96=> .ip [.x (.int .i64 x.1.1),.x (.int .i64 x.1.2.1),.x (.int .i64 x.1.2.2),.x (.int .i64 x.2)]
 |97=> .agg [.x (.int .i64 x.1.1),.x (.int .i64 x.1.2.1),.x (.int .i64 x.1.2.2)]
 |98=> .x (.int .i64 (c x.1))
 |99=> .x (ai gr)
 |100=> .sl nl 4 (L.map bB) none
 |101=> .x (.int .i64 ((i:Nat):Int))
 |102=> .ip [.x (.int .i64 x.1.1),.x (.int .i64 x.1.2.1),.x (.int .i64 x.1.2.2),.x (.int .i64 x.2)]
 |103=> .ip [.x (.int .i64 x.1.1),.x (.int .i64 x.1.2.1),.x (.int .i64 x.1.2.2),.x (.int .i64 x.2)]
 |104=> .agg [.x (.int .i64 x.1.1),.x (.int .i64 x.1.2.1),.x (.int .i64 x.1.2.2)]
 |105=> .x (.int .i64 (c x.1))
 |106=> .x (.bool false)
 |107=> .x (.bool false)
 |108=> .x (.bool false)
 |109=> .x (ai gf)
 |110=> .agg [.x (.int .i64 s.1),.x (.int .i64 s.2.1),.x (.int .i64 s.2.2)]
 |111=> .x (.int .i64 (c s))
 |112=> .x (ai gr)
 |113=> .agg [.x (.int .i64 s.1),.x (.int .i64 s.2.1),.x (.int .i64 s.2.2)]
 |114=> .x (.int .i64 (c s))
 |115=> .x (.bool false)
 |116=> .x (.bool false)
 |_=> .undef
theorem wd:cE (bO [(5,cM),(8,FE rZ l5)] [] [] (fun _=>false) (fun _=>false)) 3 KX:=by
 refine cP (F:={F:=vD aO,D:=fun d=>d==20||d==22||d==24,any:=fun i=>i==13||i==14||i==15}) (n:=117) (k:=2) (aZ [(5,cM),(8,FE rZ l5)] [] [] _ _ ⟨jo,sa,trivial⟩ trivial trivial) (by kernel_rfl) (fK (l:=aO) ⟨gP,kN,fT,gN,gJ,kG,fN,gH,trivial⟩) (fun t s C e=>by cases e) Try.func3 rfl (fun a w=>Try.call3 a w) Try.ntmps3 (by decide) (by decide) (by kernel_rfl) ?_;rintro us H T ⟨⟨⟨nl,z,L⟩,s⟩,rfl,hz,hT⟩ hdat;clear hdat;refine⟨rfl,?_⟩;simp only[su,ay];have hz:L≠[]->z=4:=hz;by_cases h60:(60:Int)<(L.length:Int)
 case pos=>have d0:=LP h60;simp +decide (maxDischargeDepth:=200) only[go_sem,Nat.reduceBEq,aO,cM,eq,d0];exact hT _
 have d0:=LO h60;simp +decide (maxDischargeDepth:=200) only[go_sem,Nat.reduceBEq,aO,cM,eq,d0];intro gf hgf;simp +decide (maxDischargeDepth:=200) only[go_sem,Nat.reduceBEq,aO];intro go hgo;simp +decide (maxDischargeDepth:=200) only[go_sem,Nat.reduceBEq,aO];intro gr hgr;have n1:go≠gf:=fun e=>by rw[e,aa] at hgo;cases hgo
 have n2:gr≠go:=fun e=>by rw[e,aa] at hgr;cases hgr
 have n3:gr≠gf:=fun e=>by rw[ag _ _ n2,e,aa] at hgr;cases hgr
 simp +decide (maxDischargeDepth:=200) only[go_sem,Nat.reduceBEq,aO];refine bz (X:={i:Nat//i<=L.length}) (fun i=>[(0,.sl nl z (L.map bB) none),(3,.ptr 3 0),(6,.x (ai gf)),(7,.x (ai go)),(8,.x (ai gr)),(9,.x (.int .i64 ((i.1:Nat):Int)))]) (fun _=>[(3,[.x (.int .i64 s.1),.x (.int .i64 s.2.1),.x (.int .i64 s.2.2)])]) (fun i Hx=>∃c co Ff Fo Fr,DFr Hx gf c i.1 Ff∧DFr Hx go co i.1 Fo∧RFr Hx gr c i.1 Fr∧smC c i.1∧smC co i.1∧Disj Ff Fo∧Disj Ff Fr∧Disj Fo Fr) (fun i=>L.length-i.1) ⟨0,LQ _⟩ (by simp +decide only[go_sem,Nat.reduceBEq,Mc]<;>(repeat' first|rfl|constructor)) (by simp +decide only[go_sem,Nat.reduceBEq,Mc]<;>(repeat' first|rfl|constructor)) ⟨fun _=>0,fun _=>0,[gf],[go],[gr],DFr.ok.zero ((ag _ _ (M1 n3)).trans ((ag _ _ (M1 n1)).trans (aa _ _ _))),DFr.ok.zero ((ag _ _ (M1 n2)).trans (aa _ _ _)),RFr.ok.zero (aa _ _ _),ii,ii,(fun y h1 h2=>n1 (by rw[<-LX.1 h1,<-LX.1 h2])),(fun y h1 h2=>n3 (by rw[<-LX.1 h1,<-LX.1 h2])),(fun y h1 h2=>n2 (by rw[<-LX.1 h1,<-LX.1 h2]))⟩ ?_;clear hgf hgo hgr H;rintro⟨i,hi⟩ H ⟨c0,co,Ff,Fo,Fr,hDf,hDo,hR,hsf,hso,j1,j2,j3⟩;simp only at hi hDf hDo hR hsf hso⊢;by_cases hil:i<L.length
 case neg=>have d1:decide ((i:Int)<(L.length:Int))=false:=LO (by omega);simp +decide (maxDischargeDepth:=200) only[go_sem,Nat.reduceBEq,aO,eq,d1];exact hT _
 obtain rfl:z=4:=hz (fun e=>by rw[e] at hil;cases hil);have d1:decide ((i:Int)<(L.length:Int))=true:=LP (by omega);have p0:(0:Int)<=(i:Int):=by omega
 have p1:(i:Int)<(L.length:Int):=by omega
 have cu:=be (i:=i) (by omega);obtain⟨x,hx⟩:∃x,L[i]?=some x:=⟨_,Io hil⟩;have q1:(L.map bB)[((i:Int)).toNat]?=some (.agg [.x (.int .i64 x.1.1),.x (.int .i64 x.1.2.1),.x (.int .i64 x.1.2.2),.x (.int .i64 x.2)]):=by rw[io,LS,hx];rfl
 by_cases hb1:1099511627776<x.2
 case pos=>have e1:=LP hb1;simp +decide (maxDischargeDepth:=200) only[go_sem,Nat.reduceBEq,aO,eq,d1,p0,p1,q1,e1];exact hT _
 have e1:=LO hb1;by_cases hb2:x.2< -1099511627776
 case pos=>have e2:=LP hb2;simp +decide (maxDischargeDepth:=200) only[go_sem,Nat.reduceBEq,aO,eq,d1,p0,p1,q1,e1,e2];exact hT _
 have e2:=LO hb2;simp +decide (maxDischargeDepth:=200) only[go_sem,Nat.reduceBEq,aO,eq,d1,p0,p1,q1,e1,e2];refine⟨go,x.1,1,co,i,Fo,rfl,hDo,by omega,hso.big (by omega),⟨by decide,by decide⟩,fun H1 Fo1 hDo1 hf1 hn1=>?_⟩;obtain⟨hDf1,j1'⟩:=cW DFr.ok hDf j1 hf1 hn1;obtain⟨hR1,j3'⟩:=cW RFr.ok hR j3.symm hf1 hn1;have hso1:=m3 (s:=x.1) hso (n:=1) (by decide) (by decide);simp +decide (maxDischargeDepth:=200) only[go_sem,Nat.reduceBEq,aO];refine aG (fun k=>match k with|3=>[53,54]|4=>[55]|5=>[56]|8=>[58,59]|9=>[60]|10=>[61]|11=>[52,57,62]|_=>[]) [11] (fun k=>match k with|0=>0|1=>0|2=>0|3=>0|4=>0|5=>0|6=>0|7=>0|8=>0|9=>0|10=>0|_=>1) (fun j Hx _=>match j with|0=>H1=Hx|_=>∃F',DFr Hx gf (dV c0 x.1 x.2) (i+1) F'∧(∀y,y∉Ff->H1 y≠none->Hx y=H1 y)∧∀y∈F',y∈Ff∨H1 y=none) (EG gf i nl L x) (by kernel_rfl) (by kernel_rfl) (by kernel_rfl) rfl ?_ ?_ ?_
 . rintro j i' o Hx val st ho hW hj hJ hv hn hb hbb K' hk;have b0:st.t 0= .sl nl 4 (L.map bB) none:=hb 0 (by kernel_rfl);have b3:st.t 3= .ptr 3 0:=hb 3 (by kernel_rfl);have b6:st.t 6= .x (ai gf):=hb 6 (by kernel_rfl);have b7:st.t 7= .x (ai go):=hb 7 (by kernel_rfl);have b8:st.t 8= .x (ai gr):=hb 8 (by kernel_rfl);have b9:st.t 9= .x (.int .i64 ((i:Nat):Int)):=hb 9 (by kernel_rfl);have bb3:st.b 3=some ([.x (.int .i64 s.1),.x (.int .i64 s.2.1),.x (.int .i64 s.2.2)]):=(Mv hbb 3).trans (by kernel_rfl);clear hb hbb;rcases i' with _|_|_|_|_|_|_|_|_|_|_|_|i'
   . cases ho;have hJ:H1=Hx:=by have h0:j=0:=LV.1 (tl hj (by decide));subst h0;exact hJ
     subst hJ;simp +decide (maxDischargeDepth:=200) only[go_sem,Nat.reduceBEq,b6,aO,eq,p0,p1,q1];exact hk _ (Le.refl _)
   . cases ho;have hJ:H1=Hx:=by have h0:j=0:=LV.1 (tl hj (by decide));subst h0;exact hJ
     subst hJ;simp +decide (maxDischargeDepth:=200) only[go_sem,Nat.reduceBEq,b0,aO,eq,p0,p1,q1];exact hk _ (Le.refl _)
   . cases ho;have hJ:H1=Hx:=by have h0:j=0:=LV.1 (tl hj (by decide));subst h0;exact hJ
     subst hJ;simp +decide (maxDischargeDepth:=200) only[go_sem,Nat.reduceBEq,b9,aO,eq,p0,p1,q1];exact hk _ (Le.refl _)
   . cases ho;have h53:st.t 53= .sl nl 4 (L.map bB) none:=(hn 53 (by decide)).trans (hv 53 (by kernel_rfl));have h54:st.t 54= .x (.int .i64 ((i:Nat):Int)):=(hn 54 (by decide)).trans (hv 54 (by kernel_rfl));have hJ:H1=Hx:=by have h0:j=0:=LV.1 (tl hj (by decide));subst h0;exact hJ
     subst hJ;simp +decide (maxDischargeDepth:=200) only[go_sem,Nat.reduceBEq,h53,h54,aO,eq,p0,p1,q1];exact hk _ (Le.refl _)
   . cases ho;have h55:st.t 55= .ip [.x (.int .i64 x.1.1),.x (.int .i64 x.1.2.1),.x (.int .i64 x.1.2.2),.x (.int .i64 x.2)]:=(hn 55 (by decide)).trans (hv 55 (by kernel_rfl));have hJ:H1=Hx:=by have h0:j=0:=LV.1 (tl hj (by decide));subst h0;exact hJ
     subst hJ;simp +decide (maxDischargeDepth:=200) only[go_sem,Nat.reduceBEq,h55,aO,eq,p0,p1,q1];exact hk _ (Le.refl _)
   . cases ho;have h56:st.t 56= .ip [.x (.int .i64 x.1.1),.x (.int .i64 x.1.2.1),.x (.int .i64 x.1.2.2),.x (.int .i64 x.2)]:=(hn 56 (by decide)).trans (hv 56 (by kernel_rfl));have hJ:H1=Hx:=by have h0:j=0:=LV.1 (tl hj (by decide));subst h0;exact hJ
     subst hJ;simp +decide (maxDischargeDepth:=200) only[go_sem,Nat.reduceBEq,h56,aO,eq,p0,p1,q1];exact hk _ (Le.refl _)
   . cases ho;have hJ:H1=Hx:=by have h0:j=0:=LV.1 (tl hj (by decide));subst h0;exact hJ
     subst hJ;simp +decide (maxDischargeDepth:=200) only[go_sem,Nat.reduceBEq,b0,aO,eq,p0,p1,q1];exact hk _ (Le.refl _)
   . cases ho;have hJ:H1=Hx:=by have h0:j=0:=LV.1 (tl hj (by decide));subst h0;exact hJ
     subst hJ;simp +decide (maxDischargeDepth:=200) only[go_sem,Nat.reduceBEq,b9,aO,eq,p0,p1,q1];exact hk _ (Le.refl _)
   . cases ho;have h58:st.t 58= .sl nl 4 (L.map bB) none:=(hn 58 (by decide)).trans (hv 58 (by kernel_rfl));have h59:st.t 59= .x (.int .i64 ((i:Nat):Int)):=(hn 59 (by decide)).trans (hv 59 (by kernel_rfl));have hJ:H1=Hx:=by have h0:j=0:=LV.1 (tl hj (by decide));subst h0;exact hJ
     subst hJ;simp +decide (maxDischargeDepth:=200) only[go_sem,Nat.reduceBEq,h58,h59,aO,eq,p0,p1,q1];exact hk _ (Le.refl _)
   . cases ho;have h60:st.t 60= .ip [.x (.int .i64 x.1.1),.x (.int .i64 x.1.2.1),.x (.int .i64 x.1.2.2),.x (.int .i64 x.2)]:=(hn 60 (by decide)).trans (hv 60 (by kernel_rfl));have hJ:H1=Hx:=by have h0:j=0:=LV.1 (tl hj (by decide));subst h0;exact hJ
     subst hJ;simp +decide (maxDischargeDepth:=200) only[go_sem,Nat.reduceBEq,h60,aO,eq,p0,p1,q1];exact hk _ (Le.refl _)
   . cases ho;have h61:st.t 61= .ip [.x (.int .i64 x.2)]:=(hn 61 (by decide)).trans (hv 61 (by kernel_rfl));have hJ:H1=Hx:=by have h0:j=0:=LV.1 (tl hj (by decide));subst h0;exact hJ
     subst hJ;simp +decide (maxDischargeDepth:=200) only[go_sem,Nat.reduceBEq,h61,aO,eq,p0,p1,q1];exact hk _ (Le.refl _)
   . cases hW
   . cases ho
 . rintro j i' o Hx val st hj ho hJ hv hn hb hbb K' hk;have b0:st.t 0= .sl nl 4 (L.map bB) none:=hb 0 (by kernel_rfl);have b3:st.t 3= .ptr 3 0:=hb 3 (by kernel_rfl);have b6:st.t 6= .x (ai gf):=hb 6 (by kernel_rfl);have b7:st.t 7= .x (ai go):=hb 7 (by kernel_rfl);have b8:st.t 8= .x (ai gr):=hb 8 (by kernel_rfl);have b9:st.t 9= .x (.int .i64 ((i:Nat):Int)):=hb 9 (by kernel_rfl);have bb3:st.b 3=some ([.x (.int .i64 s.1),.x (.int .i64 s.2.1),.x (.int .i64 s.2.2)]):=(Mv hbb 3).trans (by kernel_rfl);clear hb hbb;rcases j with _|j
   . cases hj;cases ho;have h52:st.t 52= .x (ai gf):=(hn 52 (by decide)).trans (hv 52 (by kernel_rfl));have h57:st.t 57= .agg [.x (.int .i64 x.1.1),.x (.int .i64 x.1.2.1),.x (.int .i64 x.1.2.2)]:=(hn 57 (by decide)).trans (hv 57 (by kernel_rfl));have h62:st.t 62= .x (.int .i64 x.2):=(hn 62 (by decide)).trans (hv 62 (by kernel_rfl));have hJ:H1=Hx:=hJ;subst hJ;simp +decide (maxDischargeDepth:=200) only[go_sem,Nat.reduceBEq,h52,h57,h62,aO];refine⟨gf,x.1,x.2,c0,i,Ff,rfl,hDf1,by omega,hsf.big (by omega),⟨by omega,by omega⟩,fun H' F' h1 h2 h3=>hk H' (.tup []) _ ⟨F',h1,h2,h3⟩ (by rw[eu];exact Le.refl _)⟩
   . cases hj
 . rintro Hx val hJ hv;refine⟨[(0,.sl nl 4 (L.map bB) none),(3,.ptr 3 0),(6,.x (ai gf)),(7,.x (ai go)),(8,.x (ai gr)),(9,.x (.int .i64 ((i:Nat):Int)))],[(3,[.x (.int .i64 s.1),.x (.int .i64 s.2.1),.x (.int .i64 s.2.2)])],?_,?_,?_⟩
   . simp +decide only[go_sem,Nat.reduceBEq]<;>(repeat' first|exact aK (by kernel_rfl)|exact(aL (by kernel_rfl)).trans (hv _ (by kernel_rfl))|rfl|constructor)
   . simp +decide only[go_sem,Nat.reduceBEq]<;>(repeat' first|rfl|constructor)
   obtain⟨Ff2,hDf2,hf2,hn2⟩:∃F',DFr Hx gf (dV c0 x.1 x.2) (i+1) F'∧(∀y,y∉Ff->H1 y≠none->Hx y=H1 y)∧∀y∈F',y∈Ff∨H1 y=none:=hJ;obtain⟨hDo2,k1'⟩:=cW DFr.ok hDo1 j1'.symm hf2 hn2;obtain⟨hR2,j2x⟩:=cW RFr.ok hR1 j2.symm hf2 hn2;have k1:=k1'.symm;have j2':=j2x.symm;have j3'':=j3';have hsf2:=m3 (s:=x.1) hsf (n:=x.2) (by omega) (by omega);clear hv;generalize Hx=H2 at*;simp +decide (maxDischargeDepth:=200) only[go_sem,Nat.reduceBEq,aO];refine aG (fun k=>match k with|3=>[65,66]|4=>[67]|5=>[68]|8=>[70,71]|9=>[72]|10=>[73]|11=>[64,69,74]|_=>[]) [11] (fun k=>match k with|0=>0|1=>0|2=>0|3=>0|4=>0|5=>0|6=>0|7=>0|8=>0|9=>0|10=>0|_=>1) (fun j Hx _=>match j with|0=>H2=Hx|_=>∃F',RFr Hx gr (dV c0 x.1 x.2) (i+1) F'∧(∀y,y∉Fr->H2 y≠none->Hx y=H2 y)∧∀y∈F',y∈Fr∨H2 y=none) (EH gr i nl L x) (by kernel_rfl) (by kernel_rfl) (by kernel_rfl) rfl ?_ ?_ ?_
   . rintro j i' o Hx val st ho hW hj hJ hv hn hb hbb K' hk;have b0:st.t 0= .sl nl 4 (L.map bB) none:=hb 0 (by kernel_rfl);have b3:st.t 3= .ptr 3 0:=hb 3 (by kernel_rfl);have b6:st.t 6= .x (ai gf):=hb 6 (by kernel_rfl);have b7:st.t 7= .x (ai go):=hb 7 (by kernel_rfl);have b8:st.t 8= .x (ai gr):=hb 8 (by kernel_rfl);have b9:st.t 9= .x (.int .i64 ((i:Nat):Int)):=hb 9 (by kernel_rfl);have bb3:st.b 3=some ([.x (.int .i64 s.1),.x (.int .i64 s.2.1),.x (.int .i64 s.2.2)]):=(Mv hbb 3).trans (by kernel_rfl);clear hb hbb;rcases i' with _|_|_|_|_|_|_|_|_|_|_|_|i'
     . cases ho;have hJ:H2=Hx:=by have h0:j=0:=LV.1 (tl hj (by decide));subst h0;exact hJ
       subst hJ;simp +decide (maxDischargeDepth:=200) only[go_sem,Nat.reduceBEq,b8,aO,eq,p0,p1,q1];exact hk _ (Le.refl _)
     . cases ho;have hJ:H2=Hx:=by have h0:j=0:=LV.1 (tl hj (by decide));subst h0;exact hJ
       subst hJ;simp +decide (maxDischargeDepth:=200) only[go_sem,Nat.reduceBEq,b0,aO,eq,p0,p1,q1];exact hk _ (Le.refl _)
     . cases ho;have hJ:H2=Hx:=by have h0:j=0:=LV.1 (tl hj (by decide));subst h0;exact hJ
       subst hJ;simp +decide (maxDischargeDepth:=200) only[go_sem,Nat.reduceBEq,b9,aO,eq,p0,p1,q1];exact hk _ (Le.refl _)
     . cases ho;have h65:st.t 65= .sl nl 4 (L.map bB) none:=(hn 65 (by decide)).trans (hv 65 (by kernel_rfl));have h66:st.t 66= .x (.int .i64 ((i:Nat):Int)):=(hn 66 (by decide)).trans (hv 66 (by kernel_rfl));have hJ:H2=Hx:=by have h0:j=0:=LV.1 (tl hj (by decide));subst h0;exact hJ
       subst hJ;simp +decide (maxDischargeDepth:=200) only[go_sem,Nat.reduceBEq,h65,h66,aO,eq,p0,p1,q1];exact hk _ (Le.refl _)
     . cases ho;have h67:st.t 67= .ip [.x (.int .i64 x.1.1),.x (.int .i64 x.1.2.1),.x (.int .i64 x.1.2.2),.x (.int .i64 x.2)]:=(hn 67 (by decide)).trans (hv 67 (by kernel_rfl));have hJ:H2=Hx:=by have h0:j=0:=LV.1 (tl hj (by decide));subst h0;exact hJ
       subst hJ;simp +decide (maxDischargeDepth:=200) only[go_sem,Nat.reduceBEq,h67,aO,eq,p0,p1,q1];exact hk _ (Le.refl _)
     . cases ho;have h68:st.t 68= .ip [.x (.int .i64 x.1.1),.x (.int .i64 x.1.2.1),.x (.int .i64 x.1.2.2),.x (.int .i64 x.2)]:=(hn 68 (by decide)).trans (hv 68 (by kernel_rfl));have hJ:H2=Hx:=by have h0:j=0:=LV.1 (tl hj (by decide));subst h0;exact hJ
       subst hJ;simp +decide (maxDischargeDepth:=200) only[go_sem,Nat.reduceBEq,h68,aO,eq,p0,p1,q1];exact hk _ (Le.refl _)
     . cases ho;have hJ:H2=Hx:=by have h0:j=0:=LV.1 (tl hj (by decide));subst h0;exact hJ
       subst hJ;simp +decide (maxDischargeDepth:=200) only[go_sem,Nat.reduceBEq,b0,aO,eq,p0,p1,q1];exact hk _ (Le.refl _)
     . cases ho;have hJ:H2=Hx:=by have h0:j=0:=LV.1 (tl hj (by decide));subst h0;exact hJ
       subst hJ;simp +decide (maxDischargeDepth:=200) only[go_sem,Nat.reduceBEq,b9,aO,eq,p0,p1,q1];exact hk _ (Le.refl _)
     . cases ho;have h70:st.t 70= .sl nl 4 (L.map bB) none:=(hn 70 (by decide)).trans (hv 70 (by kernel_rfl));have h71:st.t 71= .x (.int .i64 ((i:Nat):Int)):=(hn 71 (by decide)).trans (hv 71 (by kernel_rfl));have hJ:H2=Hx:=by have h0:j=0:=LV.1 (tl hj (by decide));subst h0;exact hJ
       subst hJ;simp +decide (maxDischargeDepth:=200) only[go_sem,Nat.reduceBEq,h70,h71,aO,eq,p0,p1,q1];exact hk _ (Le.refl _)
     . cases ho;have h72:st.t 72= .ip [.x (.int .i64 x.1.1),.x (.int .i64 x.1.2.1),.x (.int .i64 x.1.2.2),.x (.int .i64 x.2)]:=(hn 72 (by decide)).trans (hv 72 (by kernel_rfl));have hJ:H2=Hx:=by have h0:j=0:=LV.1 (tl hj (by decide));subst h0;exact hJ
       subst hJ;simp +decide (maxDischargeDepth:=200) only[go_sem,Nat.reduceBEq,h72,aO,eq,p0,p1,q1];exact hk _ (Le.refl _)
     . cases ho;have h73:st.t 73= .ip [.x (.int .i64 x.2)]:=(hn 73 (by decide)).trans (hv 73 (by kernel_rfl));have hJ:H2=Hx:=by have h0:j=0:=LV.1 (tl hj (by decide));subst h0;exact hJ
       subst hJ;simp +decide (maxDischargeDepth:=200) only[go_sem,Nat.reduceBEq,h73,aO,eq,p0,p1,q1];exact hk _ (Le.refl _)
     . cases hW
     . cases ho
   . rintro j i' o Hx val st hj ho hJ hv hn hb hbb K' hk;have b0:st.t 0= .sl nl 4 (L.map bB) none:=hb 0 (by kernel_rfl);have b3:st.t 3= .ptr 3 0:=hb 3 (by kernel_rfl);have b6:st.t 6= .x (ai gf):=hb 6 (by kernel_rfl);have b7:st.t 7= .x (ai go):=hb 7 (by kernel_rfl);have b8:st.t 8= .x (ai gr):=hb 8 (by kernel_rfl);have b9:st.t 9= .x (.int .i64 ((i:Nat):Int)):=hb 9 (by kernel_rfl);have bb3:st.b 3=some ([.x (.int .i64 s.1),.x (.int .i64 s.2.1),.x (.int .i64 s.2.2)]):=(Mv hbb 3).trans (by kernel_rfl);clear hb hbb;rcases j with _|j
     . cases hj;cases ho;have h64:st.t 64= .x (ai gr):=(hn 64 (by decide)).trans (hv 64 (by kernel_rfl));have h69:st.t 69= .agg [.x (.int .i64 x.1.1),.x (.int .i64 x.1.2.1),.x (.int .i64 x.1.2.2)]:=(hn 69 (by decide)).trans (hv 69 (by kernel_rfl));have h74:st.t 74= .x (.int .i64 x.2):=(hn 74 (by decide)).trans (hv 74 (by kernel_rfl));have hJ:H2=Hx:=hJ;subst hJ;simp +decide (maxDischargeDepth:=200) only[go_sem,Nat.reduceBEq,h64,h69,h74,aO];refine⟨gr,x.1,x.2,c0,i,Fr,rfl,hR2,by omega,hsf.big (by omega),⟨by omega,by omega⟩,fun H' F' h1 h2 h3=>hk H' (.tup []) _ ⟨F',h1,h2,h3⟩ (by rw[eu];exact Le.refl _)⟩
     . cases hj
   . rintro Hx val hJ hv;refine⟨[(0,.sl nl 4 (L.map bB) none),(3,.ptr 3 0),(6,.x (ai gf)),(7,.x (ai go)),(8,.x (ai gr)),(9,.x (.int .i64 ((i:Nat):Int)))],[(3,[.x (.int .i64 s.1),.x (.int .i64 s.2.1),.x (.int .i64 s.2.2)])],?_,?_,?_⟩
     . simp +decide only[go_sem,Nat.reduceBEq]<;>(repeat' first|exact aK (by kernel_rfl)|exact(aL (by kernel_rfl)).trans (hv _ (by kernel_rfl))|rfl|constructor)
     . simp +decide only[go_sem,Nat.reduceBEq]<;>(repeat' first|rfl|constructor)
     obtain⟨Fr3,hR3,hf3,hn3⟩:∃F',RFr Hx gr (dV c0 x.1 x.2) (i+1) F'∧(∀y,y∉Fr->H2 y≠none->Hx y=H2 y)∧∀y∈F',y∈Fr∨H2 y=none:=hJ;obtain⟨hDf3,k2⟩:=cW DFr.ok hDf2 j2' hf3 hn3;obtain⟨hDo3,k3⟩:=cW DFr.ok hDo2 j3''.symm hf3 hn3;clear hv;simp +decide (maxDischargeDepth:=200) only[go_sem,Nat.reduceBEq,aO];obtain⟨c,hcd⟩:∃c,c=dV c0 x.1 x.2:=⟨_,rfl⟩;rw[<-hcd] at hDf3 hR3;obtain⟨lf,hlf,hll⟩:∃lf,LeastIs c lf∧lf.length<=1000:=by obtain⟨Lr,ad,cap,_,_,_,hS,_,hc,hk,_⟩:=hR3;exact⟨bl Lr Lr.length,l4 hS hc,tl (gI _ _) (by omega)⟩
     have bq:decide (dW c s=dW c s)=true:=LP rfl;have cq1:decide (c x.1=c x.1)=true:=LP rfl;have cq2:decide (c s=c s)=true:=LP rfl;refine kr (fun k=>match k with|1=>[76]|3=>[78]|4=>[77,79]|5=>[80]|6=>[81]|7=>[82]|8=>[82]|9=>[83,84,82]|10=>[82]|11=>[82]|12=>[86,87,82]|13=>[85,88,82]|14=>[82,89]|15=>[90]|16=>[91]|17=>[91]|18=>[91]|19=>[93,94,91]|20=>[95,91]|21=>[96,91]|22=>[92,97,91]|23=>[91]|24=>[91]|25=>[91]|26=>[100,101,91]|27=>[102,91]|28=>[103,91]|29=>[99,104,91]|30=>[98,105,91]|31=>[91,106]|32=>[107]|33=>[108]|34=>[108]|35=>[109,110,108]|36=>[108]|37=>[108]|38=>[112,113,108]|39=>[111,114,108]|40=>[108,115]|_=>[]) (fun k v=>match k with|77=>∃nl' z,v= .sl nl' z (lf.map ay) none∧(lf≠[]->z=3)|79=>∃nl' z,v= .sl nl' z (lf.map ay) none∧(lf≠[]->z=3)|k=>v=EI gf gr i nl L x s c k) (by kernel_rfl) (by kernel_rfl) ?_ ?_
     . rintro i' o st ho hn hb hbb K' hk;have b0:st.t 0= .sl nl 4 (L.map bB) none:=hb 0 (by kernel_rfl);have b3:st.t 3= .ptr 3 0:=hb 3 (by kernel_rfl);have b6:st.t 6= .x (ai gf):=hb 6 (by kernel_rfl);have b7:st.t 7= .x (ai go):=hb 7 (by kernel_rfl);have b8:st.t 8= .x (ai gr):=hb 8 (by kernel_rfl);have b9:st.t 9= .x (.int .i64 ((i:Nat):Int)):=hb 9 (by kernel_rfl);have bb3:st.b 3=some ([.x (.int .i64 s.1),.x (.int .i64 s.2.1),.x (.int .i64 s.2.2)]):=(Mv hbb 3).trans (by kernel_rfl);clear hb hbb;rcases i' with _|_|_|_|_|_|_|_|_|_|_|_|_|_|_|_|_|_|_|_|_|_|_|_|_|_|_|_|_|_|_|_|_|_|_|_|_|_|_|_|_|i'
       . cases ho;simp +decide (maxDischargeDepth:=200) only[go_sem,Nat.reduceBEq,b6,aO,eq,p0,p1,q1,bq,cq1,cq2];exact hk _ _ (fun d hd=>by cases hd;exact rfl) (Le.refl _)
       . cases ho;have h76:st.t 76= .x (ai gf):=hn 76 (by decide);simp +decide (maxDischargeDepth:=200) only[go_sem,Nat.reduceBEq,h76,aO,eq,p0,p1,q1,bq,cq1,cq2];refine⟨gf,_,i+1,_,rfl,hDf3,by omega,fun l nl' z hl hnl hz hlen=>?_⟩;have e:=hl.uniq hlf;rw[e] at hz;exact hk (.sl nl' z (lf.map ay) none) _ (fun d hd=>by cases hd;exact⟨nl',z,rfl,hz⟩) (by rw[e,eM];exact Le.refl _)
       . cases ho;simp +decide (maxDischargeDepth:=200) only[go_sem,Nat.reduceBEq,b8,aO,eq,p0,p1,q1,bq,cq1,cq2];exact hk _ _ (fun d hd=>by cases hd;exact rfl) (Le.refl _)
       . cases ho;have h78:st.t 78= .x (ai gr):=hn 78 (by decide);simp +decide (maxDischargeDepth:=200) only[go_sem,Nat.reduceBEq,h78,aO,eq,p0,p1,q1,bq,cq1,cq2];refine⟨gr,_,i+1,_,rfl,hR3,by omega,fun l nl' z hl hnl hz hlen=>?_⟩;have e:=hl.uniq hlf;rw[e] at hz;exact hk (.sl nl' z (lf.map ay) none) _ (fun d hd=>by cases hd;exact⟨nl',z,rfl,hz⟩) (by rw[e,eM];exact Le.refl _)
       . cases ho;obtain⟨nl7,z7,h77,y7⟩:=hn 77 (by decide);obtain⟨nl9,z9,h79,y9⟩:=hn 79 (by decide);simp +decide (maxDischargeDepth:=200) only[go_sem,Nat.reduceBEq,h77,h79,aO,eq,p0,p1,q1,bq,cq1,cq2,vN y7 y9 hll];exact hk _ _ (fun d hd=>by cases hd;exact rfl) (Le.refl _)
       . cases ho;have h80:st.t 80= .x (.bool true):=hn 80 (by decide);simp +decide (maxDischargeDepth:=200) only[go_sem,Nat.reduceBEq,h80,aO,eq,p0,p1,q1,bq,cq1,cq2];exact hk _ _ (fun d hd=>by cases hd;exact rfl) (Le.refl _)
       . cases ho;have h81:st.t 81= .x (.bool false):=hn 81 (by decide);simp +decide (maxDischargeDepth:=200) only[go_sem,Nat.reduceBEq,h81,aO,eq,p0,p1,q1,bq,cq1,cq2];exact hk _ _ (fun d hd=>by cases hd;exact rfl) (Le.refl _)
       . cases ho;have h82:st.t 82= .x (.bool false):=hn 82 (by decide);simp +decide (maxDischargeDepth:=200) only[go_sem,Nat.reduceBEq,b6,h82,aO,eq,p0,p1,q1,bq,cq1,cq2];exact hk _ _ (fun d hd=>by cases hd;exact rfl) (Le.refl _)
       . cases ho;have h82:st.t 82= .x (.bool false):=hn 82 (by decide);simp +decide (maxDischargeDepth:=200) only[go_sem,Nat.reduceBEq,b3,bb3,h82,aO,eq,p0,p1,q1,bq,cq1,cq2];exact hk _ _ (fun d hd=>by cases hd;exact rfl) (Le.refl _)
       . cases ho;have h83:st.t 83= .x (ai gf):=hn 83 (by decide);have h84:st.t 84= .agg [.x (.int .i64 s.1),.x (.int .i64 s.2.1),.x (.int .i64 s.2.2)]:=hn 84 (by decide);have h82:st.t 82= .x (.bool false):=hn 82 (by decide);simp +decide (maxDischargeDepth:=200) only[go_sem,Nat.reduceBEq,h83,h84,h82,aO,eq,p0,p1,q1,bq,cq1,cq2];refine⟨gf,s,_,i+1,_,rfl,hDf3,fun b hb=>?_⟩;have e:=ig hb;exact hk (.x (.bool (dW c s))) _ (fun d hd=>by cases hd;exact rfl) (by rw[e,bj];exact Le.refl _)
       . cases ho;have h82:st.t 82= .x (.bool false):=hn 82 (by decide);simp +decide (maxDischargeDepth:=200) only[go_sem,Nat.reduceBEq,b8,h82,aO,eq,p0,p1,q1,bq,cq1,cq2];exact hk _ _ (fun d hd=>by cases hd;exact rfl) (Le.refl _)
       . cases ho;have h82:st.t 82= .x (.bool false):=hn 82 (by decide);simp +decide (maxDischargeDepth:=200) only[go_sem,Nat.reduceBEq,b3,bb3,h82,aO,eq,p0,p1,q1,bq,cq1,cq2];exact hk _ _ (fun d hd=>by cases hd;exact rfl) (Le.refl _)
       . cases ho;have h86:st.t 86= .x (ai gr):=hn 86 (by decide);have h87:st.t 87= .agg [.x (.int .i64 s.1),.x (.int .i64 s.2.1),.x (.int .i64 s.2.2)]:=hn 87 (by decide);have h82:st.t 82= .x (.bool false):=hn 82 (by decide);simp +decide (maxDischargeDepth:=200) only[go_sem,Nat.reduceBEq,h86,h87,h82,aO,eq,p0,p1,q1,bq,cq1,cq2];refine⟨gr,s,_,i+1,_,rfl,hR3,fun b hb=>?_⟩;have e:=ig hb;exact hk (.x (.bool (dW c s))) _ (fun d hd=>by cases hd;exact rfl) (by rw[e,bj];exact Le.refl _)
       . cases ho;have h85:st.t 85= .x (.bool (dW c s)):=hn 85 (by decide);have h88:st.t 88= .x (.bool (dW c s)):=hn 88 (by decide);have h82:st.t 82= .x (.bool false):=hn 82 (by decide);simp +decide (maxDischargeDepth:=200) only[go_sem,Nat.reduceBEq,h85,h88,h82,aO,eq,p0,p1,q1,bq,cq1,cq2];exact hk _ _ (fun d hd=>by cases hd;exact rfl) (Le.refl _)
       . cases ho;have h82:st.t 82= .x (.bool false):=hn 82 (by decide);have h89:st.t 89= .x (.bool false):=hn 89 (by decide);simp +decide (maxDischargeDepth:=200) only[go_sem,Nat.reduceBEq,h82,h89,aO,eq,p0,p1,q1,bq,cq1,cq2];exact hk _ _ (fun d hd=>by cases hd;exact rfl) (Le.refl _)
       . cases ho;have h90:st.t 90= .x (.bool false):=hn 90 (by decide);simp +decide (maxDischargeDepth:=200) only[go_sem,Nat.reduceBEq,h90,aO,eq,p0,p1,q1,bq,cq1,cq2];exact hk _ _ (fun d hd=>by cases hd;exact rfl) (Le.refl _)
       . cases ho;have h91:st.t 91= .x (.bool false):=hn 91 (by decide);simp +decide (maxDischargeDepth:=200) only[go_sem,Nat.reduceBEq,b6,h91,aO,eq,p0,p1,q1,bq,cq1,cq2];exact hk _ _ (fun d hd=>by cases hd;exact rfl) (Le.refl _)
       . cases ho;have h91:st.t 91= .x (.bool false):=hn 91 (by decide);simp +decide (maxDischargeDepth:=200) only[go_sem,Nat.reduceBEq,b0,h91,aO,eq,p0,p1,q1,bq,cq1,cq2];exact hk _ _ (fun d hd=>by cases hd;exact rfl) (Le.refl _)
       . cases ho;have h91:st.t 91= .x (.bool false):=hn 91 (by decide);simp +decide (maxDischargeDepth:=200) only[go_sem,Nat.reduceBEq,b9,h91,aO,eq,p0,p1,q1,bq,cq1,cq2];exact hk _ _ (fun d hd=>by cases hd;exact rfl) (Le.refl _)
       . cases ho;have h93:st.t 93= .sl nl 4 (L.map bB) none:=hn 93 (by decide);have h94:st.t 94= .x (.int .i64 ((i:Nat):Int)):=hn 94 (by decide);have h91:st.t 91= .x (.bool false):=hn 91 (by decide);simp +decide (maxDischargeDepth:=200) only[go_sem,Nat.reduceBEq,h93,h94,h91,aO,eq,p0,p1,q1,bq,cq1,cq2];exact hk _ _ (fun d hd=>by cases hd;exact rfl) (Le.refl _)
       . cases ho;have h95:st.t 95= .ip [.x (.int .i64 x.1.1),.x (.int .i64 x.1.2.1),.x (.int .i64 x.1.2.2),.x (.int .i64 x.2)]:=hn 95 (by decide);have h91:st.t 91= .x (.bool false):=hn 91 (by decide);simp +decide (maxDischargeDepth:=200) only[go_sem,Nat.reduceBEq,h95,h91,aO,eq,p0,p1,q1,bq,cq1,cq2];exact hk _ _ (fun d hd=>by cases hd;exact rfl) (Le.refl _)
       . cases ho;have h96:st.t 96= .ip [.x (.int .i64 x.1.1),.x (.int .i64 x.1.2.1),.x (.int .i64 x.1.2.2),.x (.int .i64 x.2)]:=hn 96 (by decide);have h91:st.t 91= .x (.bool false):=hn 91 (by decide);simp +decide (maxDischargeDepth:=200) only[go_sem,Nat.reduceBEq,h96,h91,aO,eq,p0,p1,q1,bq,cq1,cq2];exact hk _ _ (fun d hd=>by cases hd;exact rfl) (Le.refl _)
       . cases ho;have h92:st.t 92= .x (ai gf):=hn 92 (by decide);have h97:st.t 97= .agg [.x (.int .i64 x.1.1),.x (.int .i64 x.1.2.1),.x (.int .i64 x.1.2.2)]:=hn 97 (by decide);have h91:st.t 91= .x (.bool false):=hn 91 (by decide);simp +decide (maxDischargeDepth:=200) only[go_sem,Nat.reduceBEq,h92,h97,h91,aO,eq,p0,p1,q1,bq,cq1,cq2];exact⟨gf,x.1,_,i+1,_,rfl,hDf3,hk (.x (.int .i64 (c x.1))) _ (fun d hd=>by cases hd;exact rfl) (by rw[bj];exact Le.refl _)⟩
       . cases ho;have h91:st.t 91= .x (.bool false):=hn 91 (by decide);simp +decide (maxDischargeDepth:=200) only[go_sem,Nat.reduceBEq,b8,h91,aO,eq,p0,p1,q1,bq,cq1,cq2];exact hk _ _ (fun d hd=>by cases hd;exact rfl) (Le.refl _)
       . cases ho;have h91:st.t 91= .x (.bool false):=hn 91 (by decide);simp +decide (maxDischargeDepth:=200) only[go_sem,Nat.reduceBEq,b0,h91,aO,eq,p0,p1,q1,bq,cq1,cq2];exact hk _ _ (fun d hd=>by cases hd;exact rfl) (Le.refl _)
       . cases ho;have h91:st.t 91= .x (.bool false):=hn 91 (by decide);simp +decide (maxDischargeDepth:=200) only[go_sem,Nat.reduceBEq,b9,h91,aO,eq,p0,p1,q1,bq,cq1,cq2];exact hk _ _ (fun d hd=>by cases hd;exact rfl) (Le.refl _)
       . cases ho;have h100:st.t 100= .sl nl 4 (L.map bB) none:=hn 100 (by decide);have h101:st.t 101= .x (.int .i64 ((i:Nat):Int)):=hn 101 (by decide);have h91:st.t 91= .x (.bool false):=hn 91 (by decide);simp +decide (maxDischargeDepth:=200) only[go_sem,Nat.reduceBEq,h100,h101,h91,aO,eq,p0,p1,q1,bq,cq1,cq2];exact hk _ _ (fun d hd=>by cases hd;exact rfl) (Le.refl _)
       . cases ho;have h102:st.t 102= .ip [.x (.int .i64 x.1.1),.x (.int .i64 x.1.2.1),.x (.int .i64 x.1.2.2),.x (.int .i64 x.2)]:=hn 102 (by decide);have h91:st.t 91= .x (.bool false):=hn 91 (by decide);simp +decide (maxDischargeDepth:=200) only[go_sem,Nat.reduceBEq,h102,h91,aO,eq,p0,p1,q1,bq,cq1,cq2];exact hk _ _ (fun d hd=>by cases hd;exact rfl) (Le.refl _)
       . cases ho;have h103:st.t 103= .ip [.x (.int .i64 x.1.1),.x (.int .i64 x.1.2.1),.x (.int .i64 x.1.2.2),.x (.int .i64 x.2)]:=hn 103 (by decide);have h91:st.t 91= .x (.bool false):=hn 91 (by decide);simp +decide (maxDischargeDepth:=200) only[go_sem,Nat.reduceBEq,h103,h91,aO,eq,p0,p1,q1,bq,cq1,cq2];exact hk _ _ (fun d hd=>by cases hd;exact rfl) (Le.refl _)
       . cases ho;have h99:st.t 99= .x (ai gr):=hn 99 (by decide);have h104:st.t 104= .agg [.x (.int .i64 x.1.1),.x (.int .i64 x.1.2.1),.x (.int .i64 x.1.2.2)]:=hn 104 (by decide);have h91:st.t 91= .x (.bool false):=hn 91 (by decide);simp +decide (maxDischargeDepth:=200) only[go_sem,Nat.reduceBEq,h99,h104,h91,aO,eq,p0,p1,q1,bq,cq1,cq2];exact⟨gr,x.1,_,i+1,_,rfl,hR3,hk (.x (.int .i64 (c x.1))) _ (fun d hd=>by cases hd;exact rfl) (by rw[bj];exact Le.refl _)⟩
       . cases ho;have h98:st.t 98= .x (.int .i64 (c x.1)):=hn 98 (by decide);have h105:st.t 105= .x (.int .i64 (c x.1)):=hn 105 (by decide);have h91:st.t 91= .x (.bool false):=hn 91 (by decide);simp +decide (maxDischargeDepth:=200) only[go_sem,Nat.reduceBEq,h98,h105,h91,aO,eq,p0,p1,q1,bq,cq1,cq2];exact hk _ _ (fun d hd=>by cases hd;exact rfl) (Le.refl _)
       . cases ho;have h91:st.t 91= .x (.bool false):=hn 91 (by decide);have h106:st.t 106= .x (.bool false):=hn 106 (by decide);simp +decide (maxDischargeDepth:=200) only[go_sem,Nat.reduceBEq,h91,h106,aO,eq,p0,p1,q1,bq,cq1,cq2];exact hk _ _ (fun d hd=>by cases hd;exact rfl) (Le.refl _)
       . cases ho;have h107:st.t 107= .x (.bool false):=hn 107 (by decide);simp +decide (maxDischargeDepth:=200) only[go_sem,Nat.reduceBEq,h107,aO,eq,p0,p1,q1,bq,cq1,cq2];exact hk _ _ (fun d hd=>by cases hd;exact rfl) (Le.refl _)
       . cases ho;have h108:st.t 108= .x (.bool false):=hn 108 (by decide);simp +decide (maxDischargeDepth:=200) only[go_sem,Nat.reduceBEq,b6,h108,aO,eq,p0,p1,q1,bq,cq1,cq2];exact hk _ _ (fun d hd=>by cases hd;exact rfl) (Le.refl _)
       . cases ho;have h108:st.t 108= .x (.bool false):=hn 108 (by decide);simp +decide (maxDischargeDepth:=200) only[go_sem,Nat.reduceBEq,b3,bb3,h108,aO,eq,p0,p1,q1,bq,cq1,cq2];exact hk _ _ (fun d hd=>by cases hd;exact rfl) (Le.refl _)
       . cases ho;have h109:st.t 109= .x (ai gf):=hn 109 (by decide);have h110:st.t 110= .agg [.x (.int .i64 s.1),.x (.int .i64 s.2.1),.x (.int .i64 s.2.2)]:=hn 110 (by decide);have h108:st.t 108= .x (.bool false):=hn 108 (by decide);simp +decide (maxDischargeDepth:=200) only[go_sem,Nat.reduceBEq,h109,h110,h108,aO,eq,p0,p1,q1,bq,cq1,cq2];exact⟨gf,s,_,i+1,_,rfl,hDf3,hk (.x (.int .i64 (c s))) _ (fun d hd=>by cases hd;exact rfl) (by rw[bj];exact Le.refl _)⟩
       . cases ho;have h108:st.t 108= .x (.bool false):=hn 108 (by decide);simp +decide (maxDischargeDepth:=200) only[go_sem,Nat.reduceBEq,b8,h108,aO,eq,p0,p1,q1,bq,cq1,cq2];exact hk _ _ (fun d hd=>by cases hd;exact rfl) (Le.refl _)
       . cases ho;have h108:st.t 108= .x (.bool false):=hn 108 (by decide);simp +decide (maxDischargeDepth:=200) only[go_sem,Nat.reduceBEq,b3,bb3,h108,aO,eq,p0,p1,q1,bq,cq1,cq2];exact hk _ _ (fun d hd=>by cases hd;exact rfl) (Le.refl _)
       . cases ho;have h112:st.t 112= .x (ai gr):=hn 112 (by decide);have h113:st.t 113= .agg [.x (.int .i64 s.1),.x (.int .i64 s.2.1),.x (.int .i64 s.2.2)]:=hn 113 (by decide);have h108:st.t 108= .x (.bool false):=hn 108 (by decide);simp +decide (maxDischargeDepth:=200) only[go_sem,Nat.reduceBEq,h112,h113,h108,aO,eq,p0,p1,q1,bq,cq1,cq2];exact⟨gr,s,_,i+1,_,rfl,hR3,hk (.x (.int .i64 (c s))) _ (fun d hd=>by cases hd;exact rfl) (by rw[bj];exact Le.refl _)⟩
       . cases ho;have h111:st.t 111= .x (.int .i64 (c s)):=hn 111 (by decide);have h114:st.t 114= .x (.int .i64 (c s)):=hn 114 (by decide);have h108:st.t 108= .x (.bool false):=hn 108 (by decide);simp +decide (maxDischargeDepth:=200) only[go_sem,Nat.reduceBEq,h111,h114,h108,aO,eq,p0,p1,q1,bq,cq1,cq2];exact hk _ _ (fun d hd=>by cases hd;exact rfl) (Le.refl _)
       . cases ho;have h108:st.t 108= .x (.bool false):=hn 108 (by decide);have h115:st.t 115= .x (.bool false):=hn 115 (by decide);simp +decide (maxDischargeDepth:=200) only[go_sem,Nat.reduceBEq,h108,h115,aO,eq,p0,p1,q1,bq,cq1,cq2];exact hk _ _ (fun d hd=>by cases hd;exact rfl) (Le.refl _)
       . cases ho
     . rintro val hv;refine⟨[(0,.sl nl 4 (L.map bB) none),(3,.ptr 3 0),(6,.x (ai gf)),(7,.x (ai go)),(8,.x (ai gr)),(9,.x (.int .i64 ((i:Nat):Int))),(116,.x (.bool false))],[(3,[.x (.int .i64 s.1),.x (.int .i64 s.2.1),.x (.int .i64 s.2.2)])],?_,?_,?_⟩
       . simp +decide only[go_sem,Nat.reduceBEq]<;>(repeat' first|exact aK (by kernel_rfl)|exact(aL (by kernel_rfl)).trans (hv 116 (by kernel_rfl))|rfl|constructor)
       . simp +decide only[go_sem,Nat.reduceBEq]<;>(repeat' first|rfl|constructor)
       simp +decide (maxDischargeDepth:=200) only[go_sem,Nat.reduceBEq,cu];exact⟨⟨i+1,hil⟩,⟨by simp +decide (maxDischargeDepth:=200) only[go_sem,Nat.reduceBEq],by simp +decide (maxDischargeDepth:=200) only[go_sem,Nat.reduceBEq],c,dV co x.1 1,Ff2,Fo1,Fr3,hDf3,hDo3,hR3,(hcd▸hsf2),hso1,k1,k2,k3⟩,by simp only;omega⟩
theorem pI:gD 3 (FE su EP):=by refine ku wd ?_;intro us r hF;obtain⟨q,rfl,hG⟩:=bX hF;unfold EP at hG;obtain⟨hok,hG⟩:=bm hG;cases hG;exact⟨q,rfl,hok,fun _=>rfl⟩
end Go.Proofs.Ytenmccehpkiamaa
