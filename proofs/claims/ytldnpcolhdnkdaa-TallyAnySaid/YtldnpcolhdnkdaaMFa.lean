/- The reference's fronts: Add. -/
import Derived.Test.YtldnpcolhdnkdaaMFr
namespace Go.Proofs.Ytldnpcolhdnkdaa
set_option linter.unusedSimpArgs false
set_option maxHeartbeats 64000000
set_option maxRecDepth 100000
open Go Go.RowKit
attribute [go_sem] Try.results17
def GrowJ (H Hx:HH) (v:Value) (cs:List Value) (n:Nat):Prop:=RowV Hx v 4 cs∧aB v=n∧(∀y,H y≠none->Hx y=H y)∧∀g,blkOf v=some g->H g=none
theorem GrowJ.start (H:HH):GrowJ H H (.slice none 0 0) [] 0:=⟨.inl ⟨rfl,rfl⟩,rfl,fun _ _=>rfl,fun g e=>by cases e⟩
variable {H:HH} {v:Value} {cs:List Value}
theorem RowV.one {z:Nat} (h:RowV H v z cs):v.oneCell'=true:=by rcases h with⟨_,rfl⟩|⟨g,off,n,cap,cur,ty,rfl,_⟩<;>rfl
theorem ce {P:Program} {t:TypeId} {Hx:HH} {cs':List Value} {n k:Nat} {y:V} {T:V->HH->Prop} (h:GrowJ H Hx v cs n) (ha:vW P t 4=true) (hs:Fg Hx 4 k cs' y) (h1:∀u∈cs',u.oneCell'=true) (hn:n+k<=1000000) (hT:∀v' Hx',GrowJ H Hx' v' (cs++cs') (n+k)->T (.x v') Hx'):Fh P t Hx v y T:=by
 obtain⟨q1,rfl,q3,q4⟩:=h;refine⟨4,k,cs,cs',ha,q1,hs,h1,hn,fun hk=>?_,fun hk v' g ob hb hl hg _ hr=>hT v' _ ⟨hr,hl,fun y hy=>?_,fun g' hg'=>?_⟩⟩
 . subst hk;have hc:cs'=[]:=by
    unfold Fg at hs;split at hs
    . exact hs.2.2
    . obtain⟨_,e,hx⟩:=hs;rw[Qu.1 e.symm] at hx;cases hx;rfl
    . obtain⟨hr,e⟩:=hs;have:=hr.len;rw[e,Q4] at this;exact Qu.1 this
    . exact hs.elim
   exact hT v Hx ⟨by rw[hc,QS];exact q1,rfl,q3,q4⟩
 . refine(ae _ _ fun e=>?_).trans (q3 y hy);subst e;rcases hg with hg|hg
   . exact hy (q4 y hg)
   . rw[q3 y hy] at hg;exact hy hg
 . rw[hb] at hg';cases hg';rcases hg with hg|hg
   . exact q4 g hg
   . cases e:H g with
     |none=>rfl
     |some ob=>rw[q3 g (by rw[e];simp),e] at hg;cases hg
variable {C:List Value} {A:List Ch} {s:aK} {m:Int}
theorem o9 {off:Nat} {B:List Ch} {q:Int} (hb:off+(A++(s,m)::B).length*4<=C.length) (h:(C.drop off).take ((A++(s,m)::B).length*4)=aF (A++(s,m)::B)):
 ((cF C (off+A.length*4+3) [.int .i64 q]).drop off).take ((A++(s,q)::B).length*4)=aF (A++(s,q)::B):=by
 have hlen:(A++(s,m)::B).length=(A++(s,q)::B).length:=by simp
 rw[<-hlen];have hAB:(A++(s,m)::B).length=A.length+1+B.length:=by rw[PP,P5];omega
 rw[jm _ _ _ (by omega),List.drop_set,PS (by omega),List.take_set,h,cO,cO];have e:off+A.length*4+3-off=(aF A).length+3:=by rw[bG];omega
 rw[e,List.set_append_right _ _ (by omega),RT];rfl
variable {u:Value}
theorem pa {j:Nat} (h:j<C.length):(cF C j [u]).length=C.length:=by rw[jm _ _ _ h,RW]
theorem pb {j:Nat} (h:j<C.length):((cF C j [u]).map V.x)[j]?=some (.x u):=by rw[jm _ _ _ h,PF,Sm h];rfl
theorem pd (h:v.oneCell'=true):jV (.x v)=some [v]:=by show(if v.oneCell'=true then (yi []).map (v:: ·) else none)=_;rw[PO h];rfl
theorem mw {L:List Ch} {i:Nat} (hS:eP L) (hi:i<=L.length) (hlt:∀(j:Nat) (x:Ch),j<i->L[j]?=some x->ac x.1 s=true) (hge:∀x,L[i]?=some x->ac x.1 s=false):
 (∀x∈L.take i,ac x.1 s=true)∧((∀x,L[i]?=some x->x.1≠s)->∀x∈L.drop i,ac s x.1=true):=by
 refine⟨fun x hx=>?_,fun hne x hx=>?_⟩
 . obtain⟨j,hj⟩:=Q8.1 hx;rw[P9] at hj;split at hj
   . rename_i h;exact hlt j x h hj
   . cases hj
 . obtain⟨j,hj⟩:=Q8.1 hx;rw[Qm] at hj;have hil:i<L.length:=by have:=(PE.1 hj).1;omega
   have h0:L[i]?=some L[i]:=Io hil;have h1:=g4 (hge _ h0) (hne _ h0);cases j with
   |zero=>rw[iO,h0] at hj;cases hj;exact h1
   |succ j=>rw[eP,Re] at hS;obtain⟨hk,rfl⟩:=PE.1 hj;exact jr h1 (hS i (i+(j+1)) hil hk (by omega))
theorem Fq {B:List Ch} {n:Int} (hS:eP (A++(if m=0 then [] else [(s,m)])++B)) (hA:∀x∈A,ac x.1 s=true) (hB:∀x∈B,ac s x.1=true):
 eP (A++(if m+n=0 then [] else [(s,m+n)])++B)∧∀t,js (bn (A++(if m=0 then [] else [(s,m)])++B)) s n t=bn (A++(if m+n=0 then [] else [(s,m+n)])++B) t:=by
 have hAB:eP (A++B):=by refine List.Pairwise.sublist ?_ hS;rw[QK];exact(List.Sublist.refl A).append (List.sublist_append_right _ B)
 obtain⟨_,h2⟩:=v7 (n:=m) hAB hA hB rfl;obtain⟨h3,h4⟩:=v7 (n:=m+n) hAB hA hB rfl;refine⟨h3,fun t=>?_⟩;rw[h4];have:=h2 t;simp only[js] at this⊢;by_cases ht:t=s
 . simp only[PO ht] at this⊢;rw[this];omega
 . simp only[PS ht] at this⊢;exact this
def HR (p i cap:Nat) (ad:Option Addr) (L:List Ch):Nat->V
 |7=> .x (.int .i64 ((i:Nat):Int))
 |8=> .x (ar p)
 |9=> .x (ar p)
 |10=> .x (ar p)
 |11=> .x (.slice ad L.length cap)
 |12=> .x (.int .i64 ((L.length:Nat):Int))
 |13=> .x (.bool false)
 |14=> .x (.bool false)
 |15=> .x (.tuple #[])
 |16=> .x (.tuple #[])
 |17=> .x (.tuple #[])
 |18=> .x (.tuple #[])
 |19=> .x (.tuple #[])
 |20=> .x (.tuple #[])
 |21=> .x (.tuple #[])
 |22=> .x (.tuple #[])
 |23=> .x (.tuple #[])
 |24=> .x (.tuple #[])
 |25=> .x (.bool false)
 |_=> .undef
def HS (p g off cap i:Nat) (L:List Ch) (x:Ch) (s:aK):Nat->V
 |7=> .x (.int .i64 ((i:Nat):Int))
 |8=> .x (ar p)
 |9=> .x (ar p)
 |10=> .x (ar p)
 |11=> .x (.slice (some ⟨g,off,none⟩) L.length cap)
 |12=> .x (.int .i64 ((L.length:Nat):Int))
 |13=> .x (.bool true)
 |14=> .x (.bool true)
 |15=> .x (ar p)
 |16=> .x (ar p)
 |17=> .x (ar p)
 |18=> .x (.slice (some ⟨g,off,none⟩) L.length cap)
 |19=> .x (.int .i64 ((i:Nat):Int))
 |20=> .x (.pointer (some ⟨g,off+i*4,none⟩))
 |21=> .x (.pointer (some ⟨g,off+i*4,none⟩))
 |22=> .agg [.x (.int .i64 x.1.1),.x (.int .i64 x.1.2.1),.x (.int .i64 x.1.2.2)]
 |23=> .agg [.x (.int .i64 s.1),.x (.int .i64 s.2.1),.x (.int .i64 s.2.2)]
 |24=> .x (.bool (ac x.1 s))
 |25=> .x (.bool (ac x.1 s))
 |_=> .undef
def HT (p i cap:Nat) (ad:Option Addr) (L:List Ch):Nat->V
 |28=> .x (.int .i64 ((i:Nat):Int))
 |29=> .x (ar p)
 |30=> .x (ar p)
 |31=> .x (ar p)
 |32=> .x (.slice ad L.length cap)
 |33=> .x (.int .i64 ((L.length:Nat):Int))
 |34=> .x (.bool true)
 |35=> .x (.bool true)
 |36=> .x (.tuple #[])
 |37=> .x (.tuple #[])
 |38=> .x (.tuple #[])
 |39=> .x (.tuple #[])
 |40=> .x (.tuple #[])
 |41=> .x (.tuple #[])
 |42=> .x (.tuple #[])
 |43=> .x (.tuple #[])
 |44=> .x (.tuple #[])
 |45=> .x (.tuple #[])
 |46=> .x (.bool true)
 |_=> .undef
def HU (p g off cap i:Nat) (L:List Ch) (x:Ch) (s:aK):Nat->V
 |28=> .x (.int .i64 ((i:Nat):Int))
 |29=> .x (ar p)
 |30=> .x (ar p)
 |31=> .x (ar p)
 |32=> .x (.slice (some ⟨g,off,none⟩) L.length cap)
 |33=> .x (.int .i64 ((L.length:Nat):Int))
 |34=> .x (.bool false)
 |35=> .x (.bool false)
 |36=> .x (ar p)
 |37=> .x (ar p)
 |38=> .x (ar p)
 |39=> .x (.slice (some ⟨g,off,none⟩) L.length cap)
 |40=> .x (.int .i64 ((i:Nat):Int))
 |41=> .x (.pointer (some ⟨g,off+i*4,none⟩))
 |42=> .x (.pointer (some ⟨g,off+i*4,none⟩))
 |43=> .agg [.x (.int .i64 x.1.1),.x (.int .i64 x.1.2.1),.x (.int .i64 x.1.2.2)]
 |44=> .agg [.x (.int .i64 s.1),.x (.int .i64 s.2.1),.x (.int .i64 s.2.2)]
 |45=> .x (.bool (!cW x.1 s))
 |46=> .x (.bool (!cW x.1 s))
 |_=> .undef
def Gn (p i cap:Nat) (ad:Option Addr) (L:List Ch) (s:aK):Nat->V
 |47=> .x (ar p)
 |48=> .x (ar p)
 |49=> .x (ar p)
 |50=> .x (ar p)
 |51=> .x (.slice ad L.length cap)
 |52=> .x (.int .i64 ((i:Nat):Int))
 |53=> .x (fG 4 0 i (.slice ad L.length cap))
 |55=> .agg [.x (.int .i64 s.1),.x (.int .i64 s.2.1),.x (.int .i64 s.2.2)]
 |56=> .agg [.x (.int .i64 s.1),.x (.int .i64 s.2.1),.x (.int .i64 s.2.2),.x (.int .i64 0)]
 |57=> .sl false 4 [.agg [.x (.int .i64 s.1),.x (.int .i64 s.2.1),.x (.int .i64 s.2.2),.x (.int .i64 0)]] none
 |59=> .x (ar p)
 |60=> .x (ar p)
 |61=> .x (ar p)
 |62=> .x (.slice ad L.length cap)
 |63=> .x (.int .i64 ((i:Nat):Int))
 |64=> .x (fG 4 i L.length (.slice ad L.length cap))
 |66=> .x (ar p)
 |67=> .x (ar p)
 |_=> .undef
def Cr (p i g2 o2 N cap2:Nat) (m n:Int):Nat->V
 |68=> .x (ar p)
 |69=> .x (ar p)
 |70=> .x (ar p)
 |71=> .x (.slice (some ⟨g2,o2,none⟩) N cap2)
 |72=> .x (.int .i64 ((i:Nat):Int))
 |73=> .x (ar p)
 |74=> .x (ar p)
 |75=> .x (ar p)
 |76=> .x (.slice (some ⟨g2,o2,none⟩) N cap2)
 |77=> .x (.int .i64 ((i:Nat):Int))
 |78=> .x (.pointer (some ⟨g2,o2+i*4,none⟩))
 |79=> .x (.pointer (some ⟨g2,o2+i*4+3,none⟩))
 |80=> .x (.int .i64 m)
 |81=> .x (.int .i64 n)
 |82=> .x (.int .i64 (m+n))
 |83=> .x (.pointer (some ⟨g2,o2+i*4,none⟩))
 |84=> .x (.pointer (some ⟨g2,o2+i*4+3,none⟩))
 |_=> .undef
def Ct (p i g2 o2 N cap2:Nat):Nat->V
 |94=> .x (ar p)
 |95=> .x (ar p)
 |96=> .x (ar p)
 |97=> .x (ar p)
 |98=> .x (.slice (some ⟨g2,o2,none⟩) N cap2)
 |99=> .x (.int .i64 ((i:Nat):Int))
 |100=> .x (fG 4 0 i (.slice (some ⟨g2,o2,none⟩) N cap2))
 |102=> .x (ar p)
 |103=> .x (ar p)
 |104=> .x (ar p)
 |105=> .x (.slice (some ⟨g2,o2,none⟩) N cap2)
 |106=> .x (.int .i64 ((i:Nat):Int))
 |107=> .x (.int .i64 (((i+1):Nat):Int))
 |108=> .x (fG 4 (i+1) N (.slice (some ⟨g2,o2,none⟩) N cap2))
 |110=> .x (ar p)
 |111=> .x (ar p)
 |_=> .undef
theorem Cu : cV (bU [(30,bm)] [] [] (fun _=>false) (fun _=>false)) 17 (Fp RFr):=by
 refine dS (F:={F:=fun _=>none,D:=fun _=>false,any:=fun i=>i==2||i==4||i==5||i==6||i==8,Y:=iZ (uD Try.prog (fun d=>d==54||d==58||d==65||d==101||d==109)) (B4 Try.prog (fun d=>d==53||d==64||d==100||d==108))}) (n:=112) (k:=3) (aP [(30,bm)] [] [] _ _ ⟨mr,trivial⟩ trivial trivial) (by kernel_rfl) (fun f C e=>by cases e) (fun t s C e=>by cases e) Try.func17 rfl (fun a w=>Try.call17 a w) Try.ntmps17 (by decide) (by decide) (by kernel_rfl) ?_ (hY:=bF (o7 (aP [(30,bm)] [] [] _ _ ⟨mr,trivial⟩ trivial trivial) _) (Fk _));rintro us H T ⟨p,s,n,c,k,F,rfl,⟨L,ad,cap,hp,hr,hne,hS,hz,hc,⟨hk0,hk1⟩,rfl⟩,hk2,hsm,⟨hn1,hn2⟩,hT⟩ hdat;clear hdat;refine⟨rfl,?_⟩;have fF:m7 Try.prog 53 0=some 0:=by kernel_rfl
 have fC0:m7 Try.prog 35 0=some 0:=by kernel_rfl
 have fC1:m7 Try.prog 35 1=some 3:=by kernel_rfl
 have zL:Dp Try.prog 28=some 4:=by kernel_rfl
 have aV:vW Try.prog 28 4=true:=by kernel_rfl
 --the end
 have finL:∀(A B:List Ch) (m:Int),(∀x∈A,ac x.1 s=true)->(∀x∈B,ac s x.1=true)->A++(if m=0 then [] else [(s,m)])++B=L->∀(H':HH) (ad':Option Addr) (N' cap':Nat) (L':List Ch),N'=L'.length->H' p=some (rowO [.slice ad' N' cap'] 53)->RowV H' (.slice ad' N' cap') 4 (aF L')->blkOf (.slice ad' N' cap')≠some p->L'=A++(if m+n=0 then [] else [(s,m+n)])++B->
  (∀y,y∉p::(blkOf (.slice ad L.length cap)).toList->H y≠none->H' y=H y)->(∀y,blkOf (.slice ad' N' cap')=some y->y∈p::(blkOf (.slice ad L.length cap)).toList∨H y=none)->T (.tup []) H':=by
  intro A B m hA hB e H' ad' N' cap' L' hN' hp' hr' hne' hL' hf hnw;subst hN';have hSL:=hS;rw[<-e] at hSL;obtain⟨h1,h2⟩:=Fq (n:=n) hSL hA hB;rw[e,<-hL'] at h2;rw[<-hL'] at h1;refine hT H' (p::(blkOf (.slice ad' L'.length cap')).toList) ⟨L',ad',cap',hp',hr',hne',h1,fun x hx=>?_,fun t=>?_,⟨?_,by omega⟩,rfl⟩ hf (fun y hy=>?_)
  . rw [hL'] at hx;rcases PU.1 hx with hx|hx
    . rcases PU.1 hx with hx|hx
      . exact hz x (by rw[<-e];exact Qp _ (Qp _ hx))
      . by_cases h0:m+n=0
        . rw[PO h0] at hx;cases hx
        . rw[PS h0] at hx;rw[PQ.1 hx];exact h0
    . exact hz x (by rw[<-e];exact Rl _ hx)
  . rw[<-h2];unfold js;rw[hc]
  . have e1:=RB List.length e;have e2:=RB List.length hL';simp only[PP] at e1 e2;have e3:(if m+n=0 then ([]:List Ch) else [(s,m+n)]).length<=1:=by split<;>simp
    omega
  . rcases PY.1 hy with rfl|hy
    . exact .inl (PZ ..)
    . exact hnw y (by simpa using hy)
 have c1:=ak hp;have hsmn:∀t,-1152921504606846976<=bn L t∧bn L t<=1152921504606846976:=fun t=>by
  have:=hsm t
  rwa [hc] at this
 simp +decide (maxDischargeDepth:=200) only[go_sem,Nat.reduceBEq,aJ];refine bP (X:={i:Nat//i<=L.length∧∀(j:Nat) (x:Ch),j<i->L[j]?=some x->ac x.1 s=true}) (fun i=>[(0,.x (ar p)),(2,.x (.int .i64 n)),(4,.ptr 4 0),(6,.x (.int .i64 ((i.1:Nat):Int)))]) (fun _=>[(4,[.x (.int .i64 s.1),.x (.int .i64 s.2.1),.x (.int .i64 s.2.2)])]) (fun _ Hx=>H=Hx) (fun i=>L.length-i.1) ⟨0,PH _,fun j x hj=>absurd hj (Ro _)⟩ (by simp +decide only[go_sem,Nat.reduceBEq,P3]<;>(repeat' first|rfl|constructor)) (by simp +decide only[go_sem,Nat.reduceBEq,P3]<;>(repeat' first|rfl|constructor)) rfl ?_;rintro⟨i,hi,hlt⟩ H1 rfl;simp only at hi hlt⊢;have ci:=bh (i:=i) (by omega);by_cases hil:i<L.length
 case neg =>
  have d0:decide ((i:Int)<(L.length:Int))=false:=PC (by omega);have d1:decide ((i:Int)=(L.length:Int))=true:=PD (by omega);have hge:∀x,L[i]?=some x->ac x.1 s=false:=fun x hx=>absurd (PE.1 hx).1 hil
  have hne2:∀x,L[i]?=some x->x.1≠s:=fun x hx=>absurd (PE.1 hx).1 hil
  simp +decide (maxDischargeDepth:=200) only[go_sem,Nat.reduceBEq,c1];refine aU (fun k=>match k with|2=>[8]|3=>[9]|4=>[10]|5=>[11]|6=>[7,12]|7=>[13]|8=>[14]|9=>[15,14]|10=>[16,14]|11=>[17,14]|12=>[14]|13=>[18,19,14]|14=>[20,14]|15=>[21,14]|16=>[14]|17=>[22,23,14]|18=>[14,24]|_=>[]) [] (fun k=>match k with|_=>0) (fun _ Hx _=>H=Hx) (HR p i cap ad L) (by kernel_rfl) (by kernel_rfl) (by kernel_rfl) rfl ?_ ?_ ?_
  . rintro j i' o Hx val st ho hW hj hJ hv hn hb hbb K' hk;have b0:st.t 0= .x (ar p):=hb 0 (by kernel_rfl);have b4:st.t 4= .ptr 4 0:=hb 4 (by kernel_rfl);have b6:st.t 6= .x (.int .i64 ((i:Nat):Int)):=hb 6 (by kernel_rfl);have bb4:st.b 4=some ([.x (.int .i64 s.1),.x (.int .i64 s.2.1),.x (.int .i64 s.2.2)]):=(QP hbb 4).trans (by kernel_rfl);clear hb hbb;subst hJ;rcases i' with _|_|_|_|_|_|_|_|_|_|_|_|_|_|_|_|_|_|_|i'
    . cases ho;simp +decide (maxDischargeDepth:=200) only[go_sem,Nat.reduceBEq,b6,fF,fC0,fC1,zL,iO,eq,io,c1,d0];exact hk _ (Le.refl _)
    . cases ho;simp +decide (maxDischargeDepth:=200) only[go_sem,Nat.reduceBEq,b0,fF,fC0,fC1,zL,iO,eq,io,c1,d0];exact hk _ (Le.refl _)
    . cases ho;have h8:st.t 8= .x (ar p):=(hn 8 (by decide)).trans (hv 8 (by kernel_rfl));simp +decide (maxDischargeDepth:=200) only[go_sem,Nat.reduceBEq,h8,fF,fC0,fC1,zL,iO,eq,io,c1,d0];exact hk _ (Le.refl _)
    . cases ho;have h9:st.t 9= .x (ar p):=(hn 9 (by decide)).trans (hv 9 (by kernel_rfl));simp +decide (maxDischargeDepth:=200) only[go_sem,Nat.reduceBEq,h9,fF,fC0,fC1,zL,iO,eq,io,c1,d0];exact hk _ (Le.refl _)
    . cases ho;have h10:st.t 10= .x (ar p):=(hn 10 (by decide)).trans (hv 10 (by kernel_rfl));simp +decide (maxDischargeDepth:=200) only[go_sem,Nat.reduceBEq,h10,fF,fC0,fC1,zL,iO,eq,io,c1,d0];exact hk _ (Le.refl _)
    . cases ho;have h11:st.t 11= .x (.slice ad L.length cap):=(hn 11 (by decide)).trans (hv 11 (by kernel_rfl));simp +decide (maxDischargeDepth:=200) only[go_sem,Nat.reduceBEq,h11,fF,fC0,fC1,zL,iO,eq,io,c1,d0];exact hk _ (Le.refl _)
    . cases ho;have h7:st.t 7= .x (.int .i64 ((i:Nat):Int)):=(hn 7 (by decide)).trans (hv 7 (by kernel_rfl));have h12:st.t 12= .x (.int .i64 ((L.length:Nat):Int)):=(hn 12 (by decide)).trans (hv 12 (by kernel_rfl));simp +decide (maxDischargeDepth:=200) only[go_sem,Nat.reduceBEq,h7,h12,fF,fC0,fC1,zL,iO,eq,io,c1,d0];exact hk _ (Le.refl _)
    . cases ho;have h13:st.t 13= .x (.bool false):=(hn 13 (by decide)).trans (hv 13 (by kernel_rfl));simp +decide (maxDischargeDepth:=200) only[go_sem,Nat.reduceBEq,h13,fF,fC0,fC1,zL,iO,eq,io,c1,d0];exact hk _ (Le.refl _)
    . cases ho;have h14:st.t 14= .x (.bool false):=(hn 14 (by decide)).trans (hv 14 (by kernel_rfl));simp +decide (maxDischargeDepth:=200) only[go_sem,Nat.reduceBEq,b0,h14,fF,fC0,fC1,zL,iO,eq,io,c1,d0];exact hk _ (Le.refl _)
    . cases ho;have h15:st.t 15= .x (.tuple #[]):=(hn 15 (by decide)).trans (hv 15 (by kernel_rfl));have h14:st.t 14= .x (.bool false):=(hn 14 (by decide)).trans (hv 14 (by kernel_rfl));simp +decide (maxDischargeDepth:=200) only[go_sem,Nat.reduceBEq,h15,h14,fF,fC0,fC1,zL,iO,eq,io,c1,d0];exact hk _ (Le.refl _)
    . cases ho;have h16:st.t 16= .x (.tuple #[]):=(hn 16 (by decide)).trans (hv 16 (by kernel_rfl));have h14:st.t 14= .x (.bool false):=(hn 14 (by decide)).trans (hv 14 (by kernel_rfl));simp +decide (maxDischargeDepth:=200) only[go_sem,Nat.reduceBEq,h16,h14,fF,fC0,fC1,zL,iO,eq,io,c1,d0];exact hk _ (Le.refl _)
    . cases ho;have h17:st.t 17= .x (.tuple #[]):=(hn 17 (by decide)).trans (hv 17 (by kernel_rfl));have h14:st.t 14= .x (.bool false):=(hn 14 (by decide)).trans (hv 14 (by kernel_rfl));simp +decide (maxDischargeDepth:=200) only[go_sem,Nat.reduceBEq,h17,h14,fF,fC0,fC1,zL,iO,eq,io,c1,d0];exact hk _ (Le.refl _)
    . cases ho;have h14:st.t 14= .x (.bool false):=(hn 14 (by decide)).trans (hv 14 (by kernel_rfl));simp +decide (maxDischargeDepth:=200) only[go_sem,Nat.reduceBEq,b6,h14,fF,fC0,fC1,zL,iO,eq,io,c1,d0];exact hk _ (Le.refl _)
    . cases ho;have h18:st.t 18= .x (.tuple #[]):=(hn 18 (by decide)).trans (hv 18 (by kernel_rfl));have h19:st.t 19= .x (.tuple #[]):=(hn 19 (by decide)).trans (hv 19 (by kernel_rfl));have h14:st.t 14= .x (.bool false):=(hn 14 (by decide)).trans (hv 14 (by kernel_rfl));simp +decide (maxDischargeDepth:=200) only[go_sem,Nat.reduceBEq,h18,h19,h14,fF,fC0,fC1,zL,iO,eq,io,c1,d0];exact hk _ (Le.refl _)
    . cases ho;have h20:st.t 20= .x (.tuple #[]):=(hn 20 (by decide)).trans (hv 20 (by kernel_rfl));have h14:st.t 14= .x (.bool false):=(hn 14 (by decide)).trans (hv 14 (by kernel_rfl));simp +decide (maxDischargeDepth:=200) only[go_sem,Nat.reduceBEq,h20,h14,fF,fC0,fC1,zL,iO,eq,io,c1,d0];exact hk _ (Le.refl _)
    . cases ho;have h21:st.t 21= .x (.tuple #[]):=(hn 21 (by decide)).trans (hv 21 (by kernel_rfl));have h14:st.t 14= .x (.bool false):=(hn 14 (by decide)).trans (hv 14 (by kernel_rfl));simp +decide (maxDischargeDepth:=200) only[go_sem,Nat.reduceBEq,h21,h14,fF,fC0,fC1,zL,iO,eq,io,c1,d0];exact hk _ (Le.refl _)
    . cases ho;have h14:st.t 14= .x (.bool false):=(hn 14 (by decide)).trans (hv 14 (by kernel_rfl));simp +decide (maxDischargeDepth:=200) only[go_sem,Nat.reduceBEq,b4,bb4,h14,fF,fC0,fC1,zL,iO,eq,io,c1,d0];exact hk _ (Le.refl _)
    . cases ho;have h22:st.t 22= .x (.tuple #[]):=(hn 22 (by decide)).trans (hv 22 (by kernel_rfl));have h23:st.t 23= .x (.tuple #[]):=(hn 23 (by decide)).trans (hv 23 (by kernel_rfl));have h14:st.t 14= .x (.bool false):=(hn 14 (by decide)).trans (hv 14 (by kernel_rfl));simp +decide (maxDischargeDepth:=200) only[go_sem,Nat.reduceBEq,h22,h23,h14,fF,fC0,fC1,zL,iO,eq,io,c1,d0];exact hk _ (Le.refl _)
    . cases ho;have h14:st.t 14= .x (.bool false):=(hn 14 (by decide)).trans (hv 14 (by kernel_rfl));have h24:st.t 24= .x (.tuple #[]):=(hn 24 (by decide)).trans (hv 24 (by kernel_rfl));simp +decide (maxDischargeDepth:=200) only[go_sem,Nat.reduceBEq,h14,h24,fF,fC0,fC1,zL,iO,eq,io,c1,d0];exact hk _ (Le.refl _)
    . cases ho
  . rintro j i' o Hx val st hj ho hJ hv hn hb hbb K' hk;have b0:st.t 0= .x (ar p):=hb 0 (by kernel_rfl);have b4:st.t 4= .ptr 4 0:=hb 4 (by kernel_rfl);have b6:st.t 6= .x (.int .i64 ((i:Nat):Int)):=hb 6 (by kernel_rfl);have bb4:st.b 4=some ([.x (.int .i64 s.1),.x (.int .i64 s.2.1),.x (.int .i64 s.2.2)]):=(QP hbb 4).trans (by kernel_rfl);clear hb hbb;rcases j with j
    . cases hj
  . rintro Hx val hJ hv;refine⟨[(0,.x (ar p)),(2,.x (.int .i64 n)),(4,.ptr 4 0),(6,.x (.int .i64 ((i:Nat):Int))),(25,.x (.bool false))],[(4,[.x (.int .i64 s.1),.x (.int .i64 s.2.1),.x (.int .i64 s.2.2)])],?_,?_,?_⟩
    . simp +decide only[go_sem,Nat.reduceBEq]<;>(repeat' first|exact bd (by kernel_rfl)|exact(be (by kernel_rfl)).trans (hv _ (by kernel_rfl))|rfl|constructor)
    . simp +decide only[go_sem,Nat.reduceBEq]<;>(repeat' first|rfl|constructor)
    subst hJ;simp +decide (maxDischargeDepth:=200) only[go_sem,Nat.reduceBEq];refine aU (fun k=>match k with|2=>[29]|3=>[30]|4=>[31]|5=>[32]|6=>[28,33]|7=>[34]|8=>[35]|9=>[36,35]|10=>[37,35]|11=>[38,35]|12=>[35]|13=>[39,40,35]|14=>[41,35]|15=>[42,35]|16=>[35]|17=>[43,44,35]|18=>[35,45]|_=>[]) [] (fun k=>match k with|_=>0) (fun _ Hx _=>H=Hx) (HT p i cap ad L) (by kernel_rfl) (by kernel_rfl) (by kernel_rfl) rfl ?_ ?_ ?_
    . rintro j i' o Hx val st ho hW hj hJ hv hn hb hbb K' hk;have b0:st.t 0= .x (ar p):=hb 0 (by kernel_rfl);have b4:st.t 4= .ptr 4 0:=hb 4 (by kernel_rfl);have b6:st.t 6= .x (.int .i64 ((i:Nat):Int)):=hb 6 (by kernel_rfl);have bb4:st.b 4=some ([.x (.int .i64 s.1),.x (.int .i64 s.2.1),.x (.int .i64 s.2.2)]):=(QP hbb 4).trans (by kernel_rfl);clear hb hbb;subst hJ;rcases i' with _|_|_|_|_|_|_|_|_|_|_|_|_|_|_|_|_|_|_|i'
      . cases ho;simp +decide (maxDischargeDepth:=200) only[go_sem,Nat.reduceBEq,b6,fF,fC0,fC1,zL,iO,eq,io,c1,d1];exact hk _ (Le.refl _)
      . cases ho;simp +decide (maxDischargeDepth:=200) only[go_sem,Nat.reduceBEq,b0,fF,fC0,fC1,zL,iO,eq,io,c1,d1];exact hk _ (Le.refl _)
      . cases ho;have h29:st.t 29= .x (ar p):=(hn 29 (by decide)).trans (hv 29 (by kernel_rfl));simp +decide (maxDischargeDepth:=200) only[go_sem,Nat.reduceBEq,h29,fF,fC0,fC1,zL,iO,eq,io,c1,d1];exact hk _ (Le.refl _)
      . cases ho;have h30:st.t 30= .x (ar p):=(hn 30 (by decide)).trans (hv 30 (by kernel_rfl));simp +decide (maxDischargeDepth:=200) only[go_sem,Nat.reduceBEq,h30,fF,fC0,fC1,zL,iO,eq,io,c1,d1];exact hk _ (Le.refl _)
      . cases ho;have h31:st.t 31= .x (ar p):=(hn 31 (by decide)).trans (hv 31 (by kernel_rfl));simp +decide (maxDischargeDepth:=200) only[go_sem,Nat.reduceBEq,h31,fF,fC0,fC1,zL,iO,eq,io,c1,d1];exact hk _ (Le.refl _)
      . cases ho;have h32:st.t 32= .x (.slice ad L.length cap):=(hn 32 (by decide)).trans (hv 32 (by kernel_rfl));simp +decide (maxDischargeDepth:=200) only[go_sem,Nat.reduceBEq,h32,fF,fC0,fC1,zL,iO,eq,io,c1,d1];exact hk _ (Le.refl _)
      . cases ho;have h28:st.t 28= .x (.int .i64 ((i:Nat):Int)):=(hn 28 (by decide)).trans (hv 28 (by kernel_rfl));have h33:st.t 33= .x (.int .i64 ((L.length:Nat):Int)):=(hn 33 (by decide)).trans (hv 33 (by kernel_rfl));simp +decide (maxDischargeDepth:=200) only[go_sem,Nat.reduceBEq,h28,h33,fF,fC0,fC1,zL,iO,eq,io,c1,d1];exact hk _ (Le.refl _)
      . cases ho;have h34:st.t 34= .x (.bool true):=(hn 34 (by decide)).trans (hv 34 (by kernel_rfl));simp +decide (maxDischargeDepth:=200) only[go_sem,Nat.reduceBEq,h34,fF,fC0,fC1,zL,iO,eq,io,c1,d1];exact hk _ (Le.refl _)
      . cases ho;have h35:st.t 35= .x (.bool true):=(hn 35 (by decide)).trans (hv 35 (by kernel_rfl));simp +decide (maxDischargeDepth:=200) only[go_sem,Nat.reduceBEq,b0,h35,fF,fC0,fC1,zL,iO,eq,io,c1,d1];exact hk _ (Le.refl _)
      . cases ho;have h36:st.t 36= .x (.tuple #[]):=(hn 36 (by decide)).trans (hv 36 (by kernel_rfl));have h35:st.t 35= .x (.bool true):=(hn 35 (by decide)).trans (hv 35 (by kernel_rfl));simp +decide (maxDischargeDepth:=200) only[go_sem,Nat.reduceBEq,h36,h35,fF,fC0,fC1,zL,iO,eq,io,c1,d1];exact hk _ (Le.refl _)
      . cases ho;have h37:st.t 37= .x (.tuple #[]):=(hn 37 (by decide)).trans (hv 37 (by kernel_rfl));have h35:st.t 35= .x (.bool true):=(hn 35 (by decide)).trans (hv 35 (by kernel_rfl));simp +decide (maxDischargeDepth:=200) only[go_sem,Nat.reduceBEq,h37,h35,fF,fC0,fC1,zL,iO,eq,io,c1,d1];exact hk _ (Le.refl _)
      . cases ho;have h38:st.t 38= .x (.tuple #[]):=(hn 38 (by decide)).trans (hv 38 (by kernel_rfl));have h35:st.t 35= .x (.bool true):=(hn 35 (by decide)).trans (hv 35 (by kernel_rfl));simp +decide (maxDischargeDepth:=200) only[go_sem,Nat.reduceBEq,h38,h35,fF,fC0,fC1,zL,iO,eq,io,c1,d1];exact hk _ (Le.refl _)
      . cases ho;have h35:st.t 35= .x (.bool true):=(hn 35 (by decide)).trans (hv 35 (by kernel_rfl));simp +decide (maxDischargeDepth:=200) only[go_sem,Nat.reduceBEq,b6,h35,fF,fC0,fC1,zL,iO,eq,io,c1,d1];exact hk _ (Le.refl _)
      . cases ho;have h39:st.t 39= .x (.tuple #[]):=(hn 39 (by decide)).trans (hv 39 (by kernel_rfl));have h40:st.t 40= .x (.tuple #[]):=(hn 40 (by decide)).trans (hv 40 (by kernel_rfl));have h35:st.t 35= .x (.bool true):=(hn 35 (by decide)).trans (hv 35 (by kernel_rfl));simp +decide (maxDischargeDepth:=200) only[go_sem,Nat.reduceBEq,h39,h40,h35,fF,fC0,fC1,zL,iO,eq,io,c1,d1];exact hk _ (Le.refl _)
      . cases ho;have h41:st.t 41= .x (.tuple #[]):=(hn 41 (by decide)).trans (hv 41 (by kernel_rfl));have h35:st.t 35= .x (.bool true):=(hn 35 (by decide)).trans (hv 35 (by kernel_rfl));simp +decide (maxDischargeDepth:=200) only[go_sem,Nat.reduceBEq,h41,h35,fF,fC0,fC1,zL,iO,eq,io,c1,d1];exact hk _ (Le.refl _)
      . cases ho;have h42:st.t 42= .x (.tuple #[]):=(hn 42 (by decide)).trans (hv 42 (by kernel_rfl));have h35:st.t 35= .x (.bool true):=(hn 35 (by decide)).trans (hv 35 (by kernel_rfl));simp +decide (maxDischargeDepth:=200) only[go_sem,Nat.reduceBEq,h42,h35,fF,fC0,fC1,zL,iO,eq,io,c1,d1];exact hk _ (Le.refl _)
      . cases ho;have h35:st.t 35= .x (.bool true):=(hn 35 (by decide)).trans (hv 35 (by kernel_rfl));simp +decide (maxDischargeDepth:=200) only[go_sem,Nat.reduceBEq,b4,bb4,h35,fF,fC0,fC1,zL,iO,eq,io,c1,d1];exact hk _ (Le.refl _)
      . cases ho;have h43:st.t 43= .x (.tuple #[]):=(hn 43 (by decide)).trans (hv 43 (by kernel_rfl));have h44:st.t 44= .x (.tuple #[]):=(hn 44 (by decide)).trans (hv 44 (by kernel_rfl));have h35:st.t 35= .x (.bool true):=(hn 35 (by decide)).trans (hv 35 (by kernel_rfl));simp +decide (maxDischargeDepth:=200) only[go_sem,Nat.reduceBEq,h43,h44,h35,fF,fC0,fC1,zL,iO,eq,io,c1,d1];exact hk _ (Le.refl _)
      . cases ho;have h35:st.t 35= .x (.bool true):=(hn 35 (by decide)).trans (hv 35 (by kernel_rfl));have h45:st.t 45= .x (.tuple #[]):=(hn 45 (by decide)).trans (hv 45 (by kernel_rfl));simp +decide (maxDischargeDepth:=200) only[go_sem,Nat.reduceBEq,h35,h45,fF,fC0,fC1,zL,iO,eq,io,c1,d1];exact hk _ (Le.refl _)
      . cases ho
    . rintro j i' o Hx val st hj ho hJ hv hn hb hbb K' hk;have b0:st.t 0= .x (ar p):=hb 0 (by kernel_rfl);have b4:st.t 4= .ptr 4 0:=hb 4 (by kernel_rfl);have b6:st.t 6= .x (.int .i64 ((i:Nat):Int)):=hb 6 (by kernel_rfl);have bb4:st.b 4=some ([.x (.int .i64 s.1),.x (.int .i64 s.2.1),.x (.int .i64 s.2.2)]):=(QP hbb 4).trans (by kernel_rfl);clear hb hbb;rcases j with j
      . cases hj
    . rintro Hx val hJ hv;refine⟨[(0,.x (ar p)),(2,.x (.int .i64 n)),(4,.ptr 4 0),(6,.x (.int .i64 ((i:Nat):Int))),(46,.x (.bool true))],[(4,[.x (.int .i64 s.1),.x (.int .i64 s.2.1),.x (.int .i64 s.2.2)])],?_,?_,?_⟩
      . simp +decide only[go_sem,Nat.reduceBEq]<;>(repeat' first|exact bd (by kernel_rfl)|exact(be (by kernel_rfl)).trans (hv _ (by kernel_rfl))|rfl|constructor)
      . simp +decide only[go_sem,Nat.reduceBEq]<;>(repeat' first|rfl|constructor)
      subst hJ;simp +decide (maxDischargeDepth:=200) only[go_sem,Nat.reduceBEq];obtain⟨hpa,hpb⟩:=mw hS hi hlt hge;have hpb:=hpb hne2;have hex:(∃cs,RowV H (.slice ad L.length cap) 4 cs):=⟨_,hr⟩;have hcut1:=hr.cut (l:=0) (h:=i) (PH _) hi;have hcut2:=hr.cut (l:=i) (h:=L.length) hi (PB _);rw[Q4,Rm,fI] at hcut1;rw[Qb (by rw[bG];exact PB _),eK] at hcut2;have u0:(0:Int)<=(i:Int):=by omega
      have hon:∀gq,blkOf (.slice ad L.length cap)=some gq->H gq≠none:=fun gq hg=>by obtain⟨cur,ty,e⟩:=hr.blk hg;rw[e];simp
      have jf:∀(j:Nat) (Hx:HH) (val:Nat->V),j<=3->(fun j Hx val=>match j with|0=>GrowJ H Hx (.slice none 0 0) [] 0|1=>∃v,val 54= .x v∧GrowJ H Hx v (aF (L.take i)) i|2=>∃v,val 58= .x v∧GrowJ H Hx v (aF (L.take i++[(s,0)])) (i+1)|3=>∃v,val 65= .x v∧GrowJ H Hx v (aF (L.take i++(s,0)::L.drop i)) (L.length+1)|_=>∃v H4,GrowJ H H4 v (aF (L.take i++(s,0)::L.drop i)) (L.length+1)∧Hx=aw H4 p (some (rowO [v] 53))) j Hx val->∀y,H y≠none->Hx y=H y:=fun j Hx val hj hJ=>by
       rcases j with _|_|_|_|j
       . exact hJ.2.2.1
       . obtain⟨v,_,h⟩:=hJ;exact h.2.2.1
       . obtain⟨v,_,h⟩:=hJ;exact h.2.2.1
       . obtain⟨v,_,h⟩:=hJ;exact h.2.2.1
       . omega
      refine aU (fun k=>match k with|2=>[48]|3=>[49]|4=>[50]|6=>[51,52]|7=>[53]|9=>[55]|10=>[56]|11=>[54,57]|13=>[59]|14=>[60]|15=>[61]|17=>[62,63]|18=>[58,64]|19=>[47]|20=>[66]|21=>[67,65]|_=>[]) [7,11,18,21] (fun k=>match k with|0=>3|1=>0|2=>0|3=>0|4=>0|5=>0|6=>0|8=>1|9=>1|10=>1|12=>2|13=>2|14=>2|15=>2|16=>2|17=>2|19=>3|20=>3|_=>4) (fun j Hx val=>match j with|0=>GrowJ H Hx (.slice none 0 0) [] 0|1=>∃v,val 54= .x v∧GrowJ H Hx v (aF (L.take i)) i|2=>∃v,val 58= .x v∧GrowJ H Hx v (aF (L.take i++[(s,0)])) (i+1)|3=>∃v,val 65= .x v∧GrowJ H Hx v (aF (L.take i++(s,0)::L.drop i)) (L.length+1)|_=>∃v H4,GrowJ H H4 v (aF (L.take i++(s,0)::L.drop i)) (L.length+1)∧Hx=aw H4 p (some (rowO [v] 53))) (Gn p i cap ad L s) (by kernel_rfl) (by kernel_rfl) (by kernel_rfl) (GrowJ.start H) ?_ ?_ ?_
      . rintro j i' o Hx val st ho hW hj hJ hv hn hb hbb K' hk;have b0:st.t 0= .x (ar p):=hb 0 (by kernel_rfl);have b4:st.t 4= .ptr 4 0:=hb 4 (by kernel_rfl);have b6:st.t 6= .x (.int .i64 ((i:Nat):Int)):=hb 6 (by kernel_rfl);have bb4:st.b 4=some ([.x (.int .i64 s.1),.x (.int .i64 s.2.1),.x (.int .i64 s.2.2)]):=(QP hbb 4).trans (by kernel_rfl);clear hb hbb;rcases i' with _|_|_|_|_|_|_|_|_|_|_|_|_|_|_|_|_|_|_|_|_|_|i'
        . cases ho;have hf:=jf _ _ _ (tl hj (by decide)) hJ;have c1:au Hx p=some ([(.slice ad L.length cap)],53):=ak (by rw[hf p (by rw[hp];simp)];exact hp);have hex:(∃cs,RowV Hx (.slice ad L.length cap) 4 cs):=⟨_,hr.to (fun gq hg=>hf gq (hon gq hg))⟩;simp +decide (maxDischargeDepth:=200) only[go_sem,Nat.reduceBEq,b0,fF,fC0,fC1,zL,iO,eq,io,c1,hex,u0,PH,hi,aB,PB];exact hk _ (Le.refl _)
        . cases ho;have hf:=jf _ _ _ (tl hj (by decide)) hJ;have c1:au Hx p=some ([(.slice ad L.length cap)],53):=ak (by rw[hf p (by rw[hp];simp)];exact hp);have hex:(∃cs,RowV Hx (.slice ad L.length cap) 4 cs):=⟨_,hr.to (fun gq hg=>hf gq (hon gq hg))⟩;simp +decide (maxDischargeDepth:=200) only[go_sem,Nat.reduceBEq,b0,fF,fC0,fC1,zL,iO,eq,io,c1,hex,u0,PH,hi,aB,PB];exact hk _ (Le.refl _)
        . cases ho;have h48:st.t 48= .x (ar p):=(hn 48 (by decide)).trans (hv 48 (by kernel_rfl));have hf:=jf _ _ _ (tl hj (by decide)) hJ;have c1:au Hx p=some ([(.slice ad L.length cap)],53):=ak (by rw[hf p (by rw[hp];simp)];exact hp);have hex:(∃cs,RowV Hx (.slice ad L.length cap) 4 cs):=⟨_,hr.to (fun gq hg=>hf gq (hon gq hg))⟩;simp +decide (maxDischargeDepth:=200) only[go_sem,Nat.reduceBEq,h48,fF,fC0,fC1,zL,iO,eq,io,c1,hex,u0,PH,hi,aB,PB];exact hk _ (Le.refl _)
        . cases ho;have h49:st.t 49= .x (ar p):=(hn 49 (by decide)).trans (hv 49 (by kernel_rfl));have hf:=jf _ _ _ (tl hj (by decide)) hJ;have c1:au Hx p=some ([(.slice ad L.length cap)],53):=ak (by rw[hf p (by rw[hp];simp)];exact hp);have hex:(∃cs,RowV Hx (.slice ad L.length cap) 4 cs):=⟨_,hr.to (fun gq hg=>hf gq (hon gq hg))⟩;simp +decide (maxDischargeDepth:=200) only[go_sem,Nat.reduceBEq,h49,fF,fC0,fC1,zL,iO,eq,io,c1,hex,u0,PH,hi,aB,PB];exact hk _ (Le.refl _)
        . cases ho;have h50:st.t 50= .x (ar p):=(hn 50 (by decide)).trans (hv 50 (by kernel_rfl));have hf:=jf _ _ _ (tl hj (by decide)) hJ;have c1:au Hx p=some ([(.slice ad L.length cap)],53):=ak (by rw[hf p (by rw[hp];simp)];exact hp);have hex:(∃cs,RowV Hx (.slice ad L.length cap) 4 cs):=⟨_,hr.to (fun gq hg=>hf gq (hon gq hg))⟩;simp +decide (maxDischargeDepth:=200) only[go_sem,Nat.reduceBEq,h50,fF,fC0,fC1,zL,iO,eq,io,c1,hex,u0,PH,hi,aB,PB];exact hk _ (Le.refl _)
        . cases ho;have hf:=jf _ _ _ (tl hj (by decide)) hJ;have c1:au Hx p=some ([(.slice ad L.length cap)],53):=ak (by rw[hf p (by rw[hp];simp)];exact hp);have hex:(∃cs,RowV Hx (.slice ad L.length cap) 4 cs):=⟨_,hr.to (fun gq hg=>hf gq (hon gq hg))⟩;simp +decide (maxDischargeDepth:=200) only[go_sem,Nat.reduceBEq,b6,fF,fC0,fC1,zL,iO,eq,io,c1,hex,u0,PH,hi,aB,PB];exact hk _ (Le.refl _)
        . cases ho;have h51:st.t 51= .x (.slice ad L.length cap):=(hn 51 (by decide)).trans (hv 51 (by kernel_rfl));have h52:st.t 52= .x (.int .i64 ((i:Nat):Int)):=(hn 52 (by decide)).trans (hv 52 (by kernel_rfl));have hf:=jf _ _ _ (tl hj (by decide)) hJ;have c1:au Hx p=some ([(.slice ad L.length cap)],53):=ak (by rw[hf p (by rw[hp];simp)];exact hp);have hex:(∃cs,RowV Hx (.slice ad L.length cap) 4 cs):=⟨_,hr.to (fun gq hg=>hf gq (hon gq hg))⟩;simp +decide (maxDischargeDepth:=200) only[go_sem,Nat.reduceBEq,h51,h52,fF,fC0,fC1,zL,iO,eq,io,c1,hex,u0,PH,hi,aB,PB];exact hk _ (Le.refl _)
        . cases hW
        . cases ho;have hf:=jf _ _ _ (tl hj (by decide)) hJ;have c1:au Hx p=some ([(.slice ad L.length cap)],53):=ak (by rw[hf p (by rw[hp];simp)];exact hp);have hex:(∃cs,RowV Hx (.slice ad L.length cap) 4 cs):=⟨_,hr.to (fun gq hg=>hf gq (hon gq hg))⟩;simp +decide (maxDischargeDepth:=200) only[go_sem,Nat.reduceBEq,b4,bb4,fF,fC0,fC1,zL,iO,eq,io,c1,hex,u0,PH,hi,aB,PB];exact hk _ (Le.refl _)
        . cases ho;have h55:st.t 55= .agg [.x (.int .i64 s.1),.x (.int .i64 s.2.1),.x (.int .i64 s.2.2)]:=(hn 55 (by decide)).trans (hv 55 (by kernel_rfl));have hf:=jf _ _ _ (tl hj (by decide)) hJ;have c1:au Hx p=some ([(.slice ad L.length cap)],53):=ak (by rw[hf p (by rw[hp];simp)];exact hp);have hex:(∃cs,RowV Hx (.slice ad L.length cap) 4 cs):=⟨_,hr.to (fun gq hg=>hf gq (hon gq hg))⟩;simp +decide (maxDischargeDepth:=200) only[go_sem,Nat.reduceBEq,h55,fF,fC0,fC1,zL,iO,eq,io,c1,hex,u0,PH,hi,aB,PB];exact hk _ (Le.refl _)
        . cases ho;have h56:st.t 56= .agg [.x (.int .i64 s.1),.x (.int .i64 s.2.1),.x (.int .i64 s.2.2),.x (.int .i64 0)]:=(hn 56 (by decide)).trans (hv 56 (by kernel_rfl));have hf:=jf _ _ _ (tl hj (by decide)) hJ;have c1:au Hx p=some ([(.slice ad L.length cap)],53):=ak (by rw[hf p (by rw[hp];simp)];exact hp);have hex:(∃cs,RowV Hx (.slice ad L.length cap) 4 cs):=⟨_,hr.to (fun gq hg=>hf gq (hon gq hg))⟩;simp +decide (maxDischargeDepth:=200) only[go_sem,Nat.reduceBEq,h56,fF,fC0,fC1,zL,iO,eq,io,c1,hex,u0,PH,hi,aB,PB];exact hk _ (Le.refl _)
        . cases hW
        . cases ho;have hf:=jf _ _ _ (tl hj (by decide)) hJ;have c1:au Hx p=some ([(.slice ad L.length cap)],53):=ak (by rw[hf p (by rw[hp];simp)];exact hp);have hex:(∃cs,RowV Hx (.slice ad L.length cap) 4 cs):=⟨_,hr.to (fun gq hg=>hf gq (hon gq hg))⟩;simp +decide (maxDischargeDepth:=200) only[go_sem,Nat.reduceBEq,b0,fF,fC0,fC1,zL,iO,eq,io,c1,hex,u0,PH,hi,aB,PB];exact hk _ (Le.refl _)
        . cases ho;have h59:st.t 59= .x (ar p):=(hn 59 (by decide)).trans (hv 59 (by kernel_rfl));have hf:=jf _ _ _ (tl hj (by decide)) hJ;have c1:au Hx p=some ([(.slice ad L.length cap)],53):=ak (by rw[hf p (by rw[hp];simp)];exact hp);have hex:(∃cs,RowV Hx (.slice ad L.length cap) 4 cs):=⟨_,hr.to (fun gq hg=>hf gq (hon gq hg))⟩;simp +decide (maxDischargeDepth:=200) only[go_sem,Nat.reduceBEq,h59,fF,fC0,fC1,zL,iO,eq,io,c1,hex,u0,PH,hi,aB,PB];exact hk _ (Le.refl _)
        . cases ho;have h60:st.t 60= .x (ar p):=(hn 60 (by decide)).trans (hv 60 (by kernel_rfl));have hf:=jf _ _ _ (tl hj (by decide)) hJ;have c1:au Hx p=some ([(.slice ad L.length cap)],53):=ak (by rw[hf p (by rw[hp];simp)];exact hp);have hex:(∃cs,RowV Hx (.slice ad L.length cap) 4 cs):=⟨_,hr.to (fun gq hg=>hf gq (hon gq hg))⟩;simp +decide (maxDischargeDepth:=200) only[go_sem,Nat.reduceBEq,h60,fF,fC0,fC1,zL,iO,eq,io,c1,hex,u0,PH,hi,aB,PB];exact hk _ (Le.refl _)
        . cases ho;have h61:st.t 61= .x (ar p):=(hn 61 (by decide)).trans (hv 61 (by kernel_rfl));have hf:=jf _ _ _ (tl hj (by decide)) hJ;have c1:au Hx p=some ([(.slice ad L.length cap)],53):=ak (by rw[hf p (by rw[hp];simp)];exact hp);have hex:(∃cs,RowV Hx (.slice ad L.length cap) 4 cs):=⟨_,hr.to (fun gq hg=>hf gq (hon gq hg))⟩;simp +decide (maxDischargeDepth:=200) only[go_sem,Nat.reduceBEq,h61,fF,fC0,fC1,zL,iO,eq,io,c1,hex,u0,PH,hi,aB,PB];exact hk _ (Le.refl _)
        . cases ho;have hf:=jf _ _ _ (tl hj (by decide)) hJ;have c1:au Hx p=some ([(.slice ad L.length cap)],53):=ak (by rw[hf p (by rw[hp];simp)];exact hp);have hex:(∃cs,RowV Hx (.slice ad L.length cap) 4 cs):=⟨_,hr.to (fun gq hg=>hf gq (hon gq hg))⟩;simp +decide (maxDischargeDepth:=200) only[go_sem,Nat.reduceBEq,b6,fF,fC0,fC1,zL,iO,eq,io,c1,hex,u0,PH,hi,aB,PB];exact hk _ (Le.refl _)
        . cases ho;have h62:st.t 62= .x (.slice ad L.length cap):=(hn 62 (by decide)).trans (hv 62 (by kernel_rfl));have h63:st.t 63= .x (.int .i64 ((i:Nat):Int)):=(hn 63 (by decide)).trans (hv 63 (by kernel_rfl));have hf:=jf _ _ _ (tl hj (by decide)) hJ;have c1:au Hx p=some ([(.slice ad L.length cap)],53):=ak (by rw[hf p (by rw[hp];simp)];exact hp);have hex:(∃cs,RowV Hx (.slice ad L.length cap) 4 cs):=⟨_,hr.to (fun gq hg=>hf gq (hon gq hg))⟩;simp +decide (maxDischargeDepth:=200) only[go_sem,Nat.reduceBEq,h62,h63,fF,fC0,fC1,zL,iO,eq,io,c1,hex,u0,PH,hi,aB,PB];exact hk _ (Le.refl _)
        . cases hW
        . cases ho;have h47:st.t 47= .x (ar p):=(hn 47 (by decide)).trans (hv 47 (by kernel_rfl));have hf:=jf _ _ _ (tl hj (by decide)) hJ;have c1:au Hx p=some ([(.slice ad L.length cap)],53):=ak (by rw[hf p (by rw[hp];simp)];exact hp);have hex:(∃cs,RowV Hx (.slice ad L.length cap) 4 cs):=⟨_,hr.to (fun gq hg=>hf gq (hon gq hg))⟩;simp +decide (maxDischargeDepth:=200) only[go_sem,Nat.reduceBEq,h47,fF,fC0,fC1,zL,iO,eq,io,c1,hex,u0,PH,hi,aB,PB];exact hk _ (Le.refl _)
        . cases ho;have h66:st.t 66= .x (ar p):=(hn 66 (by decide)).trans (hv 66 (by kernel_rfl));have hf:=jf _ _ _ (tl hj (by decide)) hJ;have c1:au Hx p=some ([(.slice ad L.length cap)],53):=ak (by rw[hf p (by rw[hp];simp)];exact hp);have hex:(∃cs,RowV Hx (.slice ad L.length cap) 4 cs):=⟨_,hr.to (fun gq hg=>hf gq (hon gq hg))⟩;simp +decide (maxDischargeDepth:=200) only[go_sem,Nat.reduceBEq,h66,fF,fC0,fC1,zL,iO,eq,io,c1,hex,u0,PH,hi,aB,PB];exact hk _ (Le.refl _)
        . cases hW
        . cases ho
      . rintro j i' o Hx val st hj ho hJ hv hn hb hbb K' hk;have b0:st.t 0= .x (ar p):=hb 0 (by kernel_rfl);have b4:st.t 4= .ptr 4 0:=hb 4 (by kernel_rfl);have b6:st.t 6= .x (.int .i64 ((i:Nat):Int)):=hb 6 (by kernel_rfl);have bb4:st.b 4=some ([.x (.int .i64 s.1),.x (.int .i64 s.2.1),.x (.int .i64 s.2.2)]):=(QP hbb 4).trans (by kernel_rfl);clear hb hbb;rcases j with _|_|_|_|j
        . cases hj;cases ho;have h53:st.t 53= .x (fG 4 0 i (.slice ad L.length cap)):=(hn 53 (by decide)).trans (hv 53 (by kernel_rfl));have hG:GrowJ H Hx (.slice none 0 0) [] 0:=hJ;have hf:=hG.2.2.1;simp +decide (maxDischargeDepth:=200) only[go_sem,Nat.reduceBEq,h53,fF,fC0,fC1,zL,iO,eq,io];refine ce (cs':=aF (L.take i)) (k:=i) hG aV ⟨(hcut1.2.2).to (fun gq hg=>hf gq (hon gq (hcut1.1▸hg))),hcut1.2.1⟩ (cC _) (by omega) fun v' H' hg=>hk H' (.x v') _ ⟨v',aa _ _ _,by rw[QX,Qn] at hg;exact hg⟩ (by rw[bo];exact Le.refl _)
        . cases hj;cases ho;have h57:st.t 57= .sl false 4 [.agg [.x (.int .i64 s.1),.x (.int .i64 s.2.1),.x (.int .i64 s.2.2),.x (.int .i64 0)]] none:=(hn 57 (by decide)).trans (hv 57 (by kernel_rfl));obtain⟨v1,q1,hG⟩:∃v,val 54= .x v∧GrowJ H Hx v (aF (L.take i)) i:=hJ;have h54:st.t 54= .x v1:=(hn 54 (by decide)).trans q1;simp +decide (maxDischargeDepth:=200) only[go_sem,Nat.reduceBEq,h54,h57,fF,fC0,fC1,zL,iO,eq,io];have e5:aF [(s,(0:Int))]=d7 (s,0):=by simp[aF]
          refine ce (cs':=d7 (s,0)) (k:=1) hG aV ⟨.inl rfl,rfl,rfl⟩ (fun u hu=>cC [(s,0)] u (by rw[e5];exact hu)) (by omega) fun v' H' hg=>hk H' (.x v') _ ⟨v',aa _ _ _,by rw[cO,e5];exact hg⟩ (by rw[bo];exact Le.refl _)
        . cases hj;cases ho;have h64:st.t 64= .x (fG 4 i L.length (.slice ad L.length cap)):=(hn 64 (by decide)).trans (hv 64 (by kernel_rfl));obtain⟨v1,q1,hG⟩:∃v,val 58= .x v∧GrowJ H Hx v (aF (L.take i++[(s,0)])) (i+1):=hJ;have h58:st.t 58= .x v1:=(hn 58 (by decide)).trans q1;have hf:=hG.2.2.1;simp +decide (maxDischargeDepth:=200) only[go_sem,Nat.reduceBEq,h58,h64,fF,fC0,fC1,zL,iO,eq,io];refine ce (cs':=aF (L.drop i)) (k:=L.length-i) hG aV ⟨(hcut2.2.2).to (fun gq hg=>hf gq (hon gq (hcut2.1▸hg))),hcut2.2.1⟩ (cC _) (by omega) fun v' H' hg=>hk H' (.x v') _ ⟨v',aa _ _ _,by rw[<-cO,QK,show i+1+(L.length-i)=L.length+1 by omega] at hg;exact hg⟩ (by rw[bo];exact Le.refl _)
        . cases hj;cases ho;have h67:st.t 67= .x (ar p):=(hn 67 (by decide)).trans (hv 67 (by kernel_rfl));obtain⟨v1,q1,hG⟩:∃v,val 65= .x v∧GrowJ H Hx v (aF (L.take i++(s,0)::L.drop i)) (L.length+1):=hJ;have h65:st.t 65= .x v1:=(hn 65 (by decide)).trans q1;have hf:=hG.2.2.1;have c1:au Hx p=some ([(.slice ad L.length cap)],53):=ak (by rw[hf p (by rw[hp];simp)];exact hp);have xo:=pd hG.1.one;have sp:cF [(.slice ad L.length cap)] 0 [v1]=[v1]:=by simp[cF]
          have s27:bg Try.prog 28=some 1:=by kernel_rfl
          simp +decide (maxDischargeDepth:=200) only[go_sem,Nat.reduceBEq,h65,h67,fF,fC0,fC1,zL,iO,eq,io,c1,xo,sp,s27];exact hk _ .undef _ ⟨v1,Hx,hG,rfl⟩ (Le.refl _)
        . cases hj
      . rintro Hx val hJ hv;refine⟨[(0,.x (ar p)),(2,.x (.int .i64 n)),(4,.ptr 4 0),(6,.x (.int .i64 ((i:Nat):Int)))],[(4,[.x (.int .i64 s.1),.x (.int .i64 s.2.1),.x (.int .i64 s.2.2)])],?_,?_,?_⟩
        . simp +decide only[go_sem,Nat.reduceBEq]<;>(repeat' first|exact bd (by kernel_rfl)|exact(be (by kernel_rfl)).trans (hv _ (by kernel_rfl))|rfl|constructor)
        . simp +decide only[go_sem,Nat.reduceBEq]<;>(repeat' first|rfl|constructor)
        obtain⟨v1,H4,hG,rfl⟩:∃v H4,GrowJ H H4 v (aF (L.take i++(s,0)::L.drop i)) (L.length+1)∧Hx=aw H4 p (some (rowO [v] 53)):=hJ;have hlT:(L.take i++(s,(0:Int))::L.drop i).length=L.length+1:=by simp;omega
        obtain⟨g2,o2,N,cap2,cur2,ty2,rfl,hh2,hl2,hb2,ht2⟩:=hG.1.resolve_left (fun h=>by have:=bG (L.take i++(s,(0:Int))::L.drop i);rw[h.1,hlT] at this;simp at this);obtain rfl:N=L.length+1:=hG.2.1;have hpg:g2≠p:=fun e=>by have:=hG.2.2.2 g2 rfl;rw[e,hp] at this;cases this
        obtain⟨N,hN0⟩:∃N,N=L.length+1:=⟨_,rfl⟩;rw[<-hN0] at hG ht2 hl2⊢;obtain⟨A,hA0⟩:∃A,A=L.take i:=⟨_,rfl⟩;obtain⟨B,hB0⟩:∃B,B=L.drop i:=⟨_,rfl⟩;rw[<-hA0,<-hB0] at ht2 hlT;have hAl:A.length=i:=by rw[hA0,P8];omega
        have hN:N=(A++(s,(0:Int))::B).length:=by rw[hN0,hlT]
        obtain⟨m,hm⟩:∃m:Int,m=0:=⟨_,rfl⟩;rw[<-hm] at hN ht2;have hiN:i<=N:=by omega
        have hiN1:i+1<=N:=by omega
        obtain⟨H2,hH2⟩:∃H2,H2=aw H4 p (some (rowO [.slice (some ⟨g2,o2,none⟩) N cap2] 53)):=⟨_,rfl⟩;rw[<-hH2];have hp2:H2 p=some (rowO [(.slice (some ⟨g2,o2,none⟩) N cap2)] 53):=by rw[hH2,aa]
        obtain⟨C2,hC2⟩:∃C2,C2=cur2.toList:=⟨_,rfl⟩;rw[<-hC2] at ht2;have hc2:au H2 g2=some (C2,ty2):=ak (by rw[hH2,ae _ _ hpg,hC2];simpa[rowO] using hh2);have hb2:o2+cap2*4<=C2.length:=by rw[hC2,PR];exact hb2
        have hmb:m=0:=hm;have hfr:∀y,y∉p::(blkOf (.slice ad L.length cap)).toList->H y≠none->H2 y=H y:=fun y hy hy2=>by rw[hH2,ae _ _ (fun e=>hy (by rw[e];exact PZ ..))];exact hG.2.2.1 y hy2
        have hfn:∀y,y∉p::(blkOf (.slice ad L.length cap)).toList->H y≠none->y=g2->False:=fun y _ hy2 e=>by subst e;exact hy2 (hG.2.2.2 y rfl)
        have hfo:∀y,blkOf (.slice (some ⟨g2,o2,none⟩) N cap2)=some y->y∈p::(blkOf (.slice ad L.length cap)).toList∨H y=none:=fun y hy=> .inr (by cases hy;exact hG.2.2.2 _ rfl)
        have hnew:∀y,H2 y=none->H y=none:=fun y hy=>QH fun hx2=>by
         by_cases ep:y=p
         . rw[ep,hp2] at hy;cases hy
         . rw[hH2,ae _ _ ep,hG.2.2.1 y hx2] at hy;exact hx2 hy
        have finK:=finL (L.take i) (L.drop i) m hpa hpb (by rw[PO hm,QS,Qv]);rw[<-hA0,<-hB0] at finK;simp +decide (maxDischargeDepth:=200) only[go_sem,Nat.reduceBEq];have c1:=ak hp2;have u0:(0:Int)<=(i:Int):=by omega
        have u1:(i:Int)<(N:Int):=by omega
        have u2:(C2.map V.x)[o2+i*4+3]?=some (.x (.int .i64 m)):=by have:=(g5 (L:=A++(s,m)::B) (i:=i) (x:=(s,m)) (by rw[<-hN];exact ht2) (by rw[P6 (by omega),hAl,RZ];rfl)).1;exact this
        have u3:o2+i*4+3+1<=C2.length:=by omega
        have wm:aq .i64 (m+n)=m+n:=aj (by unfold aS;omega);have s3:bg Try.prog 3=some 1:=by kernel_rfl
        have ci:=bh (i:=i) (by omega);have u00:(0:Int)<=((i+1:Nat):Int):=by omega
        refine aU (fun k=>match k with|1=>[68]|2=>[69]|3=>[70]|6=>[73]|7=>[74]|8=>[75]|10=>[76,77]|11=>[78]|12=>[79]|14=>[80,81]|15=>[71,72]|16=>[83]|17=>[84,82]|_=>[]) [17] (fun k=>match k with|0=>0|1=>0|2=>0|3=>0|4=>0|5=>0|6=>0|7=>0|8=>0|9=>0|10=>0|11=>0|12=>0|13=>0|14=>0|15=>0|16=>0|_=>1) (fun j Hx _=>match j with|0=>H2=Hx|_=>Hx=aw H2 g2 (some (rowO (cF C2 (o2+i*4+3) [.int .i64 (m+n)]) ty2))) (Cr p i g2 o2 N cap2 m n) (by kernel_rfl) (by kernel_rfl) (by kernel_rfl) rfl ?_ ?_ ?_
        . rintro j i' o Hx val st ho hW hj hJ hv hn hb hbb K' hk;have b0:st.t 0= .x (ar p):=hb 0 (by kernel_rfl);have b4:st.t 4= .ptr 4 0:=hb 4 (by kernel_rfl);have b6:st.t 6= .x (.int .i64 ((i:Nat):Int)):=hb 6 (by kernel_rfl);have b2:st.t 2= .x (.int .i64 n):=hb 2 (by kernel_rfl);have bb4:st.b 4=some ([.x (.int .i64 s.1),.x (.int .i64 s.2.1),.x (.int .i64 s.2.2)]):=(QP hbb 4).trans (by kernel_rfl);clear hb hbb;rcases i' with _|_|_|_|_|_|_|_|_|_|_|_|_|_|_|_|_|_|i'
          . cases ho;have hJ:H2=Hx:=by have h0:j=0:=PV.1 (tl hj (by decide));subst h0;exact hJ
            subst hJ;simp +decide (maxDischargeDepth:=200) only[go_sem,Nat.reduceBEq,b0,fF,fC0,fC1,zL,iO,eq,io,c1,hc2,u0,u1,u2,wm];exact hk _ (Le.refl _)
          . cases ho;have h68:st.t 68= .x (ar p):=(hn 68 (by decide)).trans (hv 68 (by kernel_rfl));have hJ:H2=Hx:=by have h0:j=0:=PV.1 (tl hj (by decide));subst h0;exact hJ
            subst hJ;simp +decide (maxDischargeDepth:=200) only[go_sem,Nat.reduceBEq,h68,fF,fC0,fC1,zL,iO,eq,io,c1,hc2,u0,u1,u2,wm];exact hk _ (Le.refl _)
          . cases ho;have h69:st.t 69= .x (ar p):=(hn 69 (by decide)).trans (hv 69 (by kernel_rfl));have hJ:H2=Hx:=by have h0:j=0:=PV.1 (tl hj (by decide));subst h0;exact hJ
            subst hJ;simp +decide (maxDischargeDepth:=200) only[go_sem,Nat.reduceBEq,h69,fF,fC0,fC1,zL,iO,eq,io,c1,hc2,u0,u1,u2,wm];exact hk _ (Le.refl _)
          . cases ho;have h70:st.t 70= .x (ar p):=(hn 70 (by decide)).trans (hv 70 (by kernel_rfl));have hJ:H2=Hx:=by have h0:j=0:=PV.1 (tl hj (by decide));subst h0;exact hJ
            subst hJ;simp +decide (maxDischargeDepth:=200) only[go_sem,Nat.reduceBEq,h70,fF,fC0,fC1,zL,iO,eq,io,c1,hc2,u0,u1,u2,wm];exact hk _ (Le.refl _)
          . cases ho;have hJ:H2=Hx:=by have h0:j=0:=PV.1 (tl hj (by decide));subst h0;exact hJ
            subst hJ;simp +decide (maxDischargeDepth:=200) only[go_sem,Nat.reduceBEq,b6,fF,fC0,fC1,zL,iO,eq,io,c1,hc2,u0,u1,u2,wm];exact hk _ (Le.refl _)
          . cases ho;have hJ:H2=Hx:=by have h0:j=0:=PV.1 (tl hj (by decide));subst h0;exact hJ
            subst hJ;simp +decide (maxDischargeDepth:=200) only[go_sem,Nat.reduceBEq,b0,fF,fC0,fC1,zL,iO,eq,io,c1,hc2,u0,u1,u2,wm];exact hk _ (Le.refl _)
          . cases ho;have h73:st.t 73= .x (ar p):=(hn 73 (by decide)).trans (hv 73 (by kernel_rfl));have hJ:H2=Hx:=by have h0:j=0:=PV.1 (tl hj (by decide));subst h0;exact hJ
            subst hJ;simp +decide (maxDischargeDepth:=200) only[go_sem,Nat.reduceBEq,h73,fF,fC0,fC1,zL,iO,eq,io,c1,hc2,u0,u1,u2,wm];exact hk _ (Le.refl _)
          . cases ho;have h74:st.t 74= .x (ar p):=(hn 74 (by decide)).trans (hv 74 (by kernel_rfl));have hJ:H2=Hx:=by have h0:j=0:=PV.1 (tl hj (by decide));subst h0;exact hJ
            subst hJ;simp +decide (maxDischargeDepth:=200) only[go_sem,Nat.reduceBEq,h74,fF,fC0,fC1,zL,iO,eq,io,c1,hc2,u0,u1,u2,wm];exact hk _ (Le.refl _)
          . cases ho;have h75:st.t 75= .x (ar p):=(hn 75 (by decide)).trans (hv 75 (by kernel_rfl));have hJ:H2=Hx:=by have h0:j=0:=PV.1 (tl hj (by decide));subst h0;exact hJ
            subst hJ;simp +decide (maxDischargeDepth:=200) only[go_sem,Nat.reduceBEq,h75,fF,fC0,fC1,zL,iO,eq,io,c1,hc2,u0,u1,u2,wm];exact hk _ (Le.refl _)
          . cases ho;have hJ:H2=Hx:=by have h0:j=0:=PV.1 (tl hj (by decide));subst h0;exact hJ
            subst hJ;simp +decide (maxDischargeDepth:=200) only[go_sem,Nat.reduceBEq,b6,fF,fC0,fC1,zL,iO,eq,io,c1,hc2,u0,u1,u2,wm];exact hk _ (Le.refl _)
          . cases ho;have h76:st.t 76= .x (.slice (some ⟨g2,o2,none⟩) N cap2):=(hn 76 (by decide)).trans (hv 76 (by kernel_rfl));have h77:st.t 77= .x (.int .i64 ((i:Nat):Int)):=(hn 77 (by decide)).trans (hv 77 (by kernel_rfl));have hJ:H2=Hx:=by have h0:j=0:=PV.1 (tl hj (by decide));subst h0;exact hJ
            subst hJ;simp +decide (maxDischargeDepth:=200) only[go_sem,Nat.reduceBEq,h76,h77,fF,fC0,fC1,zL,iO,eq,io,c1,hc2,u0,u1,u2,wm];exact hk _ (Le.refl _)
          . cases ho;have h78:st.t 78= .x (.pointer (some ⟨g2,o2+i*4,none⟩)):=(hn 78 (by decide)).trans (hv 78 (by kernel_rfl));have hJ:H2=Hx:=by have h0:j=0:=PV.1 (tl hj (by decide));subst h0;exact hJ
            subst hJ;simp +decide (maxDischargeDepth:=200) only[go_sem,Nat.reduceBEq,h78,fF,fC0,fC1,zL,iO,eq,io,c1,hc2,u0,u1,u2,wm];exact hk _ (Le.refl _)
          . cases ho;have h79:st.t 79= .x (.pointer (some ⟨g2,o2+i*4+3,none⟩)):=(hn 79 (by decide)).trans (hv 79 (by kernel_rfl));have hJ:H2=Hx:=by have h0:j=0:=PV.1 (tl hj (by decide));subst h0;exact hJ
            subst hJ;simp +decide (maxDischargeDepth:=200) only[go_sem,Nat.reduceBEq,h79,fF,fC0,fC1,zL,iO,eq,io,c1,hc2,u0,u1,u2,wm];exact hk _ (Le.refl _)
          . cases ho;have hJ:H2=Hx:=by have h0:j=0:=PV.1 (tl hj (by decide));subst h0;exact hJ
            subst hJ;simp +decide (maxDischargeDepth:=200) only[go_sem,Nat.reduceBEq,b2,fF,fC0,fC1,zL,iO,eq,io,c1,hc2,u0,u1,u2,wm];exact hk _ (Le.refl _)
          . cases ho;have h80:st.t 80= .x (.int .i64 m):=(hn 80 (by decide)).trans (hv 80 (by kernel_rfl));have h81:st.t 81= .x (.int .i64 n):=(hn 81 (by decide)).trans (hv 81 (by kernel_rfl));have hJ:H2=Hx:=by have h0:j=0:=PV.1 (tl hj (by decide));subst h0;exact hJ
            subst hJ;simp +decide (maxDischargeDepth:=200) only[go_sem,Nat.reduceBEq,h80,h81,fF,fC0,fC1,zL,iO,eq,io,c1,hc2,u0,u1,u2,wm];exact hk _ (Le.refl _)
          . cases ho;have h71:st.t 71= .x (.slice (some ⟨g2,o2,none⟩) N cap2):=(hn 71 (by decide)).trans (hv 71 (by kernel_rfl));have h72:st.t 72= .x (.int .i64 ((i:Nat):Int)):=(hn 72 (by decide)).trans (hv 72 (by kernel_rfl));have hJ:H2=Hx:=by have h0:j=0:=PV.1 (tl hj (by decide));subst h0;exact hJ
            subst hJ;simp +decide (maxDischargeDepth:=200) only[go_sem,Nat.reduceBEq,h71,h72,fF,fC0,fC1,zL,iO,eq,io,c1,hc2,u0,u1,u2,wm];exact hk _ (Le.refl _)
          . cases ho;have h83:st.t 83= .x (.pointer (some ⟨g2,o2+i*4,none⟩)):=(hn 83 (by decide)).trans (hv 83 (by kernel_rfl));have hJ:H2=Hx:=by have h0:j=0:=PV.1 (tl hj (by decide));subst h0;exact hJ
            subst hJ;simp +decide (maxDischargeDepth:=200) only[go_sem,Nat.reduceBEq,h83,fF,fC0,fC1,zL,iO,eq,io,c1,hc2,u0,u1,u2,wm];exact hk _ (Le.refl _)
          . cases hW
          . cases ho
        . rintro j i' o Hx val st hj ho hJ hv hn hb hbb K' hk;have b0:st.t 0= .x (ar p):=hb 0 (by kernel_rfl);have b4:st.t 4= .ptr 4 0:=hb 4 (by kernel_rfl);have b6:st.t 6= .x (.int .i64 ((i:Nat):Int)):=hb 6 (by kernel_rfl);have b2:st.t 2= .x (.int .i64 n):=hb 2 (by kernel_rfl);have bb4:st.b 4=some ([.x (.int .i64 s.1),.x (.int .i64 s.2.1),.x (.int .i64 s.2.2)]):=(QP hbb 4).trans (by kernel_rfl);clear hb hbb;rcases j with _|j
          . cases hj;cases ho;have h84:st.t 84= .x (.pointer (some ⟨g2,o2+i*4+3,none⟩)):=(hn 84 (by decide)).trans (hv 84 (by kernel_rfl));have h82:st.t 82= .x (.int .i64 (m+n)):=(hn 82 (by decide)).trans (hv 82 (by kernel_rfl));have hJ:H2=Hx:=hJ;subst hJ;simp +decide (maxDischargeDepth:=200) only[go_sem,Nat.reduceBEq,h84,h82,fF,fC0,fC1,zL,iO,eq,io,hc2,u3,s3];exact hk _ .undef _ rfl (Le.refl _)
          . cases hj
        . rintro Hx val hJ hv;refine⟨[(0,.x (ar p)),(2,.x (.int .i64 n)),(4,.ptr 4 0),(6,.x (.int .i64 ((i:Nat):Int)))],[(4,[.x (.int .i64 s.1),.x (.int .i64 s.2.1),.x (.int .i64 s.2.2)])],?_,?_,?_⟩
          . simp +decide only[go_sem,Nat.reduceBEq]<;>(repeat' first|exact bd (by kernel_rfl)|exact(be (by kernel_rfl)).trans (hv _ (by kernel_rfl))|rfl|constructor)
          . simp +decide only[go_sem,Nat.reduceBEq]<;>(repeat' first|rfl|constructor)
          have hJ:Hx=aw H2 g2 (some (rowO (cF C2 (o2+i*4+3) [.int .i64 (m+n)]) ty2)):=hJ;subst hJ;clear hv c1;obtain⟨H3,hH3⟩:∃H3,H3=aw H2 g2 (some (rowO (cF C2 (o2+i*4+3) [.int .i64 (m+n)]) ty2)):=⟨_,rfl⟩;rw[<-hH3];have hp3:H3 p=some (rowO [(.slice (some ⟨g2,o2,none⟩) N cap2)] 53):=by rw[hH3,ae _ _ (QT hpg)];exact hp2
          have hc3:au H3 g2=some (cF C2 (o2+i*4+3) [.int .i64 (m+n)],ty2):=ak (by rw[hH3,aa]);have c1:=ak hp3;have v2:=pb (C:=C2) (u:= .int .i64 (m+n)) (show o2+i*4+3<C2.length by omega);have hrow3:RowV H3 (.slice (some ⟨g2,o2,none⟩) N cap2) 4 (aF (A++(s,m+n)::B)):=by
           refine .inr ⟨g2,o2,N,cap2,(cF C2 (o2+i*4+3) [.int .i64 (m+n)]).toArray,ty2,rfl,by rw[hH3,aa];rfl,hl2,?_,?_⟩
           . rw[QC,pa (by omega)];exact hb2
           . have:=o9 (C:=C2) (off:=o2) (A:=A) (B:=B) (s:=s) (m:=m) (q:=m+n) (by rw[<-hN];omega) (by rw[<-hN];exact ht2);rw[hAl,show(A++(s,m+n)::B).length=N by rw[hN];simp] at this;exact this
          cases hz0:decide (m+n=0)
          . simp +decide (maxDischargeDepth:=200) only[go_sem,Nat.reduceBEq,fF,fC0,fC1,zL,iO,eq,io,c1,hc3,v2,u0,u1,hz0];have hz1:=RV hz0;exact finK H3 (some ⟨g2,o2,none⟩) N cap2 (A++(s,m+n)::B) (by rw[hN];simp) hp3 hrow3 (fun e=>hpg (QE e)) (by rw[PS hz1,QK];rfl) (fun y hy hy2=>by rw[hH3];exact(ae _ _ (fun e=>hfn y hy hy2 e)).trans (hfr y hy hy2)) (fun y hy=>hfo y hy)
          . have hz1:=QA hz0;have hcut1:=hrow3.cut (l:=0) (h:=i) (PH _) (by show i<=N;omega);have hcut2:=hrow3.cut (l:=i+1) (h:=N) (by omega) (PB N);have e1:((aF (A++(s,m+n)::B)).take (i*4)).drop (0*4)=aF A:=by rw[Q4,Rm,fI,Qy (by omega),<-hAl,QL]
            have e2:((aF (A++(s,m+n)::B)).take (N*4)).drop ((i+1)*4)=aF B:=by rw[Qb (by rw[bG,hN];simp),eK,List.drop_append,hAl,RT,Rt (by omega)];rfl
            rw[e1] at hcut1;rw[e2] at hcut2;have hex:(∃cs,RowV H3 (.slice (some ⟨g2,o2,none⟩) N cap2) 4 cs):=⟨_,hrow3⟩;have n1:((i+1:Nat):Int).toNat=i+1:=io _;simp +decide (maxDischargeDepth:=200) only[go_sem,Nat.reduceBEq,fF,fC0,fC1,zL,iO,eq,io,c1,hc3,v2,u0,u1,hz0];have jf:∀(j:Nat) (Hx:HH) (val:Nat->V),j<=2->(fun j Hx val=>match j with|0=>GrowJ H3 Hx (.slice none 0 0) [] 0|1=>∃v,val 101= .x v∧GrowJ H3 Hx v (aF A) i|2=>∃v,val 109= .x v∧GrowJ H3 Hx v (aF (A++B)) (N-1)|_=>∃v H4,GrowJ H3 H4 v (aF (A++B)) (N-1)∧Hx=aw H4 p (some (rowO [v] 53))) j Hx val->∀y,H3 y≠none->Hx y=H3 y:=fun j Hx val hj hJ=>by
             rcases j with _|_|_|j
             . exact hJ.2.2.1
             . obtain⟨v,_,h⟩:=hJ;exact h.2.2.1
             . obtain⟨v,_,h⟩:=hJ;exact h.2.2.1
             . omega
            refine aU (fun k=>match k with|2=>[95]|3=>[96]|4=>[97]|6=>[98,99]|7=>[100]|9=>[102]|10=>[103]|11=>[104]|13=>[106]|14=>[105,107]|15=>[101,108]|16=>[94]|17=>[110]|18=>[111,109]|_=>[]) [7,15,18] (fun k=>match k with|0=>2|1=>0|2=>0|3=>0|4=>0|5=>0|6=>0|8=>1|9=>1|10=>1|11=>1|12=>1|13=>1|14=>1|16=>2|17=>2|_=>3) (fun j Hx val=>match j with|0=>GrowJ H3 Hx (.slice none 0 0) [] 0|1=>∃v,val 101= .x v∧GrowJ H3 Hx v (aF A) i|2=>∃v,val 109= .x v∧GrowJ H3 Hx v (aF (A++B)) (N-1)|_=>∃v H4,GrowJ H3 H4 v (aF (A++B)) (N-1)∧Hx=aw H4 p (some (rowO [v] 53))) (Ct p i g2 o2 N cap2) (by kernel_rfl) (by kernel_rfl) (by kernel_rfl) (GrowJ.start H3) ?_ ?_ ?_
            . rintro j i' o Hx val st ho hW hj hJ hv hn hb hbb K' hk;have b0:st.t 0= .x (ar p):=hb 0 (by kernel_rfl);have b4:st.t 4= .ptr 4 0:=hb 4 (by kernel_rfl);have b6:st.t 6= .x (.int .i64 ((i:Nat):Int)):=hb 6 (by kernel_rfl);have bb4:st.b 4=some ([.x (.int .i64 s.1),.x (.int .i64 s.2.1),.x (.int .i64 s.2.2)]):=(QP hbb 4).trans (by kernel_rfl);clear hb hbb;rcases i' with _|_|_|_|_|_|_|_|_|_|_|_|_|_|_|_|_|_|_|i'
              . cases ho;have hf:=jf _ _ _ (tl hj (by decide)) hJ;have c1:au Hx p=some ([(.slice (some ⟨g2,o2,none⟩) N cap2)],53):=ak (by rw[hf p (by rw[hp3];simp)];exact hp3);have hex:(∃cs,RowV Hx (.slice (some ⟨g2,o2,none⟩) N cap2) 4 cs):=⟨_,hrow3.to (fun g hg=>hf g (by cases hg;rw[hH3,aa];simp))⟩;simp +decide (maxDischargeDepth:=200) only[go_sem,Nat.reduceBEq,b0,fF,fC0,fC1,zL,iO,eq,io,c1,hex,u0,u00,n1,ci,PH,hiN,hiN1,aB,PB];exact hk _ (Le.refl _)
              . cases ho;have hf:=jf _ _ _ (tl hj (by decide)) hJ;have c1:au Hx p=some ([(.slice (some ⟨g2,o2,none⟩) N cap2)],53):=ak (by rw[hf p (by rw[hp3];simp)];exact hp3);have hex:(∃cs,RowV Hx (.slice (some ⟨g2,o2,none⟩) N cap2) 4 cs):=⟨_,hrow3.to (fun g hg=>hf g (by cases hg;rw[hH3,aa];simp))⟩;simp +decide (maxDischargeDepth:=200) only[go_sem,Nat.reduceBEq,b0,fF,fC0,fC1,zL,iO,eq,io,c1,hex,u0,u00,n1,ci,PH,hiN,hiN1,aB,PB];exact hk _ (Le.refl _)
              . cases ho;have h95:st.t 95= .x (ar p):=(hn 95 (by decide)).trans (hv 95 (by kernel_rfl));have hf:=jf _ _ _ (tl hj (by decide)) hJ;have c1:au Hx p=some ([(.slice (some ⟨g2,o2,none⟩) N cap2)],53):=ak (by rw[hf p (by rw[hp3];simp)];exact hp3);have hex:(∃cs,RowV Hx (.slice (some ⟨g2,o2,none⟩) N cap2) 4 cs):=⟨_,hrow3.to (fun g hg=>hf g (by cases hg;rw[hH3,aa];simp))⟩;simp +decide (maxDischargeDepth:=200) only[go_sem,Nat.reduceBEq,h95,fF,fC0,fC1,zL,iO,eq,io,c1,hex,u0,u00,n1,ci,PH,hiN,hiN1,aB,PB];exact hk _ (Le.refl _)
              . cases ho;have h96:st.t 96= .x (ar p):=(hn 96 (by decide)).trans (hv 96 (by kernel_rfl));have hf:=jf _ _ _ (tl hj (by decide)) hJ;have c1:au Hx p=some ([(.slice (some ⟨g2,o2,none⟩) N cap2)],53):=ak (by rw[hf p (by rw[hp3];simp)];exact hp3);have hex:(∃cs,RowV Hx (.slice (some ⟨g2,o2,none⟩) N cap2) 4 cs):=⟨_,hrow3.to (fun g hg=>hf g (by cases hg;rw[hH3,aa];simp))⟩;simp +decide (maxDischargeDepth:=200) only[go_sem,Nat.reduceBEq,h96,fF,fC0,fC1,zL,iO,eq,io,c1,hex,u0,u00,n1,ci,PH,hiN,hiN1,aB,PB];exact hk _ (Le.refl _)
              . cases ho;have h97:st.t 97= .x (ar p):=(hn 97 (by decide)).trans (hv 97 (by kernel_rfl));have hf:=jf _ _ _ (tl hj (by decide)) hJ;have c1:au Hx p=some ([(.slice (some ⟨g2,o2,none⟩) N cap2)],53):=ak (by rw[hf p (by rw[hp3];simp)];exact hp3);have hex:(∃cs,RowV Hx (.slice (some ⟨g2,o2,none⟩) N cap2) 4 cs):=⟨_,hrow3.to (fun g hg=>hf g (by cases hg;rw[hH3,aa];simp))⟩;simp +decide (maxDischargeDepth:=200) only[go_sem,Nat.reduceBEq,h97,fF,fC0,fC1,zL,iO,eq,io,c1,hex,u0,u00,n1,ci,PH,hiN,hiN1,aB,PB];exact hk _ (Le.refl _)
              . cases ho;have hf:=jf _ _ _ (tl hj (by decide)) hJ;have c1:au Hx p=some ([(.slice (some ⟨g2,o2,none⟩) N cap2)],53):=ak (by rw[hf p (by rw[hp3];simp)];exact hp3);have hex:(∃cs,RowV Hx (.slice (some ⟨g2,o2,none⟩) N cap2) 4 cs):=⟨_,hrow3.to (fun g hg=>hf g (by cases hg;rw[hH3,aa];simp))⟩;simp +decide (maxDischargeDepth:=200) only[go_sem,Nat.reduceBEq,b6,fF,fC0,fC1,zL,iO,eq,io,c1,hex,u0,u00,n1,ci,PH,hiN,hiN1,aB,PB];exact hk _ (Le.refl _)
              . cases ho;have h98:st.t 98= .x (.slice (some ⟨g2,o2,none⟩) N cap2):=(hn 98 (by decide)).trans (hv 98 (by kernel_rfl));have h99:st.t 99= .x (.int .i64 ((i:Nat):Int)):=(hn 99 (by decide)).trans (hv 99 (by kernel_rfl));have hf:=jf _ _ _ (tl hj (by decide)) hJ;have c1:au Hx p=some ([(.slice (some ⟨g2,o2,none⟩) N cap2)],53):=ak (by rw[hf p (by rw[hp3];simp)];exact hp3);have hex:(∃cs,RowV Hx (.slice (some ⟨g2,o2,none⟩) N cap2) 4 cs):=⟨_,hrow3.to (fun g hg=>hf g (by cases hg;rw[hH3,aa];simp))⟩;simp +decide (maxDischargeDepth:=200) only[go_sem,Nat.reduceBEq,h98,h99,fF,fC0,fC1,zL,iO,eq,io,c1,hex,u0,u00,n1,ci,PH,hiN,hiN1,aB,PB];exact hk _ (Le.refl _)
              . cases hW
              . cases ho;have hf:=jf _ _ _ (tl hj (by decide)) hJ;have c1:au Hx p=some ([(.slice (some ⟨g2,o2,none⟩) N cap2)],53):=ak (by rw[hf p (by rw[hp3];simp)];exact hp3);have hex:(∃cs,RowV Hx (.slice (some ⟨g2,o2,none⟩) N cap2) 4 cs):=⟨_,hrow3.to (fun g hg=>hf g (by cases hg;rw[hH3,aa];simp))⟩;simp +decide (maxDischargeDepth:=200) only[go_sem,Nat.reduceBEq,b0,fF,fC0,fC1,zL,iO,eq,io,c1,hex,u0,u00,n1,ci,PH,hiN,hiN1,aB,PB];exact hk _ (Le.refl _)
              . cases ho;have h102:st.t 102= .x (ar p):=(hn 102 (by decide)).trans (hv 102 (by kernel_rfl));have hf:=jf _ _ _ (tl hj (by decide)) hJ;have c1:au Hx p=some ([(.slice (some ⟨g2,o2,none⟩) N cap2)],53):=ak (by rw[hf p (by rw[hp3];simp)];exact hp3);have hex:(∃cs,RowV Hx (.slice (some ⟨g2,o2,none⟩) N cap2) 4 cs):=⟨_,hrow3.to (fun g hg=>hf g (by cases hg;rw[hH3,aa];simp))⟩;simp +decide (maxDischargeDepth:=200) only[go_sem,Nat.reduceBEq,h102,fF,fC0,fC1,zL,iO,eq,io,c1,hex,u0,u00,n1,ci,PH,hiN,hiN1,aB,PB];exact hk _ (Le.refl _)
              . cases ho;have h103:st.t 103= .x (ar p):=(hn 103 (by decide)).trans (hv 103 (by kernel_rfl));have hf:=jf _ _ _ (tl hj (by decide)) hJ;have c1:au Hx p=some ([(.slice (some ⟨g2,o2,none⟩) N cap2)],53):=ak (by rw[hf p (by rw[hp3];simp)];exact hp3);have hex:(∃cs,RowV Hx (.slice (some ⟨g2,o2,none⟩) N cap2) 4 cs):=⟨_,hrow3.to (fun g hg=>hf g (by cases hg;rw[hH3,aa];simp))⟩;simp +decide (maxDischargeDepth:=200) only[go_sem,Nat.reduceBEq,h103,fF,fC0,fC1,zL,iO,eq,io,c1,hex,u0,u00,n1,ci,PH,hiN,hiN1,aB,PB];exact hk _ (Le.refl _)
              . cases ho;have h104:st.t 104= .x (ar p):=(hn 104 (by decide)).trans (hv 104 (by kernel_rfl));have hf:=jf _ _ _ (tl hj (by decide)) hJ;have c1:au Hx p=some ([(.slice (some ⟨g2,o2,none⟩) N cap2)],53):=ak (by rw[hf p (by rw[hp3];simp)];exact hp3);have hex:(∃cs,RowV Hx (.slice (some ⟨g2,o2,none⟩) N cap2) 4 cs):=⟨_,hrow3.to (fun g hg=>hf g (by cases hg;rw[hH3,aa];simp))⟩;simp +decide (maxDischargeDepth:=200) only[go_sem,Nat.reduceBEq,h104,fF,fC0,fC1,zL,iO,eq,io,c1,hex,u0,u00,n1,ci,PH,hiN,hiN1,aB,PB];exact hk _ (Le.refl _)
              . cases ho;have hf:=jf _ _ _ (tl hj (by decide)) hJ;have c1:au Hx p=some ([(.slice (some ⟨g2,o2,none⟩) N cap2)],53):=ak (by rw[hf p (by rw[hp3];simp)];exact hp3);have hex:(∃cs,RowV Hx (.slice (some ⟨g2,o2,none⟩) N cap2) 4 cs):=⟨_,hrow3.to (fun g hg=>hf g (by cases hg;rw[hH3,aa];simp))⟩;simp +decide (maxDischargeDepth:=200) only[go_sem,Nat.reduceBEq,b6,fF,fC0,fC1,zL,iO,eq,io,c1,hex,u0,u00,n1,ci,PH,hiN,hiN1,aB,PB];exact hk _ (Le.refl _)
              . cases ho;have h106:st.t 106= .x (.int .i64 ((i:Nat):Int)):=(hn 106 (by decide)).trans (hv 106 (by kernel_rfl));have hf:=jf _ _ _ (tl hj (by decide)) hJ;have c1:au Hx p=some ([(.slice (some ⟨g2,o2,none⟩) N cap2)],53):=ak (by rw[hf p (by rw[hp3];simp)];exact hp3);have hex:(∃cs,RowV Hx (.slice (some ⟨g2,o2,none⟩) N cap2) 4 cs):=⟨_,hrow3.to (fun g hg=>hf g (by cases hg;rw[hH3,aa];simp))⟩;simp +decide (maxDischargeDepth:=200) only[go_sem,Nat.reduceBEq,h106,fF,fC0,fC1,zL,iO,eq,io,c1,hex,u0,u00,n1,ci,PH,hiN,hiN1,aB,PB];exact hk _ (Le.refl _)
              . cases ho;have h105:st.t 105= .x (.slice (some ⟨g2,o2,none⟩) N cap2):=(hn 105 (by decide)).trans (hv 105 (by kernel_rfl));have h107:st.t 107= .x (.int .i64 (((i+1):Nat):Int)):=(hn 107 (by decide)).trans (hv 107 (by kernel_rfl));have hf:=jf _ _ _ (tl hj (by decide)) hJ;have c1:au Hx p=some ([(.slice (some ⟨g2,o2,none⟩) N cap2)],53):=ak (by rw[hf p (by rw[hp3];simp)];exact hp3);have hex:(∃cs,RowV Hx (.slice (some ⟨g2,o2,none⟩) N cap2) 4 cs):=⟨_,hrow3.to (fun g hg=>hf g (by cases hg;rw[hH3,aa];simp))⟩;simp +decide (maxDischargeDepth:=200) only[go_sem,Nat.reduceBEq,h105,h107,fF,fC0,fC1,zL,iO,eq,io,c1,hex,u0,u00,n1,ci,PH,hiN,hiN1,aB,PB];exact hk _ (Le.refl _)
              . cases hW
              . cases ho;have h94:st.t 94= .x (ar p):=(hn 94 (by decide)).trans (hv 94 (by kernel_rfl));have hf:=jf _ _ _ (tl hj (by decide)) hJ;have c1:au Hx p=some ([(.slice (some ⟨g2,o2,none⟩) N cap2)],53):=ak (by rw[hf p (by rw[hp3];simp)];exact hp3);have hex:(∃cs,RowV Hx (.slice (some ⟨g2,o2,none⟩) N cap2) 4 cs):=⟨_,hrow3.to (fun g hg=>hf g (by cases hg;rw[hH3,aa];simp))⟩;simp +decide (maxDischargeDepth:=200) only[go_sem,Nat.reduceBEq,h94,fF,fC0,fC1,zL,iO,eq,io,c1,hex,u0,u00,n1,ci,PH,hiN,hiN1,aB,PB];exact hk _ (Le.refl _)
              . cases ho;have h110:st.t 110= .x (ar p):=(hn 110 (by decide)).trans (hv 110 (by kernel_rfl));have hf:=jf _ _ _ (tl hj (by decide)) hJ;have c1:au Hx p=some ([(.slice (some ⟨g2,o2,none⟩) N cap2)],53):=ak (by rw[hf p (by rw[hp3];simp)];exact hp3);have hex:(∃cs,RowV Hx (.slice (some ⟨g2,o2,none⟩) N cap2) 4 cs):=⟨_,hrow3.to (fun g hg=>hf g (by cases hg;rw[hH3,aa];simp))⟩;simp +decide (maxDischargeDepth:=200) only[go_sem,Nat.reduceBEq,h110,fF,fC0,fC1,zL,iO,eq,io,c1,hex,u0,u00,n1,ci,PH,hiN,hiN1,aB,PB];exact hk _ (Le.refl _)
              . cases hW
              . cases ho
            . rintro j i' o Hx val st hj ho hJ hv hn hb hbb K' hk;have b0:st.t 0= .x (ar p):=hb 0 (by kernel_rfl);have b4:st.t 4= .ptr 4 0:=hb 4 (by kernel_rfl);have b6:st.t 6= .x (.int .i64 ((i:Nat):Int)):=hb 6 (by kernel_rfl);have bb4:st.b 4=some ([.x (.int .i64 s.1),.x (.int .i64 s.2.1),.x (.int .i64 s.2.2)]):=(QP hbb 4).trans (by kernel_rfl);clear hb hbb;rcases j with _|_|_|j
              . cases hj;cases ho;have h100:st.t 100= .x (fG 4 0 i (.slice (some ⟨g2,o2,none⟩) N cap2)):=(hn 100 (by decide)).trans (hv 100 (by kernel_rfl));have hG:GrowJ H3 Hx (.slice none 0 0) [] 0:=hJ;have hf:=hG.2.2.1;simp +decide (maxDischargeDepth:=200) only[go_sem,Nat.reduceBEq,h100,fF,fC0,fC1,zL,iO,eq,io];refine ce (cs':=aF A) (k:=i) hG aV ⟨(hcut1.2.2).to (fun g hg=>hf g (by rw[hcut1.1] at hg;cases hg;rw[hH3,aa];simp)),hcut1.2.1⟩ (cC _) (by omega) fun v' H' hg=>hk H' (.x v') _ ⟨v',aa _ _ _,by rw[QX,Qn] at hg;exact hg⟩ (by rw[bo];exact Le.refl _)
              . cases hj;cases ho;have h108:st.t 108= .x (fG 4 (i+1) N (.slice (some ⟨g2,o2,none⟩) N cap2)):=(hn 108 (by decide)).trans (hv 108 (by kernel_rfl));obtain⟨v1,q1,hG⟩:∃v,val 101= .x v∧GrowJ H3 Hx v (aF A) i:=hJ;have h101:st.t 101= .x v1:=(hn 101 (by decide)).trans q1;have hf:=hG.2.2.1;simp +decide (maxDischargeDepth:=200) only[go_sem,Nat.reduceBEq,h101,h108,fF,fC0,fC1,zL,iO,eq,io];refine ce (cs':=aF B) (k:=N-(i+1)) hG aV ⟨(hcut2.2.2).to (fun g hg=>hf g (by rw[hcut2.1] at hg;cases hg;rw[hH3,aa];simp)),hcut2.2.1⟩ (cC _) (by omega) fun v' H' hg=>hk H' (.x v') _ ⟨v',aa _ _ _,by rw[<-cO,show i+(N-(i+1))=N-1 by omega] at hg;exact hg⟩ (by rw[bo];exact Le.refl _)
              . cases hj;cases ho;have h111:st.t 111= .x (ar p):=(hn 111 (by decide)).trans (hv 111 (by kernel_rfl));obtain⟨v1,q1,hG⟩:∃v,val 109= .x v∧GrowJ H3 Hx v (aF (A++B)) (N-1):=hJ;have h109:st.t 109= .x v1:=(hn 109 (by decide)).trans q1;have hf:=hG.2.2.1;have c1:au Hx p=some ([(.slice (some ⟨g2,o2,none⟩) N cap2)],53):=ak (by rw[hf p (by rw[hp3];simp)];exact hp3);have xo:=pd hG.1.one;have sp:cF [(.slice (some ⟨g2,o2,none⟩) N cap2)] 0 [v1]=[v1]:=by simp[cF]
                have s27:bg Try.prog 28=some 1:=by kernel_rfl
                simp +decide (maxDischargeDepth:=200) only[go_sem,Nat.reduceBEq,h109,h111,fF,fC0,fC1,zL,iO,eq,io,c1,xo,sp,s27];exact hk _ .undef _ ⟨v1,Hx,hG,rfl⟩ (Le.refl _)
              . cases hj
            . rintro Hx val hJ hv;refine⟨[(0,.x (ar p)),(2,.x (.int .i64 n)),(4,.ptr 4 0),(6,.x (.int .i64 ((i:Nat):Int)))],[(4,[.x (.int .i64 s.1),.x (.int .i64 s.2.1),.x (.int .i64 s.2.2)])],?_,?_,?_⟩
              . simp +decide only[go_sem,Nat.reduceBEq]<;>(repeat' first|exact bd (by kernel_rfl)|exact(be (by kernel_rfl)).trans (hv _ (by kernel_rfl))|rfl|constructor)
              . simp +decide only[go_sem,Nat.reduceBEq]<;>(repeat' first|rfl|constructor)
              obtain⟨v1,H4,hG,rfl⟩:∃v H4,GrowJ H3 H4 v (aF (A++B)) (N-1)∧Hx=aw H4 p (some (rowO [v] 53)):=hJ;simp +decide (maxDischargeDepth:=200) only[go_sem,Nat.reduceBEq];obtain⟨ad4,cap4,hv1⟩:∃ax cx,v1= .slice ax (A++B).length cx:=by
               have e3:aB v1=(A++B).length:=by rw[hG.2.1,hN];simp
               rcases hG.1 with⟨_,e⟩|⟨g',o',n',cp',_,_,e,_⟩
               . rw[e] at e3;exact⟨none,0,by rw[e,<-e3];rfl⟩
               . rw[e] at e3;exact⟨_,_,by rw[e,<-e3];rfl⟩
              subst hv1;have hpn:blkOf (.slice ad4 (A++B).length cap4)≠some p:=fun e=>by have:=hG.2.2.2 p e;rw[hp3] at this;cases this
              exact finK _ ad4 (A++B).length cap4 (A++B) rfl (aa _ _ _) (hG.1.to (fun g hg=>ae _ _ (fun e=>hpn (by rw[hg,e])))) hpn (by rw[PO hz1,QS]) (fun y hy hy2=>by
               have hyp:y≠p:=fun e=>hy (by rw[e];exact PZ ..)
               have h5:H3 y=H y:=by rw[hH3];exact(ae _ _ (fun e=>hfn y hy hy2 e)).trans (hfr y hy hy2)
               rw[ae _ _ hyp,hG.2.2.1 y (by rw[h5];exact hy2),h5]) (fun y hy=>by
               have h6:=hG.2.2.2 y hy;by_cases e:y=g2
               . subst e;rw[hH3,aa] at h6;cases h6
               . rw[hH3,ae _ _ e] at h6;exact .inr (hnew y h6))
 obtain⟨x,hx⟩:∃x,L[i]?=some x:=⟨_,Io hil⟩;obtain⟨g,off,C,ty,rfl,c2,hC1,hC2,hC3⟩:=yH hr (fun e=>by rw[e] at hil;simp at hil);obtain⟨q3,q2,q4⟩:=g5 hC3 hx;have q1:off+i*4+3<=C.length:=by omega
 have i0:(0:Int)<=(i:Int):=by omega
 have i1:(i:Int)<(L.length:Int):=by omega
 have d0:decide ((i:Int)<(L.length:Int))=true:=PD (by omega);have d1:decide ((i:Int)=(L.length:Int))=false:=PC (by omega);simp +decide (maxDischargeDepth:=200) only[go_sem,Nat.reduceBEq,c1];refine aU (fun k=>match k with|2=>[8]|3=>[9]|4=>[10]|5=>[11]|6=>[7,12]|7=>[13]|8=>[14]|9=>[15,14]|10=>[16,14]|11=>[17,14]|12=>[14]|13=>[18,19,14]|14=>[20,14]|15=>[21,14]|16=>[14]|17=>[22,23,14]|18=>[14,24]|_=>[]) [] (fun k=>match k with|_=>0) (fun _ Hx _=>H=Hx) (HS p g off cap i L x s) (by kernel_rfl) (by kernel_rfl) (by kernel_rfl) rfl ?_ ?_ ?_
 . rintro j i' o Hx val st ho hW hj hJ hv hn hb hbb K' hk;have b0:st.t 0= .x (ar p):=hb 0 (by kernel_rfl);have b4:st.t 4= .ptr 4 0:=hb 4 (by kernel_rfl);have b6:st.t 6= .x (.int .i64 ((i:Nat):Int)):=hb 6 (by kernel_rfl);have bb4:st.b 4=some ([.x (.int .i64 s.1),.x (.int .i64 s.2.1),.x (.int .i64 s.2.2)]):=(QP hbb 4).trans (by kernel_rfl);clear hb hbb;subst hJ;rcases i' with _|_|_|_|_|_|_|_|_|_|_|_|_|_|_|_|_|_|_|i'
   . cases ho;simp +decide (maxDischargeDepth:=200) only[go_sem,Nat.reduceBEq,b6,fF,fC0,fC1,zL,iO,eq,io,c1,c2,q1,q2,q3,i0,i1,io,d0,bm,ac];exact hk _ (Le.refl _)
   . cases ho;simp +decide (maxDischargeDepth:=200) only[go_sem,Nat.reduceBEq,b0,fF,fC0,fC1,zL,iO,eq,io,c1,c2,q1,q2,q3,i0,i1,io,d0,bm,ac];exact hk _ (Le.refl _)
   . cases ho;have h8:st.t 8= .x (ar p):=(hn 8 (by decide)).trans (hv 8 (by kernel_rfl));simp +decide (maxDischargeDepth:=200) only[go_sem,Nat.reduceBEq,h8,fF,fC0,fC1,zL,iO,eq,io,c1,c2,q1,q2,q3,i0,i1,io,d0,bm,ac];exact hk _ (Le.refl _)
   . cases ho;have h9:st.t 9= .x (ar p):=(hn 9 (by decide)).trans (hv 9 (by kernel_rfl));simp +decide (maxDischargeDepth:=200) only[go_sem,Nat.reduceBEq,h9,fF,fC0,fC1,zL,iO,eq,io,c1,c2,q1,q2,q3,i0,i1,io,d0,bm,ac];exact hk _ (Le.refl _)
   . cases ho;have h10:st.t 10= .x (ar p):=(hn 10 (by decide)).trans (hv 10 (by kernel_rfl));simp +decide (maxDischargeDepth:=200) only[go_sem,Nat.reduceBEq,h10,fF,fC0,fC1,zL,iO,eq,io,c1,c2,q1,q2,q3,i0,i1,io,d0,bm,ac];exact hk _ (Le.refl _)
   . cases ho;have h11:st.t 11= .x (.slice (some ⟨g,off,none⟩) L.length cap):=(hn 11 (by decide)).trans (hv 11 (by kernel_rfl));simp +decide (maxDischargeDepth:=200) only[go_sem,Nat.reduceBEq,h11,fF,fC0,fC1,zL,iO,eq,io,c1,c2,q1,q2,q3,i0,i1,io,d0,bm,ac];exact hk _ (Le.refl _)
   . cases ho;have h7:st.t 7= .x (.int .i64 ((i:Nat):Int)):=(hn 7 (by decide)).trans (hv 7 (by kernel_rfl));have h12:st.t 12= .x (.int .i64 ((L.length:Nat):Int)):=(hn 12 (by decide)).trans (hv 12 (by kernel_rfl));simp +decide (maxDischargeDepth:=200) only[go_sem,Nat.reduceBEq,h7,h12,fF,fC0,fC1,zL,iO,eq,io,c1,c2,q1,q2,q3,i0,i1,io,d0,bm,ac];exact hk _ (Le.refl _)
   . cases ho;have h13:st.t 13= .x (.bool true):=(hn 13 (by decide)).trans (hv 13 (by kernel_rfl));simp +decide (maxDischargeDepth:=200) only[go_sem,Nat.reduceBEq,h13,fF,fC0,fC1,zL,iO,eq,io,c1,c2,q1,q2,q3,i0,i1,io,d0,bm,ac];exact hk _ (Le.refl _)
   . cases ho;have h14:st.t 14= .x (.bool true):=(hn 14 (by decide)).trans (hv 14 (by kernel_rfl));simp +decide (maxDischargeDepth:=200) only[go_sem,Nat.reduceBEq,b0,h14,fF,fC0,fC1,zL,iO,eq,io,c1,c2,q1,q2,q3,i0,i1,io,d0,bm,ac];exact hk _ (Le.refl _)
   . cases ho;have h15:st.t 15= .x (ar p):=(hn 15 (by decide)).trans (hv 15 (by kernel_rfl));have h14:st.t 14= .x (.bool true):=(hn 14 (by decide)).trans (hv 14 (by kernel_rfl));simp +decide (maxDischargeDepth:=200) only[go_sem,Nat.reduceBEq,h15,h14,fF,fC0,fC1,zL,iO,eq,io,c1,c2,q1,q2,q3,i0,i1,io,d0,bm,ac];exact hk _ (Le.refl _)
   . cases ho;have h16:st.t 16= .x (ar p):=(hn 16 (by decide)).trans (hv 16 (by kernel_rfl));have h14:st.t 14= .x (.bool true):=(hn 14 (by decide)).trans (hv 14 (by kernel_rfl));simp +decide (maxDischargeDepth:=200) only[go_sem,Nat.reduceBEq,h16,h14,fF,fC0,fC1,zL,iO,eq,io,c1,c2,q1,q2,q3,i0,i1,io,d0,bm,ac];exact hk _ (Le.refl _)
   . cases ho;have h17:st.t 17= .x (ar p):=(hn 17 (by decide)).trans (hv 17 (by kernel_rfl));have h14:st.t 14= .x (.bool true):=(hn 14 (by decide)).trans (hv 14 (by kernel_rfl));simp +decide (maxDischargeDepth:=200) only[go_sem,Nat.reduceBEq,h17,h14,fF,fC0,fC1,zL,iO,eq,io,c1,c2,q1,q2,q3,i0,i1,io,d0,bm,ac];exact hk _ (Le.refl _)
   . cases ho;have h14:st.t 14= .x (.bool true):=(hn 14 (by decide)).trans (hv 14 (by kernel_rfl));simp +decide (maxDischargeDepth:=200) only[go_sem,Nat.reduceBEq,b6,h14,fF,fC0,fC1,zL,iO,eq,io,c1,c2,q1,q2,q3,i0,i1,io,d0,bm,ac];exact hk _ (Le.refl _)
   . cases ho;have h18:st.t 18= .x (.slice (some ⟨g,off,none⟩) L.length cap):=(hn 18 (by decide)).trans (hv 18 (by kernel_rfl));have h19:st.t 19= .x (.int .i64 ((i:Nat):Int)):=(hn 19 (by decide)).trans (hv 19 (by kernel_rfl));have h14:st.t 14= .x (.bool true):=(hn 14 (by decide)).trans (hv 14 (by kernel_rfl));simp +decide (maxDischargeDepth:=200) only[go_sem,Nat.reduceBEq,h18,h19,h14,fF,fC0,fC1,zL,iO,eq,io,c1,c2,q1,q2,q3,i0,i1,io,d0,bm,ac];exact hk _ (Le.refl _)
   . cases ho;have h20:st.t 20= .x (.pointer (some ⟨g,off+i*4,none⟩)):=(hn 20 (by decide)).trans (hv 20 (by kernel_rfl));have h14:st.t 14= .x (.bool true):=(hn 14 (by decide)).trans (hv 14 (by kernel_rfl));simp +decide (maxDischargeDepth:=200) only[go_sem,Nat.reduceBEq,h20,h14,fF,fC0,fC1,zL,iO,eq,io,c1,c2,q1,q2,q3,i0,i1,io,d0,bm,ac];exact hk _ (Le.refl _)
   . cases ho;have h21:st.t 21= .x (.pointer (some ⟨g,off+i*4,none⟩)):=(hn 21 (by decide)).trans (hv 21 (by kernel_rfl));have h14:st.t 14= .x (.bool true):=(hn 14 (by decide)).trans (hv 14 (by kernel_rfl));simp +decide (maxDischargeDepth:=200) only[go_sem,Nat.reduceBEq,h21,h14,fF,fC0,fC1,zL,iO,eq,io,c1,c2,q1,q2,q3,i0,i1,io,d0,bm,ac];exact hk _ (Le.refl _)
   . cases ho;have h14:st.t 14= .x (.bool true):=(hn 14 (by decide)).trans (hv 14 (by kernel_rfl));simp +decide (maxDischargeDepth:=200) only[go_sem,Nat.reduceBEq,b4,bb4,h14,fF,fC0,fC1,zL,iO,eq,io,c1,c2,q1,q2,q3,i0,i1,io,d0,bm,ac];exact hk _ (Le.refl _)
   . cases ho;have h22:st.t 22= .agg [.x (.int .i64 x.1.1),.x (.int .i64 x.1.2.1),.x (.int .i64 x.1.2.2)]:=(hn 22 (by decide)).trans (hv 22 (by kernel_rfl));have h23:st.t 23= .agg [.x (.int .i64 s.1),.x (.int .i64 s.2.1),.x (.int .i64 s.2.2)]:=(hn 23 (by decide)).trans (hv 23 (by kernel_rfl));have h14:st.t 14= .x (.bool true):=(hn 14 (by decide)).trans (hv 14 (by kernel_rfl));simp +decide (maxDischargeDepth:=200) only[go_sem,Nat.reduceBEq,h22,h23,h14,fF,fC0,fC1,zL,iO,eq,io,c1,c2,q1,q2,q3,i0,i1,io,d0,bm,ac];exact hk _ (Le.refl _)
   . cases ho;have h14:st.t 14= .x (.bool true):=(hn 14 (by decide)).trans (hv 14 (by kernel_rfl));have h24:st.t 24= .x (.bool (ac x.1 s)):=(hn 24 (by decide)).trans (hv 24 (by kernel_rfl));simp +decide (maxDischargeDepth:=200) only[go_sem,Nat.reduceBEq,h14,h24,fF,fC0,fC1,zL,iO,eq,io,c1,c2,q1,q2,q3,i0,i1,io,d0,bm,ac];exact hk _ (Le.refl _)
   . cases ho
 . rintro j i' o Hx val st hj ho hJ hv hn hb hbb K' hk;have b0:st.t 0= .x (ar p):=hb 0 (by kernel_rfl);have b4:st.t 4= .ptr 4 0:=hb 4 (by kernel_rfl);have b6:st.t 6= .x (.int .i64 ((i:Nat):Int)):=hb 6 (by kernel_rfl);have bb4:st.b 4=some ([.x (.int .i64 s.1),.x (.int .i64 s.2.1),.x (.int .i64 s.2.2)]):=(QP hbb 4).trans (by kernel_rfl);clear hb hbb;rcases j with j
   . cases hj
 . rintro Hx val hJ hv;refine⟨[(0,.x (ar p)),(2,.x (.int .i64 n)),(4,.ptr 4 0),(6,.x (.int .i64 ((i:Nat):Int))),(25,.x (.bool (ac x.1 s)))],[(4,[.x (.int .i64 s.1),.x (.int .i64 s.2.1),.x (.int .i64 s.2.2)])],?_,?_,?_⟩
   . simp +decide only[go_sem,Nat.reduceBEq]<;>(repeat' first|exact bd (by kernel_rfl)|exact(be (by kernel_rfl)).trans (hv _ (by kernel_rfl))|rfl|constructor)
   . simp +decide only[go_sem,Nat.reduceBEq]<;>(repeat' first|rfl|constructor)
   subst hJ;cases hq:ac x.1 s
   case true=>
    simp +decide (maxDischargeDepth:=200) only[go_sem,Nat.reduceBEq,ci];refine⟨⟨i+1,hil,fun j y hj hy=>?_⟩,⟨?_,?_,rfl⟩,by simp only;omega⟩
    . by_cases e:j=i
      . subst e;rw[hx] at hy;cases hy;exact hq
      . exact hlt j y (by omega) hy
    . simp +decide (maxDischargeDepth:=200) only[go_sem,Nat.reduceBEq]
    . simp +decide (maxDischargeDepth:=200) only[go_sem,Nat.reduceBEq]
   have hge:∀x,L[i]?=some x->ac x.1 s=false:=fun y hy=>by rw[hx] at hy;cases hy;exact hq
   simp +decide (maxDischargeDepth:=200) only[go_sem,Nat.reduceBEq];refine aU (fun k=>match k with|2=>[29]|3=>[30]|4=>[31]|5=>[32]|6=>[28,33]|7=>[34]|8=>[35]|9=>[36,35]|10=>[37,35]|11=>[38,35]|12=>[35]|13=>[39,40,35]|14=>[41,35]|15=>[42,35]|16=>[35]|17=>[43,44,35]|18=>[35,45]|_=>[]) [] (fun k=>match k with|_=>0) (fun _ Hx _=>H=Hx) (HU p g off cap i L x s) (by kernel_rfl) (by kernel_rfl) (by kernel_rfl) rfl ?_ ?_ ?_
   . rintro j i' o Hx val st ho hW hj hJ hv hn hb hbb K' hk;have b0:st.t 0= .x (ar p):=hb 0 (by kernel_rfl);have b4:st.t 4= .ptr 4 0:=hb 4 (by kernel_rfl);have b6:st.t 6= .x (.int .i64 ((i:Nat):Int)):=hb 6 (by kernel_rfl);have bb4:st.b 4=some ([.x (.int .i64 s.1),.x (.int .i64 s.2.1),.x (.int .i64 s.2.2)]):=(QP hbb 4).trans (by kernel_rfl);clear hb hbb;subst hJ;rcases i' with _|_|_|_|_|_|_|_|_|_|_|_|_|_|_|_|_|_|_|i'
     . cases ho;simp +decide (maxDischargeDepth:=200) only[go_sem,Nat.reduceBEq,b6,fF,fC0,fC1,zL,iO,eq,io,c1,c2,q1,q2,q3,i0,i1,io,d1,ca,cW];exact hk _ (Le.refl _)
     . cases ho;simp +decide (maxDischargeDepth:=200) only[go_sem,Nat.reduceBEq,b0,fF,fC0,fC1,zL,iO,eq,io,c1,c2,q1,q2,q3,i0,i1,io,d1,ca,cW];exact hk _ (Le.refl _)
     . cases ho;have h29:st.t 29= .x (ar p):=(hn 29 (by decide)).trans (hv 29 (by kernel_rfl));simp +decide (maxDischargeDepth:=200) only[go_sem,Nat.reduceBEq,h29,fF,fC0,fC1,zL,iO,eq,io,c1,c2,q1,q2,q3,i0,i1,io,d1,ca,cW];exact hk _ (Le.refl _)
     . cases ho;have h30:st.t 30= .x (ar p):=(hn 30 (by decide)).trans (hv 30 (by kernel_rfl));simp +decide (maxDischargeDepth:=200) only[go_sem,Nat.reduceBEq,h30,fF,fC0,fC1,zL,iO,eq,io,c1,c2,q1,q2,q3,i0,i1,io,d1,ca,cW];exact hk _ (Le.refl _)
     . cases ho;have h31:st.t 31= .x (ar p):=(hn 31 (by decide)).trans (hv 31 (by kernel_rfl));simp +decide (maxDischargeDepth:=200) only[go_sem,Nat.reduceBEq,h31,fF,fC0,fC1,zL,iO,eq,io,c1,c2,q1,q2,q3,i0,i1,io,d1,ca,cW];exact hk _ (Le.refl _)
     . cases ho;have h32:st.t 32= .x (.slice (some ⟨g,off,none⟩) L.length cap):=(hn 32 (by decide)).trans (hv 32 (by kernel_rfl));simp +decide (maxDischargeDepth:=200) only[go_sem,Nat.reduceBEq,h32,fF,fC0,fC1,zL,iO,eq,io,c1,c2,q1,q2,q3,i0,i1,io,d1,ca,cW];exact hk _ (Le.refl _)
     . cases ho;have h28:st.t 28= .x (.int .i64 ((i:Nat):Int)):=(hn 28 (by decide)).trans (hv 28 (by kernel_rfl));have h33:st.t 33= .x (.int .i64 ((L.length:Nat):Int)):=(hn 33 (by decide)).trans (hv 33 (by kernel_rfl));simp +decide (maxDischargeDepth:=200) only[go_sem,Nat.reduceBEq,h28,h33,fF,fC0,fC1,zL,iO,eq,io,c1,c2,q1,q2,q3,i0,i1,io,d1,ca,cW];exact hk _ (Le.refl _)
     . cases ho;have h34:st.t 34= .x (.bool false):=(hn 34 (by decide)).trans (hv 34 (by kernel_rfl));simp +decide (maxDischargeDepth:=200) only[go_sem,Nat.reduceBEq,h34,fF,fC0,fC1,zL,iO,eq,io,c1,c2,q1,q2,q3,i0,i1,io,d1,ca,cW];exact hk _ (Le.refl _)
     . cases ho;have h35:st.t 35= .x (.bool false):=(hn 35 (by decide)).trans (hv 35 (by kernel_rfl));simp +decide (maxDischargeDepth:=200) only[go_sem,Nat.reduceBEq,b0,h35,fF,fC0,fC1,zL,iO,eq,io,c1,c2,q1,q2,q3,i0,i1,io,d1,ca,cW];exact hk _ (Le.refl _)
     . cases ho;have h36:st.t 36= .x (ar p):=(hn 36 (by decide)).trans (hv 36 (by kernel_rfl));have h35:st.t 35= .x (.bool false):=(hn 35 (by decide)).trans (hv 35 (by kernel_rfl));simp +decide (maxDischargeDepth:=200) only[go_sem,Nat.reduceBEq,h36,h35,fF,fC0,fC1,zL,iO,eq,io,c1,c2,q1,q2,q3,i0,i1,io,d1,ca,cW];exact hk _ (Le.refl _)
     . cases ho;have h37:st.t 37= .x (ar p):=(hn 37 (by decide)).trans (hv 37 (by kernel_rfl));have h35:st.t 35= .x (.bool false):=(hn 35 (by decide)).trans (hv 35 (by kernel_rfl));simp +decide (maxDischargeDepth:=200) only[go_sem,Nat.reduceBEq,h37,h35,fF,fC0,fC1,zL,iO,eq,io,c1,c2,q1,q2,q3,i0,i1,io,d1,ca,cW];exact hk _ (Le.refl _)
     . cases ho;have h38:st.t 38= .x (ar p):=(hn 38 (by decide)).trans (hv 38 (by kernel_rfl));have h35:st.t 35= .x (.bool false):=(hn 35 (by decide)).trans (hv 35 (by kernel_rfl));simp +decide (maxDischargeDepth:=200) only[go_sem,Nat.reduceBEq,h38,h35,fF,fC0,fC1,zL,iO,eq,io,c1,c2,q1,q2,q3,i0,i1,io,d1,ca,cW];exact hk _ (Le.refl _)
     . cases ho;have h35:st.t 35= .x (.bool false):=(hn 35 (by decide)).trans (hv 35 (by kernel_rfl));simp +decide (maxDischargeDepth:=200) only[go_sem,Nat.reduceBEq,b6,h35,fF,fC0,fC1,zL,iO,eq,io,c1,c2,q1,q2,q3,i0,i1,io,d1,ca,cW];exact hk _ (Le.refl _)
     . cases ho;have h39:st.t 39= .x (.slice (some ⟨g,off,none⟩) L.length cap):=(hn 39 (by decide)).trans (hv 39 (by kernel_rfl));have h40:st.t 40= .x (.int .i64 ((i:Nat):Int)):=(hn 40 (by decide)).trans (hv 40 (by kernel_rfl));have h35:st.t 35= .x (.bool false):=(hn 35 (by decide)).trans (hv 35 (by kernel_rfl));simp +decide (maxDischargeDepth:=200) only[go_sem,Nat.reduceBEq,h39,h40,h35,fF,fC0,fC1,zL,iO,eq,io,c1,c2,q1,q2,q3,i0,i1,io,d1,ca,cW];exact hk _ (Le.refl _)
     . cases ho;have h41:st.t 41= .x (.pointer (some ⟨g,off+i*4,none⟩)):=(hn 41 (by decide)).trans (hv 41 (by kernel_rfl));have h35:st.t 35= .x (.bool false):=(hn 35 (by decide)).trans (hv 35 (by kernel_rfl));simp +decide (maxDischargeDepth:=200) only[go_sem,Nat.reduceBEq,h41,h35,fF,fC0,fC1,zL,iO,eq,io,c1,c2,q1,q2,q3,i0,i1,io,d1,ca,cW];exact hk _ (Le.refl _)
     . cases ho;have h42:st.t 42= .x (.pointer (some ⟨g,off+i*4,none⟩)):=(hn 42 (by decide)).trans (hv 42 (by kernel_rfl));have h35:st.t 35= .x (.bool false):=(hn 35 (by decide)).trans (hv 35 (by kernel_rfl));simp +decide (maxDischargeDepth:=200) only[go_sem,Nat.reduceBEq,h42,h35,fF,fC0,fC1,zL,iO,eq,io,c1,c2,q1,q2,q3,i0,i1,io,d1,ca,cW];exact hk _ (Le.refl _)
     . cases ho;have h35:st.t 35= .x (.bool false):=(hn 35 (by decide)).trans (hv 35 (by kernel_rfl));simp +decide (maxDischargeDepth:=200) only[go_sem,Nat.reduceBEq,b4,bb4,h35,fF,fC0,fC1,zL,iO,eq,io,c1,c2,q1,q2,q3,i0,i1,io,d1,ca,cW];exact hk _ (Le.refl _)
     . cases ho;have h43:st.t 43= .agg [.x (.int .i64 x.1.1),.x (.int .i64 x.1.2.1),.x (.int .i64 x.1.2.2)]:=(hn 43 (by decide)).trans (hv 43 (by kernel_rfl));have h44:st.t 44= .agg [.x (.int .i64 s.1),.x (.int .i64 s.2.1),.x (.int .i64 s.2.2)]:=(hn 44 (by decide)).trans (hv 44 (by kernel_rfl));have h35:st.t 35= .x (.bool false):=(hn 35 (by decide)).trans (hv 35 (by kernel_rfl));simp +decide (maxDischargeDepth:=200) only[go_sem,Nat.reduceBEq,h43,h44,h35,fF,fC0,fC1,zL,iO,eq,io,c1,c2,q1,q2,q3,i0,i1,io,d1,ca,cW];exact hk _ (Le.refl _)
     . cases ho;have h35:st.t 35= .x (.bool false):=(hn 35 (by decide)).trans (hv 35 (by kernel_rfl));have h45:st.t 45= .x (.bool (!cW x.1 s)):=(hn 45 (by decide)).trans (hv 45 (by kernel_rfl));simp +decide (maxDischargeDepth:=200) only[go_sem,Nat.reduceBEq,h35,h45,fF,fC0,fC1,zL,iO,eq,io,c1,c2,q1,q2,q3,i0,i1,io,d1,ca,cW];exact hk _ (Le.refl _)
     . cases ho
   . rintro j i' o Hx val st hj ho hJ hv hn hb hbb K' hk;have b0:st.t 0= .x (ar p):=hb 0 (by kernel_rfl);have b4:st.t 4= .ptr 4 0:=hb 4 (by kernel_rfl);have b6:st.t 6= .x (.int .i64 ((i:Nat):Int)):=hb 6 (by kernel_rfl);have bb4:st.b 4=some ([.x (.int .i64 s.1),.x (.int .i64 s.2.1),.x (.int .i64 s.2.2)]):=(QP hbb 4).trans (by kernel_rfl);clear hb hbb;rcases j with j
     . cases hj
   . rintro Hx val hJ hv;refine⟨[(0,.x (ar p)),(2,.x (.int .i64 n)),(4,.ptr 4 0),(6,.x (.int .i64 ((i:Nat):Int))),(46,.x (.bool (!cW x.1 s)))],[(4,[.x (.int .i64 s.1),.x (.int .i64 s.2.1),.x (.int .i64 s.2.2)])],?_,?_,?_⟩
     . simp +decide only[go_sem,Nat.reduceBEq]<;>(repeat' first|exact bd (by kernel_rfl)|exact(be (by kernel_rfl)).trans (hv _ (by kernel_rfl))|rfl|constructor)
     . simp +decide only[go_sem,Nat.reduceBEq]<;>(repeat' first|rfl|constructor)
     subst hJ;cases hq2:cW x.1 s
     case true=>
      simp +decide (maxDischargeDepth:=200) only[go_sem,Nat.reduceBEq,Rg];obtain⟨xs,m⟩:=x;obtain rfl:xs=s:=gH.1 hq2;have hgi:=(PE.1 hx).2;obtain⟨A,hA0⟩:∃A,A=L.take i:=⟨_,rfl⟩;obtain⟨B,hB0⟩:∃B,B=L.drop (i+1):=⟨_,rfl⟩;have hLs:L=A++(xs,m)::B:=by rw[hA0,hB0,<-hgi,<-R7 hil,Qv]
      have hAl:A.length=i:=by rw[hA0,P8];omega
      have hm0:m≠0:=hz (xs,m) (PM hx);have hpa:∀x∈A,ac x.1 xs=true:=fun y hy=>by rw[hA0] at hy;exact(mw hS (Sp hil) hlt hge).1 y hy
      have hpb:∀x∈B,ac xs x.1=true:=fun y hy=>by have:=hS;rw[hLs,eP,Ry,Q6] at this;exact this.2.1.1 y hy
      have hmb:=hsmn xs;rw[show bn L xs=m from fb hS (PM hx)] at hmb;have finK:=finL A B m hpa hpb (by rw[PS hm0,QK,hLs];rfl);obtain⟨N,hN0⟩:∃N,N=L.length:=⟨_,rfl⟩;rw[<-hN0] at hp hr hne hC3 finK;have hN:N=(A++(xs,m)::B).length:=by rw[hN0,<-hLs]
      have hiN:i<=N:=by omega
      have hiN1:i+1<=N:=by omega
      have hl2:N<=cap:=by omega
      have hpg:g≠p:=fun e=>hne (by rw[e];rfl)
      have hfr:∀y,y∉p::(blkOf (.slice (some ⟨g,off,none⟩) N cap)).toList->H y≠none->H y=H y:=fun _ _ _=>rfl
      have hfn:∀y,y∉p::(blkOf (.slice (some ⟨g,off,none⟩) N cap)).toList->H y≠none->y=g->False:=fun y hy _ e=>hy (by subst e;exact P4 _ (by simp[blkOf]))
      have hfo:∀y,blkOf (.slice (some ⟨g,off,none⟩) N cap)=some y->y∈p::(blkOf (.slice (some ⟨g,off,none⟩) N cap)).toList∨H y=none:=fun y hy=> .inl (P4 _ (by rw[hy];simp))
      have hnew:∀y,H y=none->H y=none:=fun _ h=>h
      have hp2:=hp;have hc2:=c2;have hb2:=hC1;have ht2:(C.drop off).take (N*4)=aF (A++(xs,m)::B):=by rw[<-hLs];exact hC3
      have c1:=ak hp2;have u0:(0:Int)<=(i:Int):=by omega
      have u1:(i:Int)<(N:Int):=by omega
      have u2:(C.map V.x)[off+i*4+3]?=some (.x (.int .i64 m)):=by have:=(g5 (L:=A++(xs,m)::B) (i:=i) (x:=(xs,m)) (by rw[<-hN];exact ht2) (by rw[P6 (by omega),hAl,RZ];rfl)).1;exact this
      have u3:off+i*4+3+1<=C.length:=by omega
      have wm:aq .i64 (m+n)=m+n:=aj (by unfold aS;omega);have s3:bg Try.prog 3=some 1:=by kernel_rfl
      have ci:=bh (i:=i) (by omega);have u00:(0:Int)<=((i+1:Nat):Int):=by omega
      refine aU (fun k=>match k with|1=>[68]|2=>[69]|3=>[70]|6=>[73]|7=>[74]|8=>[75]|10=>[76,77]|11=>[78]|12=>[79]|14=>[80,81]|15=>[71,72]|16=>[83]|17=>[84,82]|_=>[]) [17] (fun k=>match k with|0=>0|1=>0|2=>0|3=>0|4=>0|5=>0|6=>0|7=>0|8=>0|9=>0|10=>0|11=>0|12=>0|13=>0|14=>0|15=>0|16=>0|_=>1) (fun j Hx _=>match j with|0=>H=Hx|_=>Hx=aw H g (some (rowO (cF C (off+i*4+3) [.int .i64 (m+n)]) ty))) (Cr p i g off N cap m n) (by kernel_rfl) (by kernel_rfl) (by kernel_rfl) rfl ?_ ?_ ?_
      . rintro j i' o Hx val st ho hW hj hJ hv hn hb hbb K' hk;have b0:st.t 0= .x (ar p):=hb 0 (by kernel_rfl);have b4:st.t 4= .ptr 4 0:=hb 4 (by kernel_rfl);have b6:st.t 6= .x (.int .i64 ((i:Nat):Int)):=hb 6 (by kernel_rfl);have b2:st.t 2= .x (.int .i64 n):=hb 2 (by kernel_rfl);have bb4:st.b 4=some ([.x (.int .i64 xs.1),.x (.int .i64 xs.2.1),.x (.int .i64 xs.2.2)]):=(QP hbb 4).trans (by kernel_rfl);clear hb hbb;rcases i' with _|_|_|_|_|_|_|_|_|_|_|_|_|_|_|_|_|_|i'
        . cases ho;have hJ:H=Hx:=by have h0:j=0:=PV.1 (tl hj (by decide));subst h0;exact hJ
          subst hJ;simp +decide (maxDischargeDepth:=200) only[go_sem,Nat.reduceBEq,b0,fF,fC0,fC1,zL,iO,eq,io,c1,hc2,u0,u1,u2,wm];exact hk _ (Le.refl _)
        . cases ho;have h68:st.t 68= .x (ar p):=(hn 68 (by decide)).trans (hv 68 (by kernel_rfl));have hJ:H=Hx:=by have h0:j=0:=PV.1 (tl hj (by decide));subst h0;exact hJ
          subst hJ;simp +decide (maxDischargeDepth:=200) only[go_sem,Nat.reduceBEq,h68,fF,fC0,fC1,zL,iO,eq,io,c1,hc2,u0,u1,u2,wm];exact hk _ (Le.refl _)
        . cases ho;have h69:st.t 69= .x (ar p):=(hn 69 (by decide)).trans (hv 69 (by kernel_rfl));have hJ:H=Hx:=by have h0:j=0:=PV.1 (tl hj (by decide));subst h0;exact hJ
          subst hJ;simp +decide (maxDischargeDepth:=200) only[go_sem,Nat.reduceBEq,h69,fF,fC0,fC1,zL,iO,eq,io,c1,hc2,u0,u1,u2,wm];exact hk _ (Le.refl _)
        . cases ho;have h70:st.t 70= .x (ar p):=(hn 70 (by decide)).trans (hv 70 (by kernel_rfl));have hJ:H=Hx:=by have h0:j=0:=PV.1 (tl hj (by decide));subst h0;exact hJ
          subst hJ;simp +decide (maxDischargeDepth:=200) only[go_sem,Nat.reduceBEq,h70,fF,fC0,fC1,zL,iO,eq,io,c1,hc2,u0,u1,u2,wm];exact hk _ (Le.refl _)
        . cases ho;have hJ:H=Hx:=by have h0:j=0:=PV.1 (tl hj (by decide));subst h0;exact hJ
          subst hJ;simp +decide (maxDischargeDepth:=200) only[go_sem,Nat.reduceBEq,b6,fF,fC0,fC1,zL,iO,eq,io,c1,hc2,u0,u1,u2,wm];exact hk _ (Le.refl _)
        . cases ho;have hJ:H=Hx:=by have h0:j=0:=PV.1 (tl hj (by decide));subst h0;exact hJ
          subst hJ;simp +decide (maxDischargeDepth:=200) only[go_sem,Nat.reduceBEq,b0,fF,fC0,fC1,zL,iO,eq,io,c1,hc2,u0,u1,u2,wm];exact hk _ (Le.refl _)
        . cases ho;have h73:st.t 73= .x (ar p):=(hn 73 (by decide)).trans (hv 73 (by kernel_rfl));have hJ:H=Hx:=by have h0:j=0:=PV.1 (tl hj (by decide));subst h0;exact hJ
          subst hJ;simp +decide (maxDischargeDepth:=200) only[go_sem,Nat.reduceBEq,h73,fF,fC0,fC1,zL,iO,eq,io,c1,hc2,u0,u1,u2,wm];exact hk _ (Le.refl _)
        . cases ho;have h74:st.t 74= .x (ar p):=(hn 74 (by decide)).trans (hv 74 (by kernel_rfl));have hJ:H=Hx:=by have h0:j=0:=PV.1 (tl hj (by decide));subst h0;exact hJ
          subst hJ;simp +decide (maxDischargeDepth:=200) only[go_sem,Nat.reduceBEq,h74,fF,fC0,fC1,zL,iO,eq,io,c1,hc2,u0,u1,u2,wm];exact hk _ (Le.refl _)
        . cases ho;have h75:st.t 75= .x (ar p):=(hn 75 (by decide)).trans (hv 75 (by kernel_rfl));have hJ:H=Hx:=by have h0:j=0:=PV.1 (tl hj (by decide));subst h0;exact hJ
          subst hJ;simp +decide (maxDischargeDepth:=200) only[go_sem,Nat.reduceBEq,h75,fF,fC0,fC1,zL,iO,eq,io,c1,hc2,u0,u1,u2,wm];exact hk _ (Le.refl _)
        . cases ho;have hJ:H=Hx:=by have h0:j=0:=PV.1 (tl hj (by decide));subst h0;exact hJ
          subst hJ;simp +decide (maxDischargeDepth:=200) only[go_sem,Nat.reduceBEq,b6,fF,fC0,fC1,zL,iO,eq,io,c1,hc2,u0,u1,u2,wm];exact hk _ (Le.refl _)
        . cases ho;have h76:st.t 76= .x (.slice (some ⟨g,off,none⟩) N cap):=(hn 76 (by decide)).trans (hv 76 (by kernel_rfl));have h77:st.t 77= .x (.int .i64 ((i:Nat):Int)):=(hn 77 (by decide)).trans (hv 77 (by kernel_rfl));have hJ:H=Hx:=by have h0:j=0:=PV.1 (tl hj (by decide));subst h0;exact hJ
          subst hJ;simp +decide (maxDischargeDepth:=200) only[go_sem,Nat.reduceBEq,h76,h77,fF,fC0,fC1,zL,iO,eq,io,c1,hc2,u0,u1,u2,wm];exact hk _ (Le.refl _)
        . cases ho;have h78:st.t 78= .x (.pointer (some ⟨g,off+i*4,none⟩)):=(hn 78 (by decide)).trans (hv 78 (by kernel_rfl));have hJ:H=Hx:=by have h0:j=0:=PV.1 (tl hj (by decide));subst h0;exact hJ
          subst hJ;simp +decide (maxDischargeDepth:=200) only[go_sem,Nat.reduceBEq,h78,fF,fC0,fC1,zL,iO,eq,io,c1,hc2,u0,u1,u2,wm];exact hk _ (Le.refl _)
        . cases ho;have h79:st.t 79= .x (.pointer (some ⟨g,off+i*4+3,none⟩)):=(hn 79 (by decide)).trans (hv 79 (by kernel_rfl));have hJ:H=Hx:=by have h0:j=0:=PV.1 (tl hj (by decide));subst h0;exact hJ
          subst hJ;simp +decide (maxDischargeDepth:=200) only[go_sem,Nat.reduceBEq,h79,fF,fC0,fC1,zL,iO,eq,io,c1,hc2,u0,u1,u2,wm];exact hk _ (Le.refl _)
        . cases ho;have hJ:H=Hx:=by have h0:j=0:=PV.1 (tl hj (by decide));subst h0;exact hJ
          subst hJ;simp +decide (maxDischargeDepth:=200) only[go_sem,Nat.reduceBEq,b2,fF,fC0,fC1,zL,iO,eq,io,c1,hc2,u0,u1,u2,wm];exact hk _ (Le.refl _)
        . cases ho;have h80:st.t 80= .x (.int .i64 m):=(hn 80 (by decide)).trans (hv 80 (by kernel_rfl));have h81:st.t 81= .x (.int .i64 n):=(hn 81 (by decide)).trans (hv 81 (by kernel_rfl));have hJ:H=Hx:=by have h0:j=0:=PV.1 (tl hj (by decide));subst h0;exact hJ
          subst hJ;simp +decide (maxDischargeDepth:=200) only[go_sem,Nat.reduceBEq,h80,h81,fF,fC0,fC1,zL,iO,eq,io,c1,hc2,u0,u1,u2,wm];exact hk _ (Le.refl _)
        . cases ho;have h71:st.t 71= .x (.slice (some ⟨g,off,none⟩) N cap):=(hn 71 (by decide)).trans (hv 71 (by kernel_rfl));have h72:st.t 72= .x (.int .i64 ((i:Nat):Int)):=(hn 72 (by decide)).trans (hv 72 (by kernel_rfl));have hJ:H=Hx:=by have h0:j=0:=PV.1 (tl hj (by decide));subst h0;exact hJ
          subst hJ;simp +decide (maxDischargeDepth:=200) only[go_sem,Nat.reduceBEq,h71,h72,fF,fC0,fC1,zL,iO,eq,io,c1,hc2,u0,u1,u2,wm];exact hk _ (Le.refl _)
        . cases ho;have h83:st.t 83= .x (.pointer (some ⟨g,off+i*4,none⟩)):=(hn 83 (by decide)).trans (hv 83 (by kernel_rfl));have hJ:H=Hx:=by have h0:j=0:=PV.1 (tl hj (by decide));subst h0;exact hJ
          subst hJ;simp +decide (maxDischargeDepth:=200) only[go_sem,Nat.reduceBEq,h83,fF,fC0,fC1,zL,iO,eq,io,c1,hc2,u0,u1,u2,wm];exact hk _ (Le.refl _)
        . cases hW
        . cases ho
      . rintro j i' o Hx val st hj ho hJ hv hn hb hbb K' hk;have b0:st.t 0= .x (ar p):=hb 0 (by kernel_rfl);have b4:st.t 4= .ptr 4 0:=hb 4 (by kernel_rfl);have b6:st.t 6= .x (.int .i64 ((i:Nat):Int)):=hb 6 (by kernel_rfl);have b2:st.t 2= .x (.int .i64 n):=hb 2 (by kernel_rfl);have bb4:st.b 4=some ([.x (.int .i64 xs.1),.x (.int .i64 xs.2.1),.x (.int .i64 xs.2.2)]):=(QP hbb 4).trans (by kernel_rfl);clear hb hbb;rcases j with _|j
        . cases hj;cases ho;have h84:st.t 84= .x (.pointer (some ⟨g,off+i*4+3,none⟩)):=(hn 84 (by decide)).trans (hv 84 (by kernel_rfl));have h82:st.t 82= .x (.int .i64 (m+n)):=(hn 82 (by decide)).trans (hv 82 (by kernel_rfl));have hJ:H=Hx:=hJ;subst hJ;simp +decide (maxDischargeDepth:=200) only[go_sem,Nat.reduceBEq,h84,h82,fF,fC0,fC1,zL,iO,eq,io,hc2,u3,s3];exact hk _ .undef _ rfl (Le.refl _)
        . cases hj
      . rintro Hx val hJ hv;refine⟨[(0,.x (ar p)),(2,.x (.int .i64 n)),(4,.ptr 4 0),(6,.x (.int .i64 ((i:Nat):Int)))],[(4,[.x (.int .i64 xs.1),.x (.int .i64 xs.2.1),.x (.int .i64 xs.2.2)])],?_,?_,?_⟩
        . simp +decide only[go_sem,Nat.reduceBEq]<;>(repeat' first|exact bd (by kernel_rfl)|exact(be (by kernel_rfl)).trans (hv _ (by kernel_rfl))|rfl|constructor)
        . simp +decide only[go_sem,Nat.reduceBEq]<;>(repeat' first|rfl|constructor)
        have hJ:Hx=aw H g (some (rowO (cF C (off+i*4+3) [.int .i64 (m+n)]) ty)):=hJ;subst hJ;clear hv c1;obtain⟨H3,hH3⟩:∃H3,H3=aw H g (some (rowO (cF C (off+i*4+3) [.int .i64 (m+n)]) ty)):=⟨_,rfl⟩;rw[<-hH3];have hp3:H3 p=some (rowO [(.slice (some ⟨g,off,none⟩) N cap)] 53):=by rw[hH3,ae _ _ (QT hpg)];exact hp2
        have hc3:au H3 g=some (cF C (off+i*4+3) [.int .i64 (m+n)],ty):=ak (by rw[hH3,aa]);have c1:=ak hp3;have v2:=pb (C:=C) (u:= .int .i64 (m+n)) (show off+i*4+3<C.length by omega);have hrow3:RowV H3 (.slice (some ⟨g,off,none⟩) N cap) 4 (aF (A++(xs,m+n)::B)):=by
         refine .inr ⟨g,off,N,cap,(cF C (off+i*4+3) [.int .i64 (m+n)]).toArray,ty,rfl,by rw[hH3,aa];rfl,hl2,?_,?_⟩
         . rw[QC,pa (by omega)];exact hb2
         . have:=o9 (C:=C) (off:=off) (A:=A) (B:=B) (s:=xs) (m:=m) (q:=m+n) (by rw[<-hN];omega) (by rw[<-hN];exact ht2);rw[hAl,show(A++(xs,m+n)::B).length=N by rw[hN];simp] at this;exact this
        cases hz0:decide (m+n=0)
        . simp +decide (maxDischargeDepth:=200) only[go_sem,Nat.reduceBEq,fF,fC0,fC1,zL,iO,eq,io,c1,hc3,v2,u0,u1,hz0];have hz1:=RV hz0;exact finK H3 (some ⟨g,off,none⟩) N cap (A++(xs,m+n)::B) (by rw[hN];simp) hp3 hrow3 (fun e=>hpg (QE e)) (by rw[PS hz1,QK];rfl) (fun y hy hy2=>by rw[hH3];exact(ae _ _ (fun e=>hfn y hy hy2 e)).trans (hfr y hy hy2)) (fun y hy=>hfo y hy)
        . have hz1:=QA hz0;have hcut1:=hrow3.cut (l:=0) (h:=i) (PH _) (by show i<=N;omega);have hcut2:=hrow3.cut (l:=i+1) (h:=N) (by omega) (PB N);have e1:((aF (A++(xs,m+n)::B)).take (i*4)).drop (0*4)=aF A:=by rw[Q4,Rm,fI,Qy (by omega),<-hAl,QL]
          have e2:((aF (A++(xs,m+n)::B)).take (N*4)).drop ((i+1)*4)=aF B:=by rw[Qb (by rw[bG,hN];simp),eK,List.drop_append,hAl,RT,Rt (by omega)];rfl
          rw[e1] at hcut1;rw[e2] at hcut2;have hex:(∃cs,RowV H3 (.slice (some ⟨g,off,none⟩) N cap) 4 cs):=⟨_,hrow3⟩;have n1:((i+1:Nat):Int).toNat=i+1:=io _;simp +decide (maxDischargeDepth:=200) only[go_sem,Nat.reduceBEq,fF,fC0,fC1,zL,iO,eq,io,c1,hc3,v2,u0,u1,hz0];have jf:∀(j:Nat) (Hx:HH) (val:Nat->V),j<=2->(fun j Hx val=>match j with|0=>GrowJ H3 Hx (.slice none 0 0) [] 0|1=>∃v,val 101= .x v∧GrowJ H3 Hx v (aF A) i|2=>∃v,val 109= .x v∧GrowJ H3 Hx v (aF (A++B)) (N-1)|_=>∃v H4,GrowJ H3 H4 v (aF (A++B)) (N-1)∧Hx=aw H4 p (some (rowO [v] 53))) j Hx val->∀y,H3 y≠none->Hx y=H3 y:=fun j Hx val hj hJ=>by
           rcases j with _|_|_|j
           . exact hJ.2.2.1
           . obtain⟨v,_,h⟩:=hJ;exact h.2.2.1
           . obtain⟨v,_,h⟩:=hJ;exact h.2.2.1
           . omega
          refine aU (fun k=>match k with|2=>[95]|3=>[96]|4=>[97]|6=>[98,99]|7=>[100]|9=>[102]|10=>[103]|11=>[104]|13=>[106]|14=>[105,107]|15=>[101,108]|16=>[94]|17=>[110]|18=>[111,109]|_=>[]) [7,15,18] (fun k=>match k with|0=>2|1=>0|2=>0|3=>0|4=>0|5=>0|6=>0|8=>1|9=>1|10=>1|11=>1|12=>1|13=>1|14=>1|16=>2|17=>2|_=>3) (fun j Hx val=>match j with|0=>GrowJ H3 Hx (.slice none 0 0) [] 0|1=>∃v,val 101= .x v∧GrowJ H3 Hx v (aF A) i|2=>∃v,val 109= .x v∧GrowJ H3 Hx v (aF (A++B)) (N-1)|_=>∃v H4,GrowJ H3 H4 v (aF (A++B)) (N-1)∧Hx=aw H4 p (some (rowO [v] 53))) (Ct p i g off N cap) (by kernel_rfl) (by kernel_rfl) (by kernel_rfl) (GrowJ.start H3) ?_ ?_ ?_
          . rintro j i' o Hx val st ho hW hj hJ hv hn hb hbb K' hk;have b0:st.t 0= .x (ar p):=hb 0 (by kernel_rfl);have b4:st.t 4= .ptr 4 0:=hb 4 (by kernel_rfl);have b6:st.t 6= .x (.int .i64 ((i:Nat):Int)):=hb 6 (by kernel_rfl);have bb4:st.b 4=some ([.x (.int .i64 xs.1),.x (.int .i64 xs.2.1),.x (.int .i64 xs.2.2)]):=(QP hbb 4).trans (by kernel_rfl);clear hb hbb;rcases i' with _|_|_|_|_|_|_|_|_|_|_|_|_|_|_|_|_|_|_|i'
            . cases ho;have hf:=jf _ _ _ (tl hj (by decide)) hJ;have c1:au Hx p=some ([(.slice (some ⟨g,off,none⟩) N cap)],53):=ak (by rw[hf p (by rw[hp3];simp)];exact hp3);have hex:(∃cs,RowV Hx (.slice (some ⟨g,off,none⟩) N cap) 4 cs):=⟨_,hrow3.to (fun g hg=>hf g (by cases hg;rw[hH3,aa];simp))⟩;simp +decide (maxDischargeDepth:=200) only[go_sem,Nat.reduceBEq,b0,fF,fC0,fC1,zL,iO,eq,io,c1,hex,u0,u00,n1,ci,PH,hiN,hiN1,aB,PB];exact hk _ (Le.refl _)
            . cases ho;have hf:=jf _ _ _ (tl hj (by decide)) hJ;have c1:au Hx p=some ([(.slice (some ⟨g,off,none⟩) N cap)],53):=ak (by rw[hf p (by rw[hp3];simp)];exact hp3);have hex:(∃cs,RowV Hx (.slice (some ⟨g,off,none⟩) N cap) 4 cs):=⟨_,hrow3.to (fun g hg=>hf g (by cases hg;rw[hH3,aa];simp))⟩;simp +decide (maxDischargeDepth:=200) only[go_sem,Nat.reduceBEq,b0,fF,fC0,fC1,zL,iO,eq,io,c1,hex,u0,u00,n1,ci,PH,hiN,hiN1,aB,PB];exact hk _ (Le.refl _)
            . cases ho;have h95:st.t 95= .x (ar p):=(hn 95 (by decide)).trans (hv 95 (by kernel_rfl));have hf:=jf _ _ _ (tl hj (by decide)) hJ;have c1:au Hx p=some ([(.slice (some ⟨g,off,none⟩) N cap)],53):=ak (by rw[hf p (by rw[hp3];simp)];exact hp3);have hex:(∃cs,RowV Hx (.slice (some ⟨g,off,none⟩) N cap) 4 cs):=⟨_,hrow3.to (fun g hg=>hf g (by cases hg;rw[hH3,aa];simp))⟩;simp +decide (maxDischargeDepth:=200) only[go_sem,Nat.reduceBEq,h95,fF,fC0,fC1,zL,iO,eq,io,c1,hex,u0,u00,n1,ci,PH,hiN,hiN1,aB,PB];exact hk _ (Le.refl _)
            . cases ho;have h96:st.t 96= .x (ar p):=(hn 96 (by decide)).trans (hv 96 (by kernel_rfl));have hf:=jf _ _ _ (tl hj (by decide)) hJ;have c1:au Hx p=some ([(.slice (some ⟨g,off,none⟩) N cap)],53):=ak (by rw[hf p (by rw[hp3];simp)];exact hp3);have hex:(∃cs,RowV Hx (.slice (some ⟨g,off,none⟩) N cap) 4 cs):=⟨_,hrow3.to (fun g hg=>hf g (by cases hg;rw[hH3,aa];simp))⟩;simp +decide (maxDischargeDepth:=200) only[go_sem,Nat.reduceBEq,h96,fF,fC0,fC1,zL,iO,eq,io,c1,hex,u0,u00,n1,ci,PH,hiN,hiN1,aB,PB];exact hk _ (Le.refl _)
            . cases ho;have h97:st.t 97= .x (ar p):=(hn 97 (by decide)).trans (hv 97 (by kernel_rfl));have hf:=jf _ _ _ (tl hj (by decide)) hJ;have c1:au Hx p=some ([(.slice (some ⟨g,off,none⟩) N cap)],53):=ak (by rw[hf p (by rw[hp3];simp)];exact hp3);have hex:(∃cs,RowV Hx (.slice (some ⟨g,off,none⟩) N cap) 4 cs):=⟨_,hrow3.to (fun g hg=>hf g (by cases hg;rw[hH3,aa];simp))⟩;simp +decide (maxDischargeDepth:=200) only[go_sem,Nat.reduceBEq,h97,fF,fC0,fC1,zL,iO,eq,io,c1,hex,u0,u00,n1,ci,PH,hiN,hiN1,aB,PB];exact hk _ (Le.refl _)
            . cases ho;have hf:=jf _ _ _ (tl hj (by decide)) hJ;have c1:au Hx p=some ([(.slice (some ⟨g,off,none⟩) N cap)],53):=ak (by rw[hf p (by rw[hp3];simp)];exact hp3);have hex:(∃cs,RowV Hx (.slice (some ⟨g,off,none⟩) N cap) 4 cs):=⟨_,hrow3.to (fun g hg=>hf g (by cases hg;rw[hH3,aa];simp))⟩;simp +decide (maxDischargeDepth:=200) only[go_sem,Nat.reduceBEq,b6,fF,fC0,fC1,zL,iO,eq,io,c1,hex,u0,u00,n1,ci,PH,hiN,hiN1,aB,PB];exact hk _ (Le.refl _)
            . cases ho;have h98:st.t 98= .x (.slice (some ⟨g,off,none⟩) N cap):=(hn 98 (by decide)).trans (hv 98 (by kernel_rfl));have h99:st.t 99= .x (.int .i64 ((i:Nat):Int)):=(hn 99 (by decide)).trans (hv 99 (by kernel_rfl));have hf:=jf _ _ _ (tl hj (by decide)) hJ;have c1:au Hx p=some ([(.slice (some ⟨g,off,none⟩) N cap)],53):=ak (by rw[hf p (by rw[hp3];simp)];exact hp3);have hex:(∃cs,RowV Hx (.slice (some ⟨g,off,none⟩) N cap) 4 cs):=⟨_,hrow3.to (fun g hg=>hf g (by cases hg;rw[hH3,aa];simp))⟩;simp +decide (maxDischargeDepth:=200) only[go_sem,Nat.reduceBEq,h98,h99,fF,fC0,fC1,zL,iO,eq,io,c1,hex,u0,u00,n1,ci,PH,hiN,hiN1,aB,PB];exact hk _ (Le.refl _)
            . cases hW
            . cases ho;have hf:=jf _ _ _ (tl hj (by decide)) hJ;have c1:au Hx p=some ([(.slice (some ⟨g,off,none⟩) N cap)],53):=ak (by rw[hf p (by rw[hp3];simp)];exact hp3);have hex:(∃cs,RowV Hx (.slice (some ⟨g,off,none⟩) N cap) 4 cs):=⟨_,hrow3.to (fun g hg=>hf g (by cases hg;rw[hH3,aa];simp))⟩;simp +decide (maxDischargeDepth:=200) only[go_sem,Nat.reduceBEq,b0,fF,fC0,fC1,zL,iO,eq,io,c1,hex,u0,u00,n1,ci,PH,hiN,hiN1,aB,PB];exact hk _ (Le.refl _)
            . cases ho;have h102:st.t 102= .x (ar p):=(hn 102 (by decide)).trans (hv 102 (by kernel_rfl));have hf:=jf _ _ _ (tl hj (by decide)) hJ;have c1:au Hx p=some ([(.slice (some ⟨g,off,none⟩) N cap)],53):=ak (by rw[hf p (by rw[hp3];simp)];exact hp3);have hex:(∃cs,RowV Hx (.slice (some ⟨g,off,none⟩) N cap) 4 cs):=⟨_,hrow3.to (fun g hg=>hf g (by cases hg;rw[hH3,aa];simp))⟩;simp +decide (maxDischargeDepth:=200) only[go_sem,Nat.reduceBEq,h102,fF,fC0,fC1,zL,iO,eq,io,c1,hex,u0,u00,n1,ci,PH,hiN,hiN1,aB,PB];exact hk _ (Le.refl _)
            . cases ho;have h103:st.t 103= .x (ar p):=(hn 103 (by decide)).trans (hv 103 (by kernel_rfl));have hf:=jf _ _ _ (tl hj (by decide)) hJ;have c1:au Hx p=some ([(.slice (some ⟨g,off,none⟩) N cap)],53):=ak (by rw[hf p (by rw[hp3];simp)];exact hp3);have hex:(∃cs,RowV Hx (.slice (some ⟨g,off,none⟩) N cap) 4 cs):=⟨_,hrow3.to (fun g hg=>hf g (by cases hg;rw[hH3,aa];simp))⟩;simp +decide (maxDischargeDepth:=200) only[go_sem,Nat.reduceBEq,h103,fF,fC0,fC1,zL,iO,eq,io,c1,hex,u0,u00,n1,ci,PH,hiN,hiN1,aB,PB];exact hk _ (Le.refl _)
            . cases ho;have h104:st.t 104= .x (ar p):=(hn 104 (by decide)).trans (hv 104 (by kernel_rfl));have hf:=jf _ _ _ (tl hj (by decide)) hJ;have c1:au Hx p=some ([(.slice (some ⟨g,off,none⟩) N cap)],53):=ak (by rw[hf p (by rw[hp3];simp)];exact hp3);have hex:(∃cs,RowV Hx (.slice (some ⟨g,off,none⟩) N cap) 4 cs):=⟨_,hrow3.to (fun g hg=>hf g (by cases hg;rw[hH3,aa];simp))⟩;simp +decide (maxDischargeDepth:=200) only[go_sem,Nat.reduceBEq,h104,fF,fC0,fC1,zL,iO,eq,io,c1,hex,u0,u00,n1,ci,PH,hiN,hiN1,aB,PB];exact hk _ (Le.refl _)
            . cases ho;have hf:=jf _ _ _ (tl hj (by decide)) hJ;have c1:au Hx p=some ([(.slice (some ⟨g,off,none⟩) N cap)],53):=ak (by rw[hf p (by rw[hp3];simp)];exact hp3);have hex:(∃cs,RowV Hx (.slice (some ⟨g,off,none⟩) N cap) 4 cs):=⟨_,hrow3.to (fun g hg=>hf g (by cases hg;rw[hH3,aa];simp))⟩;simp +decide (maxDischargeDepth:=200) only[go_sem,Nat.reduceBEq,b6,fF,fC0,fC1,zL,iO,eq,io,c1,hex,u0,u00,n1,ci,PH,hiN,hiN1,aB,PB];exact hk _ (Le.refl _)
            . cases ho;have h106:st.t 106= .x (.int .i64 ((i:Nat):Int)):=(hn 106 (by decide)).trans (hv 106 (by kernel_rfl));have hf:=jf _ _ _ (tl hj (by decide)) hJ;have c1:au Hx p=some ([(.slice (some ⟨g,off,none⟩) N cap)],53):=ak (by rw[hf p (by rw[hp3];simp)];exact hp3);have hex:(∃cs,RowV Hx (.slice (some ⟨g,off,none⟩) N cap) 4 cs):=⟨_,hrow3.to (fun g hg=>hf g (by cases hg;rw[hH3,aa];simp))⟩;simp +decide (maxDischargeDepth:=200) only[go_sem,Nat.reduceBEq,h106,fF,fC0,fC1,zL,iO,eq,io,c1,hex,u0,u00,n1,ci,PH,hiN,hiN1,aB,PB];exact hk _ (Le.refl _)
            . cases ho;have h105:st.t 105= .x (.slice (some ⟨g,off,none⟩) N cap):=(hn 105 (by decide)).trans (hv 105 (by kernel_rfl));have h107:st.t 107= .x (.int .i64 (((i+1):Nat):Int)):=(hn 107 (by decide)).trans (hv 107 (by kernel_rfl));have hf:=jf _ _ _ (tl hj (by decide)) hJ;have c1:au Hx p=some ([(.slice (some ⟨g,off,none⟩) N cap)],53):=ak (by rw[hf p (by rw[hp3];simp)];exact hp3);have hex:(∃cs,RowV Hx (.slice (some ⟨g,off,none⟩) N cap) 4 cs):=⟨_,hrow3.to (fun g hg=>hf g (by cases hg;rw[hH3,aa];simp))⟩;simp +decide (maxDischargeDepth:=200) only[go_sem,Nat.reduceBEq,h105,h107,fF,fC0,fC1,zL,iO,eq,io,c1,hex,u0,u00,n1,ci,PH,hiN,hiN1,aB,PB];exact hk _ (Le.refl _)
            . cases hW
            . cases ho;have h94:st.t 94= .x (ar p):=(hn 94 (by decide)).trans (hv 94 (by kernel_rfl));have hf:=jf _ _ _ (tl hj (by decide)) hJ;have c1:au Hx p=some ([(.slice (some ⟨g,off,none⟩) N cap)],53):=ak (by rw[hf p (by rw[hp3];simp)];exact hp3);have hex:(∃cs,RowV Hx (.slice (some ⟨g,off,none⟩) N cap) 4 cs):=⟨_,hrow3.to (fun g hg=>hf g (by cases hg;rw[hH3,aa];simp))⟩;simp +decide (maxDischargeDepth:=200) only[go_sem,Nat.reduceBEq,h94,fF,fC0,fC1,zL,iO,eq,io,c1,hex,u0,u00,n1,ci,PH,hiN,hiN1,aB,PB];exact hk _ (Le.refl _)
            . cases ho;have h110:st.t 110= .x (ar p):=(hn 110 (by decide)).trans (hv 110 (by kernel_rfl));have hf:=jf _ _ _ (tl hj (by decide)) hJ;have c1:au Hx p=some ([(.slice (some ⟨g,off,none⟩) N cap)],53):=ak (by rw[hf p (by rw[hp3];simp)];exact hp3);have hex:(∃cs,RowV Hx (.slice (some ⟨g,off,none⟩) N cap) 4 cs):=⟨_,hrow3.to (fun g hg=>hf g (by cases hg;rw[hH3,aa];simp))⟩;simp +decide (maxDischargeDepth:=200) only[go_sem,Nat.reduceBEq,h110,fF,fC0,fC1,zL,iO,eq,io,c1,hex,u0,u00,n1,ci,PH,hiN,hiN1,aB,PB];exact hk _ (Le.refl _)
            . cases hW
            . cases ho
          . rintro j i' o Hx val st hj ho hJ hv hn hb hbb K' hk;have b0:st.t 0= .x (ar p):=hb 0 (by kernel_rfl);have b4:st.t 4= .ptr 4 0:=hb 4 (by kernel_rfl);have b6:st.t 6= .x (.int .i64 ((i:Nat):Int)):=hb 6 (by kernel_rfl);have bb4:st.b 4=some ([.x (.int .i64 xs.1),.x (.int .i64 xs.2.1),.x (.int .i64 xs.2.2)]):=(QP hbb 4).trans (by kernel_rfl);clear hb hbb;rcases j with _|_|_|j
            . cases hj;cases ho;have h100:st.t 100= .x (fG 4 0 i (.slice (some ⟨g,off,none⟩) N cap)):=(hn 100 (by decide)).trans (hv 100 (by kernel_rfl));have hG:GrowJ H3 Hx (.slice none 0 0) [] 0:=hJ;have hf:=hG.2.2.1;simp +decide (maxDischargeDepth:=200) only[go_sem,Nat.reduceBEq,h100,fF,fC0,fC1,zL,iO,eq,io];refine ce (cs':=aF A) (k:=i) hG aV ⟨(hcut1.2.2).to (fun g hg=>hf g (by rw[hcut1.1] at hg;cases hg;rw[hH3,aa];simp)),hcut1.2.1⟩ (cC _) (by omega) fun v' H' hg=>hk H' (.x v') _ ⟨v',aa _ _ _,by rw[QX,Qn] at hg;exact hg⟩ (by rw[bo];exact Le.refl _)
            . cases hj;cases ho;have h108:st.t 108= .x (fG 4 (i+1) N (.slice (some ⟨g,off,none⟩) N cap)):=(hn 108 (by decide)).trans (hv 108 (by kernel_rfl));obtain⟨v1,q1,hG⟩:∃v,val 101= .x v∧GrowJ H3 Hx v (aF A) i:=hJ;have h101:st.t 101= .x v1:=(hn 101 (by decide)).trans q1;have hf:=hG.2.2.1;simp +decide (maxDischargeDepth:=200) only[go_sem,Nat.reduceBEq,h101,h108,fF,fC0,fC1,zL,iO,eq,io];refine ce (cs':=aF B) (k:=N-(i+1)) hG aV ⟨(hcut2.2.2).to (fun g hg=>hf g (by rw[hcut2.1] at hg;cases hg;rw[hH3,aa];simp)),hcut2.2.1⟩ (cC _) (by omega) fun v' H' hg=>hk H' (.x v') _ ⟨v',aa _ _ _,by rw[<-cO,show i+(N-(i+1))=N-1 by omega] at hg;exact hg⟩ (by rw[bo];exact Le.refl _)
            . cases hj;cases ho;have h111:st.t 111= .x (ar p):=(hn 111 (by decide)).trans (hv 111 (by kernel_rfl));obtain⟨v1,q1,hG⟩:∃v,val 109= .x v∧GrowJ H3 Hx v (aF (A++B)) (N-1):=hJ;have h109:st.t 109= .x v1:=(hn 109 (by decide)).trans q1;have hf:=hG.2.2.1;have c1:au Hx p=some ([(.slice (some ⟨g,off,none⟩) N cap)],53):=ak (by rw[hf p (by rw[hp3];simp)];exact hp3);have xo:=pd hG.1.one;have sp:cF [(.slice (some ⟨g,off,none⟩) N cap)] 0 [v1]=[v1]:=by simp[cF]
              have s27:bg Try.prog 28=some 1:=by kernel_rfl
              simp +decide (maxDischargeDepth:=200) only[go_sem,Nat.reduceBEq,h109,h111,fF,fC0,fC1,zL,iO,eq,io,c1,xo,sp,s27];exact hk _ .undef _ ⟨v1,Hx,hG,rfl⟩ (Le.refl _)
            . cases hj
          . rintro Hx val hJ hv;refine⟨[(0,.x (ar p)),(2,.x (.int .i64 n)),(4,.ptr 4 0),(6,.x (.int .i64 ((i:Nat):Int)))],[(4,[.x (.int .i64 xs.1),.x (.int .i64 xs.2.1),.x (.int .i64 xs.2.2)])],?_,?_,?_⟩
            . simp +decide only[go_sem,Nat.reduceBEq]<;>(repeat' first|exact bd (by kernel_rfl)|exact(be (by kernel_rfl)).trans (hv _ (by kernel_rfl))|rfl|constructor)
            . simp +decide only[go_sem,Nat.reduceBEq]<;>(repeat' first|rfl|constructor)
            obtain⟨v1,H4,hG,rfl⟩:∃v H4,GrowJ H3 H4 v (aF (A++B)) (N-1)∧Hx=aw H4 p (some (rowO [v] 53)):=hJ;simp +decide (maxDischargeDepth:=200) only[go_sem,Nat.reduceBEq];obtain⟨ad4,cap4,hv1⟩:∃ax cx,v1= .slice ax (A++B).length cx:=by
             have e3:aB v1=(A++B).length:=by rw[hG.2.1,hN];simp
             rcases hG.1 with⟨_,e⟩|⟨g',o',n',cp',_,_,e,_⟩
             . rw[e] at e3;exact⟨none,0,by rw[e,<-e3];rfl⟩
             . rw[e] at e3;exact⟨_,_,by rw[e,<-e3];rfl⟩
            subst hv1;have hpn:blkOf (.slice ad4 (A++B).length cap4)≠some p:=fun e=>by have:=hG.2.2.2 p e;rw[hp3] at this;cases this
            exact finK _ ad4 (A++B).length cap4 (A++B) rfl (aa _ _ _) (hG.1.to (fun g hg=>ae _ _ (fun e=>hpn (by rw[hg,e])))) hpn (by rw[PO hz1,QS]) (fun y hy hy2=>by
             have hyp:y≠p:=fun e=>hy (by rw[e];exact PZ ..)
             have h5:H3 y=H y:=by rw[hH3];exact(ae _ _ (fun e=>hfn y hy hy2 e)).trans (hfr y hy hy2)
             rw[ae _ _ hyp,hG.2.2.1 y (by rw[h5];exact hy2),h5]) (fun y hy=>by
             have h6:=hG.2.2.2 y hy;by_cases e:y=g
             . subst e;rw[hH3,aa] at h6;cases h6
             . rw[hH3,ae _ _ e] at h6;exact .inr (hnew y h6))
     have hne2:∀y,L[i]?=some y->y.1≠s:=fun y hy=>by rw[hx] at hy;cases hy;exact vY.1 hq2
     simp +decide (maxDischargeDepth:=200) only[go_sem,Nat.reduceBEq,RJ];obtain⟨hpa,hpb⟩:=mw hS hi hlt hge;have hpb:=hpb hne2;have hex:(∃cs,RowV H (.slice (some ⟨g,off,none⟩) L.length cap) 4 cs):=⟨_,hr⟩;have hcut1:=hr.cut (l:=0) (h:=i) (PH _) hi;have hcut2:=hr.cut (l:=i) (h:=L.length) hi (PB _);rw[Q4,Rm,fI] at hcut1;rw[Qb (by rw[bG];exact PB _),eK] at hcut2;have u0:(0:Int)<=(i:Int):=by omega
     have hon:∀gq,blkOf (.slice (some ⟨g,off,none⟩) L.length cap)=some gq->H gq≠none:=fun gq hg=>by obtain⟨cur,ty,e⟩:=hr.blk hg;rw[e];simp
     have jf:∀(j:Nat) (Hx:HH) (val:Nat->V),j<=3->(fun j Hx val=>match j with|0=>GrowJ H Hx (.slice none 0 0) [] 0|1=>∃v,val 54= .x v∧GrowJ H Hx v (aF (L.take i)) i|2=>∃v,val 58= .x v∧GrowJ H Hx v (aF (L.take i++[(s,0)])) (i+1)|3=>∃v,val 65= .x v∧GrowJ H Hx v (aF (L.take i++(s,0)::L.drop i)) (L.length+1)|_=>∃v H4,GrowJ H H4 v (aF (L.take i++(s,0)::L.drop i)) (L.length+1)∧Hx=aw H4 p (some (rowO [v] 53))) j Hx val->∀y,H y≠none->Hx y=H y:=fun j Hx val hj hJ=>by
      rcases j with _|_|_|_|j
      . exact hJ.2.2.1
      . obtain⟨v,_,h⟩:=hJ;exact h.2.2.1
      . obtain⟨v,_,h⟩:=hJ;exact h.2.2.1
      . obtain⟨v,_,h⟩:=hJ;exact h.2.2.1
      . omega
     refine aU (fun k=>match k with|2=>[48]|3=>[49]|4=>[50]|6=>[51,52]|7=>[53]|9=>[55]|10=>[56]|11=>[54,57]|13=>[59]|14=>[60]|15=>[61]|17=>[62,63]|18=>[58,64]|19=>[47]|20=>[66]|21=>[67,65]|_=>[]) [7,11,18,21] (fun k=>match k with|0=>3|1=>0|2=>0|3=>0|4=>0|5=>0|6=>0|8=>1|9=>1|10=>1|12=>2|13=>2|14=>2|15=>2|16=>2|17=>2|19=>3|20=>3|_=>4) (fun j Hx val=>match j with|0=>GrowJ H Hx (.slice none 0 0) [] 0|1=>∃v,val 54= .x v∧GrowJ H Hx v (aF (L.take i)) i|2=>∃v,val 58= .x v∧GrowJ H Hx v (aF (L.take i++[(s,0)])) (i+1)|3=>∃v,val 65= .x v∧GrowJ H Hx v (aF (L.take i++(s,0)::L.drop i)) (L.length+1)|_=>∃v H4,GrowJ H H4 v (aF (L.take i++(s,0)::L.drop i)) (L.length+1)∧Hx=aw H4 p (some (rowO [v] 53))) (Gn p i cap (some ⟨g,off,none⟩) L s) (by kernel_rfl) (by kernel_rfl) (by kernel_rfl) (GrowJ.start H) ?_ ?_ ?_
     . rintro j i' o Hx val st ho hW hj hJ hv hn hb hbb K' hk;have b0:st.t 0= .x (ar p):=hb 0 (by kernel_rfl);have b4:st.t 4= .ptr 4 0:=hb 4 (by kernel_rfl);have b6:st.t 6= .x (.int .i64 ((i:Nat):Int)):=hb 6 (by kernel_rfl);have bb4:st.b 4=some ([.x (.int .i64 s.1),.x (.int .i64 s.2.1),.x (.int .i64 s.2.2)]):=(QP hbb 4).trans (by kernel_rfl);clear hb hbb;rcases i' with _|_|_|_|_|_|_|_|_|_|_|_|_|_|_|_|_|_|_|_|_|_|i'
       . cases ho;have hf:=jf _ _ _ (tl hj (by decide)) hJ;have c1:au Hx p=some ([(.slice (some ⟨g,off,none⟩) L.length cap)],53):=ak (by rw[hf p (by rw[hp];simp)];exact hp);have hex:(∃cs,RowV Hx (.slice (some ⟨g,off,none⟩) L.length cap) 4 cs):=⟨_,hr.to (fun gq hg=>hf gq (hon gq hg))⟩;simp +decide (maxDischargeDepth:=200) only[go_sem,Nat.reduceBEq,b0,fF,fC0,fC1,zL,iO,eq,io,c1,hex,u0,PH,hi,aB,PB];exact hk _ (Le.refl _)
       . cases ho;have hf:=jf _ _ _ (tl hj (by decide)) hJ;have c1:au Hx p=some ([(.slice (some ⟨g,off,none⟩) L.length cap)],53):=ak (by rw[hf p (by rw[hp];simp)];exact hp);have hex:(∃cs,RowV Hx (.slice (some ⟨g,off,none⟩) L.length cap) 4 cs):=⟨_,hr.to (fun gq hg=>hf gq (hon gq hg))⟩;simp +decide (maxDischargeDepth:=200) only[go_sem,Nat.reduceBEq,b0,fF,fC0,fC1,zL,iO,eq,io,c1,hex,u0,PH,hi,aB,PB];exact hk _ (Le.refl _)
       . cases ho;have h48:st.t 48= .x (ar p):=(hn 48 (by decide)).trans (hv 48 (by kernel_rfl));have hf:=jf _ _ _ (tl hj (by decide)) hJ;have c1:au Hx p=some ([(.slice (some ⟨g,off,none⟩) L.length cap)],53):=ak (by rw[hf p (by rw[hp];simp)];exact hp);have hex:(∃cs,RowV Hx (.slice (some ⟨g,off,none⟩) L.length cap) 4 cs):=⟨_,hr.to (fun gq hg=>hf gq (hon gq hg))⟩;simp +decide (maxDischargeDepth:=200) only[go_sem,Nat.reduceBEq,h48,fF,fC0,fC1,zL,iO,eq,io,c1,hex,u0,PH,hi,aB,PB];exact hk _ (Le.refl _)
       . cases ho;have h49:st.t 49= .x (ar p):=(hn 49 (by decide)).trans (hv 49 (by kernel_rfl));have hf:=jf _ _ _ (tl hj (by decide)) hJ;have c1:au Hx p=some ([(.slice (some ⟨g,off,none⟩) L.length cap)],53):=ak (by rw[hf p (by rw[hp];simp)];exact hp);have hex:(∃cs,RowV Hx (.slice (some ⟨g,off,none⟩) L.length cap) 4 cs):=⟨_,hr.to (fun gq hg=>hf gq (hon gq hg))⟩;simp +decide (maxDischargeDepth:=200) only[go_sem,Nat.reduceBEq,h49,fF,fC0,fC1,zL,iO,eq,io,c1,hex,u0,PH,hi,aB,PB];exact hk _ (Le.refl _)
       . cases ho;have h50:st.t 50= .x (ar p):=(hn 50 (by decide)).trans (hv 50 (by kernel_rfl));have hf:=jf _ _ _ (tl hj (by decide)) hJ;have c1:au Hx p=some ([(.slice (some ⟨g,off,none⟩) L.length cap)],53):=ak (by rw[hf p (by rw[hp];simp)];exact hp);have hex:(∃cs,RowV Hx (.slice (some ⟨g,off,none⟩) L.length cap) 4 cs):=⟨_,hr.to (fun gq hg=>hf gq (hon gq hg))⟩;simp +decide (maxDischargeDepth:=200) only[go_sem,Nat.reduceBEq,h50,fF,fC0,fC1,zL,iO,eq,io,c1,hex,u0,PH,hi,aB,PB];exact hk _ (Le.refl _)
       . cases ho;have hf:=jf _ _ _ (tl hj (by decide)) hJ;have c1:au Hx p=some ([(.slice (some ⟨g,off,none⟩) L.length cap)],53):=ak (by rw[hf p (by rw[hp];simp)];exact hp);have hex:(∃cs,RowV Hx (.slice (some ⟨g,off,none⟩) L.length cap) 4 cs):=⟨_,hr.to (fun gq hg=>hf gq (hon gq hg))⟩;simp +decide (maxDischargeDepth:=200) only[go_sem,Nat.reduceBEq,b6,fF,fC0,fC1,zL,iO,eq,io,c1,hex,u0,PH,hi,aB,PB];exact hk _ (Le.refl _)
       . cases ho;have h51:st.t 51= .x (.slice (some ⟨g,off,none⟩) L.length cap):=(hn 51 (by decide)).trans (hv 51 (by kernel_rfl));have h52:st.t 52= .x (.int .i64 ((i:Nat):Int)):=(hn 52 (by decide)).trans (hv 52 (by kernel_rfl));have hf:=jf _ _ _ (tl hj (by decide)) hJ;have c1:au Hx p=some ([(.slice (some ⟨g,off,none⟩) L.length cap)],53):=ak (by rw[hf p (by rw[hp];simp)];exact hp);have hex:(∃cs,RowV Hx (.slice (some ⟨g,off,none⟩) L.length cap) 4 cs):=⟨_,hr.to (fun gq hg=>hf gq (hon gq hg))⟩;simp +decide (maxDischargeDepth:=200) only[go_sem,Nat.reduceBEq,h51,h52,fF,fC0,fC1,zL,iO,eq,io,c1,hex,u0,PH,hi,aB,PB];exact hk _ (Le.refl _)
       . cases hW
       . cases ho;have hf:=jf _ _ _ (tl hj (by decide)) hJ;have c1:au Hx p=some ([(.slice (some ⟨g,off,none⟩) L.length cap)],53):=ak (by rw[hf p (by rw[hp];simp)];exact hp);have hex:(∃cs,RowV Hx (.slice (some ⟨g,off,none⟩) L.length cap) 4 cs):=⟨_,hr.to (fun gq hg=>hf gq (hon gq hg))⟩;simp +decide (maxDischargeDepth:=200) only[go_sem,Nat.reduceBEq,b4,bb4,fF,fC0,fC1,zL,iO,eq,io,c1,hex,u0,PH,hi,aB,PB];exact hk _ (Le.refl _)
       . cases ho;have h55:st.t 55= .agg [.x (.int .i64 s.1),.x (.int .i64 s.2.1),.x (.int .i64 s.2.2)]:=(hn 55 (by decide)).trans (hv 55 (by kernel_rfl));have hf:=jf _ _ _ (tl hj (by decide)) hJ;have c1:au Hx p=some ([(.slice (some ⟨g,off,none⟩) L.length cap)],53):=ak (by rw[hf p (by rw[hp];simp)];exact hp);have hex:(∃cs,RowV Hx (.slice (some ⟨g,off,none⟩) L.length cap) 4 cs):=⟨_,hr.to (fun gq hg=>hf gq (hon gq hg))⟩;simp +decide (maxDischargeDepth:=200) only[go_sem,Nat.reduceBEq,h55,fF,fC0,fC1,zL,iO,eq,io,c1,hex,u0,PH,hi,aB,PB];exact hk _ (Le.refl _)
       . cases ho;have h56:st.t 56= .agg [.x (.int .i64 s.1),.x (.int .i64 s.2.1),.x (.int .i64 s.2.2),.x (.int .i64 0)]:=(hn 56 (by decide)).trans (hv 56 (by kernel_rfl));have hf:=jf _ _ _ (tl hj (by decide)) hJ;have c1:au Hx p=some ([(.slice (some ⟨g,off,none⟩) L.length cap)],53):=ak (by rw[hf p (by rw[hp];simp)];exact hp);have hex:(∃cs,RowV Hx (.slice (some ⟨g,off,none⟩) L.length cap) 4 cs):=⟨_,hr.to (fun gq hg=>hf gq (hon gq hg))⟩;simp +decide (maxDischargeDepth:=200) only[go_sem,Nat.reduceBEq,h56,fF,fC0,fC1,zL,iO,eq,io,c1,hex,u0,PH,hi,aB,PB];exact hk _ (Le.refl _)
       . cases hW
       . cases ho;have hf:=jf _ _ _ (tl hj (by decide)) hJ;have c1:au Hx p=some ([(.slice (some ⟨g,off,none⟩) L.length cap)],53):=ak (by rw[hf p (by rw[hp];simp)];exact hp);have hex:(∃cs,RowV Hx (.slice (some ⟨g,off,none⟩) L.length cap) 4 cs):=⟨_,hr.to (fun gq hg=>hf gq (hon gq hg))⟩;simp +decide (maxDischargeDepth:=200) only[go_sem,Nat.reduceBEq,b0,fF,fC0,fC1,zL,iO,eq,io,c1,hex,u0,PH,hi,aB,PB];exact hk _ (Le.refl _)
       . cases ho;have h59:st.t 59= .x (ar p):=(hn 59 (by decide)).trans (hv 59 (by kernel_rfl));have hf:=jf _ _ _ (tl hj (by decide)) hJ;have c1:au Hx p=some ([(.slice (some ⟨g,off,none⟩) L.length cap)],53):=ak (by rw[hf p (by rw[hp];simp)];exact hp);have hex:(∃cs,RowV Hx (.slice (some ⟨g,off,none⟩) L.length cap) 4 cs):=⟨_,hr.to (fun gq hg=>hf gq (hon gq hg))⟩;simp +decide (maxDischargeDepth:=200) only[go_sem,Nat.reduceBEq,h59,fF,fC0,fC1,zL,iO,eq,io,c1,hex,u0,PH,hi,aB,PB];exact hk _ (Le.refl _)
       . cases ho;have h60:st.t 60= .x (ar p):=(hn 60 (by decide)).trans (hv 60 (by kernel_rfl));have hf:=jf _ _ _ (tl hj (by decide)) hJ;have c1:au Hx p=some ([(.slice (some ⟨g,off,none⟩) L.length cap)],53):=ak (by rw[hf p (by rw[hp];simp)];exact hp);have hex:(∃cs,RowV Hx (.slice (some ⟨g,off,none⟩) L.length cap) 4 cs):=⟨_,hr.to (fun gq hg=>hf gq (hon gq hg))⟩;simp +decide (maxDischargeDepth:=200) only[go_sem,Nat.reduceBEq,h60,fF,fC0,fC1,zL,iO,eq,io,c1,hex,u0,PH,hi,aB,PB];exact hk _ (Le.refl _)
       . cases ho;have h61:st.t 61= .x (ar p):=(hn 61 (by decide)).trans (hv 61 (by kernel_rfl));have hf:=jf _ _ _ (tl hj (by decide)) hJ;have c1:au Hx p=some ([(.slice (some ⟨g,off,none⟩) L.length cap)],53):=ak (by rw[hf p (by rw[hp];simp)];exact hp);have hex:(∃cs,RowV Hx (.slice (some ⟨g,off,none⟩) L.length cap) 4 cs):=⟨_,hr.to (fun gq hg=>hf gq (hon gq hg))⟩;simp +decide (maxDischargeDepth:=200) only[go_sem,Nat.reduceBEq,h61,fF,fC0,fC1,zL,iO,eq,io,c1,hex,u0,PH,hi,aB,PB];exact hk _ (Le.refl _)
       . cases ho;have hf:=jf _ _ _ (tl hj (by decide)) hJ;have c1:au Hx p=some ([(.slice (some ⟨g,off,none⟩) L.length cap)],53):=ak (by rw[hf p (by rw[hp];simp)];exact hp);have hex:(∃cs,RowV Hx (.slice (some ⟨g,off,none⟩) L.length cap) 4 cs):=⟨_,hr.to (fun gq hg=>hf gq (hon gq hg))⟩;simp +decide (maxDischargeDepth:=200) only[go_sem,Nat.reduceBEq,b6,fF,fC0,fC1,zL,iO,eq,io,c1,hex,u0,PH,hi,aB,PB];exact hk _ (Le.refl _)
       . cases ho;have h62:st.t 62= .x (.slice (some ⟨g,off,none⟩) L.length cap):=(hn 62 (by decide)).trans (hv 62 (by kernel_rfl));have h63:st.t 63= .x (.int .i64 ((i:Nat):Int)):=(hn 63 (by decide)).trans (hv 63 (by kernel_rfl));have hf:=jf _ _ _ (tl hj (by decide)) hJ;have c1:au Hx p=some ([(.slice (some ⟨g,off,none⟩) L.length cap)],53):=ak (by rw[hf p (by rw[hp];simp)];exact hp);have hex:(∃cs,RowV Hx (.slice (some ⟨g,off,none⟩) L.length cap) 4 cs):=⟨_,hr.to (fun gq hg=>hf gq (hon gq hg))⟩;simp +decide (maxDischargeDepth:=200) only[go_sem,Nat.reduceBEq,h62,h63,fF,fC0,fC1,zL,iO,eq,io,c1,hex,u0,PH,hi,aB,PB];exact hk _ (Le.refl _)
       . cases hW
       . cases ho;have h47:st.t 47= .x (ar p):=(hn 47 (by decide)).trans (hv 47 (by kernel_rfl));have hf:=jf _ _ _ (tl hj (by decide)) hJ;have c1:au Hx p=some ([(.slice (some ⟨g,off,none⟩) L.length cap)],53):=ak (by rw[hf p (by rw[hp];simp)];exact hp);have hex:(∃cs,RowV Hx (.slice (some ⟨g,off,none⟩) L.length cap) 4 cs):=⟨_,hr.to (fun gq hg=>hf gq (hon gq hg))⟩;simp +decide (maxDischargeDepth:=200) only[go_sem,Nat.reduceBEq,h47,fF,fC0,fC1,zL,iO,eq,io,c1,hex,u0,PH,hi,aB,PB];exact hk _ (Le.refl _)
       . cases ho;have h66:st.t 66= .x (ar p):=(hn 66 (by decide)).trans (hv 66 (by kernel_rfl));have hf:=jf _ _ _ (tl hj (by decide)) hJ;have c1:au Hx p=some ([(.slice (some ⟨g,off,none⟩) L.length cap)],53):=ak (by rw[hf p (by rw[hp];simp)];exact hp);have hex:(∃cs,RowV Hx (.slice (some ⟨g,off,none⟩) L.length cap) 4 cs):=⟨_,hr.to (fun gq hg=>hf gq (hon gq hg))⟩;simp +decide (maxDischargeDepth:=200) only[go_sem,Nat.reduceBEq,h66,fF,fC0,fC1,zL,iO,eq,io,c1,hex,u0,PH,hi,aB,PB];exact hk _ (Le.refl _)
       . cases hW
       . cases ho
     . rintro j i' o Hx val st hj ho hJ hv hn hb hbb K' hk;have b0:st.t 0= .x (ar p):=hb 0 (by kernel_rfl);have b4:st.t 4= .ptr 4 0:=hb 4 (by kernel_rfl);have b6:st.t 6= .x (.int .i64 ((i:Nat):Int)):=hb 6 (by kernel_rfl);have bb4:st.b 4=some ([.x (.int .i64 s.1),.x (.int .i64 s.2.1),.x (.int .i64 s.2.2)]):=(QP hbb 4).trans (by kernel_rfl);clear hb hbb;rcases j with _|_|_|_|j
       . cases hj;cases ho;have h53:st.t 53= .x (fG 4 0 i (.slice (some ⟨g,off,none⟩) L.length cap)):=(hn 53 (by decide)).trans (hv 53 (by kernel_rfl));have hG:GrowJ H Hx (.slice none 0 0) [] 0:=hJ;have hf:=hG.2.2.1;simp +decide (maxDischargeDepth:=200) only[go_sem,Nat.reduceBEq,h53,fF,fC0,fC1,zL,iO,eq,io];refine ce (cs':=aF (L.take i)) (k:=i) hG aV ⟨(hcut1.2.2).to (fun gq hg=>hf gq (hon gq (hcut1.1▸hg))),hcut1.2.1⟩ (cC _) (by omega) fun v' H' hg=>hk H' (.x v') _ ⟨v',aa _ _ _,by rw[QX,Qn] at hg;exact hg⟩ (by rw[bo];exact Le.refl _)
       . cases hj;cases ho;have h57:st.t 57= .sl false 4 [.agg [.x (.int .i64 s.1),.x (.int .i64 s.2.1),.x (.int .i64 s.2.2),.x (.int .i64 0)]] none:=(hn 57 (by decide)).trans (hv 57 (by kernel_rfl));obtain⟨v1,q1,hG⟩:∃v,val 54= .x v∧GrowJ H Hx v (aF (L.take i)) i:=hJ;have h54:st.t 54= .x v1:=(hn 54 (by decide)).trans q1;simp +decide (maxDischargeDepth:=200) only[go_sem,Nat.reduceBEq,h54,h57,fF,fC0,fC1,zL,iO,eq,io];have e5:aF [(s,(0:Int))]=d7 (s,0):=by simp[aF]
         refine ce (cs':=d7 (s,0)) (k:=1) hG aV ⟨.inl rfl,rfl,rfl⟩ (fun u hu=>cC [(s,0)] u (by rw[e5];exact hu)) (by omega) fun v' H' hg=>hk H' (.x v') _ ⟨v',aa _ _ _,by rw[cO,e5];exact hg⟩ (by rw[bo];exact Le.refl _)
       . cases hj;cases ho;have h64:st.t 64= .x (fG 4 i L.length (.slice (some ⟨g,off,none⟩) L.length cap)):=(hn 64 (by decide)).trans (hv 64 (by kernel_rfl));obtain⟨v1,q1,hG⟩:∃v,val 58= .x v∧GrowJ H Hx v (aF (L.take i++[(s,0)])) (i+1):=hJ;have h58:st.t 58= .x v1:=(hn 58 (by decide)).trans q1;have hf:=hG.2.2.1;simp +decide (maxDischargeDepth:=200) only[go_sem,Nat.reduceBEq,h58,h64,fF,fC0,fC1,zL,iO,eq,io];refine ce (cs':=aF (L.drop i)) (k:=L.length-i) hG aV ⟨(hcut2.2.2).to (fun gq hg=>hf gq (hon gq (hcut2.1▸hg))),hcut2.2.1⟩ (cC _) (by omega) fun v' H' hg=>hk H' (.x v') _ ⟨v',aa _ _ _,by rw[<-cO,QK,show i+1+(L.length-i)=L.length+1 by omega] at hg;exact hg⟩ (by rw[bo];exact Le.refl _)
       . cases hj;cases ho;have h67:st.t 67= .x (ar p):=(hn 67 (by decide)).trans (hv 67 (by kernel_rfl));obtain⟨v1,q1,hG⟩:∃v,val 65= .x v∧GrowJ H Hx v (aF (L.take i++(s,0)::L.drop i)) (L.length+1):=hJ;have h65:st.t 65= .x v1:=(hn 65 (by decide)).trans q1;have hf:=hG.2.2.1;have c1:au Hx p=some ([(.slice (some ⟨g,off,none⟩) L.length cap)],53):=ak (by rw[hf p (by rw[hp];simp)];exact hp);have xo:=pd hG.1.one;have sp:cF [(.slice (some ⟨g,off,none⟩) L.length cap)] 0 [v1]=[v1]:=by simp[cF]
         have s27:bg Try.prog 28=some 1:=by kernel_rfl
         simp +decide (maxDischargeDepth:=200) only[go_sem,Nat.reduceBEq,h65,h67,fF,fC0,fC1,zL,iO,eq,io,c1,xo,sp,s27];exact hk _ .undef _ ⟨v1,Hx,hG,rfl⟩ (Le.refl _)
       . cases hj
     . rintro Hx val hJ hv;refine⟨[(0,.x (ar p)),(2,.x (.int .i64 n)),(4,.ptr 4 0),(6,.x (.int .i64 ((i:Nat):Int)))],[(4,[.x (.int .i64 s.1),.x (.int .i64 s.2.1),.x (.int .i64 s.2.2)])],?_,?_,?_⟩
       . simp +decide only[go_sem,Nat.reduceBEq]<;>(repeat' first|exact bd (by kernel_rfl)|exact(be (by kernel_rfl)).trans (hv _ (by kernel_rfl))|rfl|constructor)
       . simp +decide only[go_sem,Nat.reduceBEq]<;>(repeat' first|rfl|constructor)
       obtain⟨v1,H4,hG,rfl⟩:∃v H4,GrowJ H H4 v (aF (L.take i++(s,0)::L.drop i)) (L.length+1)∧Hx=aw H4 p (some (rowO [v] 53)):=hJ;have hlT:(L.take i++(s,(0:Int))::L.drop i).length=L.length+1:=by simp;omega
       obtain⟨g2,o2,N,cap2,cur2,ty2,rfl,hh2,hl2,hb2,ht2⟩:=hG.1.resolve_left (fun h=>by have:=bG (L.take i++(s,(0:Int))::L.drop i);rw[h.1,hlT] at this;simp at this);obtain rfl:N=L.length+1:=hG.2.1;have hpg:g2≠p:=fun e=>by have:=hG.2.2.2 g2 rfl;rw[e,hp] at this;cases this
       obtain⟨N,hN0⟩:∃N,N=L.length+1:=⟨_,rfl⟩;rw[<-hN0] at hG ht2 hl2⊢;obtain⟨A,hA0⟩:∃A,A=L.take i:=⟨_,rfl⟩;obtain⟨B,hB0⟩:∃B,B=L.drop i:=⟨_,rfl⟩;rw[<-hA0,<-hB0] at ht2 hlT;have hAl:A.length=i:=by rw[hA0,P8];omega
       have hN:N=(A++(s,(0:Int))::B).length:=by rw[hN0,hlT]
       obtain⟨m,hm⟩:∃m:Int,m=0:=⟨_,rfl⟩;rw[<-hm] at hN ht2;have hiN:i<=N:=by omega
       have hiN1:i+1<=N:=by omega
       obtain⟨H2,hH2⟩:∃H2,H2=aw H4 p (some (rowO [.slice (some ⟨g2,o2,none⟩) N cap2] 53)):=⟨_,rfl⟩;rw[<-hH2];have hp2:H2 p=some (rowO [(.slice (some ⟨g2,o2,none⟩) N cap2)] 53):=by rw[hH2,aa]
       obtain⟨C2,hC2⟩:∃C2,C2=cur2.toList:=⟨_,rfl⟩;rw[<-hC2] at ht2;have hc2:au H2 g2=some (C2,ty2):=ak (by rw[hH2,ae _ _ hpg,hC2];simpa[rowO] using hh2);have hb2:o2+cap2*4<=C2.length:=by rw[hC2,PR];exact hb2
       have hmb:m=0:=hm;have hfr:∀y,y∉p::(blkOf (.slice (some ⟨g,off,none⟩) L.length cap)).toList->H y≠none->H2 y=H y:=fun y hy hy2=>by rw[hH2,ae _ _ (fun e=>hy (by rw[e];exact PZ ..))];exact hG.2.2.1 y hy2
       have hfn:∀y,y∉p::(blkOf (.slice (some ⟨g,off,none⟩) L.length cap)).toList->H y≠none->y=g2->False:=fun y _ hy2 e=>by subst e;exact hy2 (hG.2.2.2 y rfl)
       have hfo:∀y,blkOf (.slice (some ⟨g2,o2,none⟩) N cap2)=some y->y∈p::(blkOf (.slice (some ⟨g,off,none⟩) L.length cap)).toList∨H y=none:=fun y hy=> .inr (by cases hy;exact hG.2.2.2 _ rfl)
       have hnew:∀y,H2 y=none->H y=none:=fun y hy=>QH fun hx2=>by
        by_cases ep:y=p
        . rw[ep,hp2] at hy;cases hy
        . rw[hH2,ae _ _ ep,hG.2.2.1 y hx2] at hy;exact hx2 hy
       have finK:=finL (L.take i) (L.drop i) m hpa hpb (by rw[PO hm,QS,Qv]);rw[<-hA0,<-hB0] at finK;simp +decide (maxDischargeDepth:=200) only[go_sem,Nat.reduceBEq];have c1:=ak hp2;have u0:(0:Int)<=(i:Int):=by omega
       have u1:(i:Int)<(N:Int):=by omega
       have u2:(C2.map V.x)[o2+i*4+3]?=some (.x (.int .i64 m)):=by have:=(g5 (L:=A++(s,m)::B) (i:=i) (x:=(s,m)) (by rw[<-hN];exact ht2) (by rw[P6 (by omega),hAl,RZ];rfl)).1;exact this
       have u3:o2+i*4+3+1<=C2.length:=by omega
       have wm:aq .i64 (m+n)=m+n:=aj (by unfold aS;omega);have s3:bg Try.prog 3=some 1:=by kernel_rfl
       have ci:=bh (i:=i) (by omega);have u00:(0:Int)<=((i+1:Nat):Int):=by omega
       refine aU (fun k=>match k with|1=>[68]|2=>[69]|3=>[70]|6=>[73]|7=>[74]|8=>[75]|10=>[76,77]|11=>[78]|12=>[79]|14=>[80,81]|15=>[71,72]|16=>[83]|17=>[84,82]|_=>[]) [17] (fun k=>match k with|0=>0|1=>0|2=>0|3=>0|4=>0|5=>0|6=>0|7=>0|8=>0|9=>0|10=>0|11=>0|12=>0|13=>0|14=>0|15=>0|16=>0|_=>1) (fun j Hx _=>match j with|0=>H2=Hx|_=>Hx=aw H2 g2 (some (rowO (cF C2 (o2+i*4+3) [.int .i64 (m+n)]) ty2))) (Cr p i g2 o2 N cap2 m n) (by kernel_rfl) (by kernel_rfl) (by kernel_rfl) rfl ?_ ?_ ?_
       . rintro j i' o Hx val st ho hW hj hJ hv hn hb hbb K' hk;have b0:st.t 0= .x (ar p):=hb 0 (by kernel_rfl);have b4:st.t 4= .ptr 4 0:=hb 4 (by kernel_rfl);have b6:st.t 6= .x (.int .i64 ((i:Nat):Int)):=hb 6 (by kernel_rfl);have b2:st.t 2= .x (.int .i64 n):=hb 2 (by kernel_rfl);have bb4:st.b 4=some ([.x (.int .i64 s.1),.x (.int .i64 s.2.1),.x (.int .i64 s.2.2)]):=(QP hbb 4).trans (by kernel_rfl);clear hb hbb;rcases i' with _|_|_|_|_|_|_|_|_|_|_|_|_|_|_|_|_|_|i'
         . cases ho;have hJ:H2=Hx:=by have h0:j=0:=PV.1 (tl hj (by decide));subst h0;exact hJ
           subst hJ;simp +decide (maxDischargeDepth:=200) only[go_sem,Nat.reduceBEq,b0,fF,fC0,fC1,zL,iO,eq,io,c1,hc2,u0,u1,u2,wm];exact hk _ (Le.refl _)
         . cases ho;have h68:st.t 68= .x (ar p):=(hn 68 (by decide)).trans (hv 68 (by kernel_rfl));have hJ:H2=Hx:=by have h0:j=0:=PV.1 (tl hj (by decide));subst h0;exact hJ
           subst hJ;simp +decide (maxDischargeDepth:=200) only[go_sem,Nat.reduceBEq,h68,fF,fC0,fC1,zL,iO,eq,io,c1,hc2,u0,u1,u2,wm];exact hk _ (Le.refl _)
         . cases ho;have h69:st.t 69= .x (ar p):=(hn 69 (by decide)).trans (hv 69 (by kernel_rfl));have hJ:H2=Hx:=by have h0:j=0:=PV.1 (tl hj (by decide));subst h0;exact hJ
           subst hJ;simp +decide (maxDischargeDepth:=200) only[go_sem,Nat.reduceBEq,h69,fF,fC0,fC1,zL,iO,eq,io,c1,hc2,u0,u1,u2,wm];exact hk _ (Le.refl _)
         . cases ho;have h70:st.t 70= .x (ar p):=(hn 70 (by decide)).trans (hv 70 (by kernel_rfl));have hJ:H2=Hx:=by have h0:j=0:=PV.1 (tl hj (by decide));subst h0;exact hJ
           subst hJ;simp +decide (maxDischargeDepth:=200) only[go_sem,Nat.reduceBEq,h70,fF,fC0,fC1,zL,iO,eq,io,c1,hc2,u0,u1,u2,wm];exact hk _ (Le.refl _)
         . cases ho;have hJ:H2=Hx:=by have h0:j=0:=PV.1 (tl hj (by decide));subst h0;exact hJ
           subst hJ;simp +decide (maxDischargeDepth:=200) only[go_sem,Nat.reduceBEq,b6,fF,fC0,fC1,zL,iO,eq,io,c1,hc2,u0,u1,u2,wm];exact hk _ (Le.refl _)
         . cases ho;have hJ:H2=Hx:=by have h0:j=0:=PV.1 (tl hj (by decide));subst h0;exact hJ
           subst hJ;simp +decide (maxDischargeDepth:=200) only[go_sem,Nat.reduceBEq,b0,fF,fC0,fC1,zL,iO,eq,io,c1,hc2,u0,u1,u2,wm];exact hk _ (Le.refl _)
         . cases ho;have h73:st.t 73= .x (ar p):=(hn 73 (by decide)).trans (hv 73 (by kernel_rfl));have hJ:H2=Hx:=by have h0:j=0:=PV.1 (tl hj (by decide));subst h0;exact hJ
           subst hJ;simp +decide (maxDischargeDepth:=200) only[go_sem,Nat.reduceBEq,h73,fF,fC0,fC1,zL,iO,eq,io,c1,hc2,u0,u1,u2,wm];exact hk _ (Le.refl _)
         . cases ho;have h74:st.t 74= .x (ar p):=(hn 74 (by decide)).trans (hv 74 (by kernel_rfl));have hJ:H2=Hx:=by have h0:j=0:=PV.1 (tl hj (by decide));subst h0;exact hJ
           subst hJ;simp +decide (maxDischargeDepth:=200) only[go_sem,Nat.reduceBEq,h74,fF,fC0,fC1,zL,iO,eq,io,c1,hc2,u0,u1,u2,wm];exact hk _ (Le.refl _)
         . cases ho;have h75:st.t 75= .x (ar p):=(hn 75 (by decide)).trans (hv 75 (by kernel_rfl));have hJ:H2=Hx:=by have h0:j=0:=PV.1 (tl hj (by decide));subst h0;exact hJ
           subst hJ;simp +decide (maxDischargeDepth:=200) only[go_sem,Nat.reduceBEq,h75,fF,fC0,fC1,zL,iO,eq,io,c1,hc2,u0,u1,u2,wm];exact hk _ (Le.refl _)
         . cases ho;have hJ:H2=Hx:=by have h0:j=0:=PV.1 (tl hj (by decide));subst h0;exact hJ
           subst hJ;simp +decide (maxDischargeDepth:=200) only[go_sem,Nat.reduceBEq,b6,fF,fC0,fC1,zL,iO,eq,io,c1,hc2,u0,u1,u2,wm];exact hk _ (Le.refl _)
         . cases ho;have h76:st.t 76= .x (.slice (some ⟨g2,o2,none⟩) N cap2):=(hn 76 (by decide)).trans (hv 76 (by kernel_rfl));have h77:st.t 77= .x (.int .i64 ((i:Nat):Int)):=(hn 77 (by decide)).trans (hv 77 (by kernel_rfl));have hJ:H2=Hx:=by have h0:j=0:=PV.1 (tl hj (by decide));subst h0;exact hJ
           subst hJ;simp +decide (maxDischargeDepth:=200) only[go_sem,Nat.reduceBEq,h76,h77,fF,fC0,fC1,zL,iO,eq,io,c1,hc2,u0,u1,u2,wm];exact hk _ (Le.refl _)
         . cases ho;have h78:st.t 78= .x (.pointer (some ⟨g2,o2+i*4,none⟩)):=(hn 78 (by decide)).trans (hv 78 (by kernel_rfl));have hJ:H2=Hx:=by have h0:j=0:=PV.1 (tl hj (by decide));subst h0;exact hJ
           subst hJ;simp +decide (maxDischargeDepth:=200) only[go_sem,Nat.reduceBEq,h78,fF,fC0,fC1,zL,iO,eq,io,c1,hc2,u0,u1,u2,wm];exact hk _ (Le.refl _)
         . cases ho;have h79:st.t 79= .x (.pointer (some ⟨g2,o2+i*4+3,none⟩)):=(hn 79 (by decide)).trans (hv 79 (by kernel_rfl));have hJ:H2=Hx:=by have h0:j=0:=PV.1 (tl hj (by decide));subst h0;exact hJ
           subst hJ;simp +decide (maxDischargeDepth:=200) only[go_sem,Nat.reduceBEq,h79,fF,fC0,fC1,zL,iO,eq,io,c1,hc2,u0,u1,u2,wm];exact hk _ (Le.refl _)
         . cases ho;have hJ:H2=Hx:=by have h0:j=0:=PV.1 (tl hj (by decide));subst h0;exact hJ
           subst hJ;simp +decide (maxDischargeDepth:=200) only[go_sem,Nat.reduceBEq,b2,fF,fC0,fC1,zL,iO,eq,io,c1,hc2,u0,u1,u2,wm];exact hk _ (Le.refl _)
         . cases ho;have h80:st.t 80= .x (.int .i64 m):=(hn 80 (by decide)).trans (hv 80 (by kernel_rfl));have h81:st.t 81= .x (.int .i64 n):=(hn 81 (by decide)).trans (hv 81 (by kernel_rfl));have hJ:H2=Hx:=by have h0:j=0:=PV.1 (tl hj (by decide));subst h0;exact hJ
           subst hJ;simp +decide (maxDischargeDepth:=200) only[go_sem,Nat.reduceBEq,h80,h81,fF,fC0,fC1,zL,iO,eq,io,c1,hc2,u0,u1,u2,wm];exact hk _ (Le.refl _)
         . cases ho;have h71:st.t 71= .x (.slice (some ⟨g2,o2,none⟩) N cap2):=(hn 71 (by decide)).trans (hv 71 (by kernel_rfl));have h72:st.t 72= .x (.int .i64 ((i:Nat):Int)):=(hn 72 (by decide)).trans (hv 72 (by kernel_rfl));have hJ:H2=Hx:=by have h0:j=0:=PV.1 (tl hj (by decide));subst h0;exact hJ
           subst hJ;simp +decide (maxDischargeDepth:=200) only[go_sem,Nat.reduceBEq,h71,h72,fF,fC0,fC1,zL,iO,eq,io,c1,hc2,u0,u1,u2,wm];exact hk _ (Le.refl _)
         . cases ho;have h83:st.t 83= .x (.pointer (some ⟨g2,o2+i*4,none⟩)):=(hn 83 (by decide)).trans (hv 83 (by kernel_rfl));have hJ:H2=Hx:=by have h0:j=0:=PV.1 (tl hj (by decide));subst h0;exact hJ
           subst hJ;simp +decide (maxDischargeDepth:=200) only[go_sem,Nat.reduceBEq,h83,fF,fC0,fC1,zL,iO,eq,io,c1,hc2,u0,u1,u2,wm];exact hk _ (Le.refl _)
         . cases hW
         . cases ho
       . rintro j i' o Hx val st hj ho hJ hv hn hb hbb K' hk;have b0:st.t 0= .x (ar p):=hb 0 (by kernel_rfl);have b4:st.t 4= .ptr 4 0:=hb 4 (by kernel_rfl);have b6:st.t 6= .x (.int .i64 ((i:Nat):Int)):=hb 6 (by kernel_rfl);have b2:st.t 2= .x (.int .i64 n):=hb 2 (by kernel_rfl);have bb4:st.b 4=some ([.x (.int .i64 s.1),.x (.int .i64 s.2.1),.x (.int .i64 s.2.2)]):=(QP hbb 4).trans (by kernel_rfl);clear hb hbb;rcases j with _|j
         . cases hj;cases ho;have h84:st.t 84= .x (.pointer (some ⟨g2,o2+i*4+3,none⟩)):=(hn 84 (by decide)).trans (hv 84 (by kernel_rfl));have h82:st.t 82= .x (.int .i64 (m+n)):=(hn 82 (by decide)).trans (hv 82 (by kernel_rfl));have hJ:H2=Hx:=hJ;subst hJ;simp +decide (maxDischargeDepth:=200) only[go_sem,Nat.reduceBEq,h84,h82,fF,fC0,fC1,zL,iO,eq,io,hc2,u3,s3];exact hk _ .undef _ rfl (Le.refl _)
         . cases hj
       . rintro Hx val hJ hv;refine⟨[(0,.x (ar p)),(2,.x (.int .i64 n)),(4,.ptr 4 0),(6,.x (.int .i64 ((i:Nat):Int)))],[(4,[.x (.int .i64 s.1),.x (.int .i64 s.2.1),.x (.int .i64 s.2.2)])],?_,?_,?_⟩
         . simp +decide only[go_sem,Nat.reduceBEq]<;>(repeat' first|exact bd (by kernel_rfl)|exact(be (by kernel_rfl)).trans (hv _ (by kernel_rfl))|rfl|constructor)
         . simp +decide only[go_sem,Nat.reduceBEq]<;>(repeat' first|rfl|constructor)
         have hJ:Hx=aw H2 g2 (some (rowO (cF C2 (o2+i*4+3) [.int .i64 (m+n)]) ty2)):=hJ;subst hJ;clear hv c1;obtain⟨H3,hH3⟩:∃H3,H3=aw H2 g2 (some (rowO (cF C2 (o2+i*4+3) [.int .i64 (m+n)]) ty2)):=⟨_,rfl⟩;rw[<-hH3];have hp3:H3 p=some (rowO [(.slice (some ⟨g2,o2,none⟩) N cap2)] 53):=by rw[hH3,ae _ _ (QT hpg)];exact hp2
         have hc3:au H3 g2=some (cF C2 (o2+i*4+3) [.int .i64 (m+n)],ty2):=ak (by rw[hH3,aa]);have c1:=ak hp3;have v2:=pb (C:=C2) (u:= .int .i64 (m+n)) (show o2+i*4+3<C2.length by omega);have hrow3:RowV H3 (.slice (some ⟨g2,o2,none⟩) N cap2) 4 (aF (A++(s,m+n)::B)):=by
          refine .inr ⟨g2,o2,N,cap2,(cF C2 (o2+i*4+3) [.int .i64 (m+n)]).toArray,ty2,rfl,by rw[hH3,aa];rfl,hl2,?_,?_⟩
          . rw[QC,pa (by omega)];exact hb2
          . have:=o9 (C:=C2) (off:=o2) (A:=A) (B:=B) (s:=s) (m:=m) (q:=m+n) (by rw[<-hN];omega) (by rw[<-hN];exact ht2);rw[hAl,show(A++(s,m+n)::B).length=N by rw[hN];simp] at this;exact this
         cases hz0:decide (m+n=0)
         . simp +decide (maxDischargeDepth:=200) only[go_sem,Nat.reduceBEq,fF,fC0,fC1,zL,iO,eq,io,c1,hc3,v2,u0,u1,hz0];have hz1:=RV hz0;exact finK H3 (some ⟨g2,o2,none⟩) N cap2 (A++(s,m+n)::B) (by rw[hN];simp) hp3 hrow3 (fun e=>hpg (QE e)) (by rw[PS hz1,QK];rfl) (fun y hy hy2=>by rw[hH3];exact(ae _ _ (fun e=>hfn y hy hy2 e)).trans (hfr y hy hy2)) (fun y hy=>hfo y hy)
         . have hz1:=QA hz0;have hcut1:=hrow3.cut (l:=0) (h:=i) (PH _) (by show i<=N;omega);have hcut2:=hrow3.cut (l:=i+1) (h:=N) (by omega) (PB N);have e1:((aF (A++(s,m+n)::B)).take (i*4)).drop (0*4)=aF A:=by rw[Q4,Rm,fI,Qy (by omega),<-hAl,QL]
           have e2:((aF (A++(s,m+n)::B)).take (N*4)).drop ((i+1)*4)=aF B:=by rw[Qb (by rw[bG,hN];simp),eK,List.drop_append,hAl,RT,Rt (by omega)];rfl
           rw[e1] at hcut1;rw[e2] at hcut2;have hex:(∃cs,RowV H3 (.slice (some ⟨g2,o2,none⟩) N cap2) 4 cs):=⟨_,hrow3⟩;have n1:((i+1:Nat):Int).toNat=i+1:=io _;simp +decide (maxDischargeDepth:=200) only[go_sem,Nat.reduceBEq,fF,fC0,fC1,zL,iO,eq,io,c1,hc3,v2,u0,u1,hz0];have jf:∀(j:Nat) (Hx:HH) (val:Nat->V),j<=2->(fun j Hx val=>match j with|0=>GrowJ H3 Hx (.slice none 0 0) [] 0|1=>∃v,val 101= .x v∧GrowJ H3 Hx v (aF A) i|2=>∃v,val 109= .x v∧GrowJ H3 Hx v (aF (A++B)) (N-1)|_=>∃v H4,GrowJ H3 H4 v (aF (A++B)) (N-1)∧Hx=aw H4 p (some (rowO [v] 53))) j Hx val->∀y,H3 y≠none->Hx y=H3 y:=fun j Hx val hj hJ=>by
            rcases j with _|_|_|j
            . exact hJ.2.2.1
            . obtain⟨v,_,h⟩:=hJ;exact h.2.2.1
            . obtain⟨v,_,h⟩:=hJ;exact h.2.2.1
            . omega
           refine aU (fun k=>match k with|2=>[95]|3=>[96]|4=>[97]|6=>[98,99]|7=>[100]|9=>[102]|10=>[103]|11=>[104]|13=>[106]|14=>[105,107]|15=>[101,108]|16=>[94]|17=>[110]|18=>[111,109]|_=>[]) [7,15,18] (fun k=>match k with|0=>2|1=>0|2=>0|3=>0|4=>0|5=>0|6=>0|8=>1|9=>1|10=>1|11=>1|12=>1|13=>1|14=>1|16=>2|17=>2|_=>3) (fun j Hx val=>match j with|0=>GrowJ H3 Hx (.slice none 0 0) [] 0|1=>∃v,val 101= .x v∧GrowJ H3 Hx v (aF A) i|2=>∃v,val 109= .x v∧GrowJ H3 Hx v (aF (A++B)) (N-1)|_=>∃v H4,GrowJ H3 H4 v (aF (A++B)) (N-1)∧Hx=aw H4 p (some (rowO [v] 53))) (Ct p i g2 o2 N cap2) (by kernel_rfl) (by kernel_rfl) (by kernel_rfl) (GrowJ.start H3) ?_ ?_ ?_
           . rintro j i' o Hx val st ho hW hj hJ hv hn hb hbb K' hk;have b0:st.t 0= .x (ar p):=hb 0 (by kernel_rfl);have b4:st.t 4= .ptr 4 0:=hb 4 (by kernel_rfl);have b6:st.t 6= .x (.int .i64 ((i:Nat):Int)):=hb 6 (by kernel_rfl);have bb4:st.b 4=some ([.x (.int .i64 s.1),.x (.int .i64 s.2.1),.x (.int .i64 s.2.2)]):=(QP hbb 4).trans (by kernel_rfl);clear hb hbb;rcases i' with _|_|_|_|_|_|_|_|_|_|_|_|_|_|_|_|_|_|_|i'
             . cases ho;have hf:=jf _ _ _ (tl hj (by decide)) hJ;have c1:au Hx p=some ([(.slice (some ⟨g2,o2,none⟩) N cap2)],53):=ak (by rw[hf p (by rw[hp3];simp)];exact hp3);have hex:(∃cs,RowV Hx (.slice (some ⟨g2,o2,none⟩) N cap2) 4 cs):=⟨_,hrow3.to (fun g hg=>hf g (by cases hg;rw[hH3,aa];simp))⟩;simp +decide (maxDischargeDepth:=200) only[go_sem,Nat.reduceBEq,b0,fF,fC0,fC1,zL,iO,eq,io,c1,hex,u0,u00,n1,ci,PH,hiN,hiN1,aB,PB];exact hk _ (Le.refl _)
             . cases ho;have hf:=jf _ _ _ (tl hj (by decide)) hJ;have c1:au Hx p=some ([(.slice (some ⟨g2,o2,none⟩) N cap2)],53):=ak (by rw[hf p (by rw[hp3];simp)];exact hp3);have hex:(∃cs,RowV Hx (.slice (some ⟨g2,o2,none⟩) N cap2) 4 cs):=⟨_,hrow3.to (fun g hg=>hf g (by cases hg;rw[hH3,aa];simp))⟩;simp +decide (maxDischargeDepth:=200) only[go_sem,Nat.reduceBEq,b0,fF,fC0,fC1,zL,iO,eq,io,c1,hex,u0,u00,n1,ci,PH,hiN,hiN1,aB,PB];exact hk _ (Le.refl _)
             . cases ho;have h95:st.t 95= .x (ar p):=(hn 95 (by decide)).trans (hv 95 (by kernel_rfl));have hf:=jf _ _ _ (tl hj (by decide)) hJ;have c1:au Hx p=some ([(.slice (some ⟨g2,o2,none⟩) N cap2)],53):=ak (by rw[hf p (by rw[hp3];simp)];exact hp3);have hex:(∃cs,RowV Hx (.slice (some ⟨g2,o2,none⟩) N cap2) 4 cs):=⟨_,hrow3.to (fun g hg=>hf g (by cases hg;rw[hH3,aa];simp))⟩;simp +decide (maxDischargeDepth:=200) only[go_sem,Nat.reduceBEq,h95,fF,fC0,fC1,zL,iO,eq,io,c1,hex,u0,u00,n1,ci,PH,hiN,hiN1,aB,PB];exact hk _ (Le.refl _)
             . cases ho;have h96:st.t 96= .x (ar p):=(hn 96 (by decide)).trans (hv 96 (by kernel_rfl));have hf:=jf _ _ _ (tl hj (by decide)) hJ;have c1:au Hx p=some ([(.slice (some ⟨g2,o2,none⟩) N cap2)],53):=ak (by rw[hf p (by rw[hp3];simp)];exact hp3);have hex:(∃cs,RowV Hx (.slice (some ⟨g2,o2,none⟩) N cap2) 4 cs):=⟨_,hrow3.to (fun g hg=>hf g (by cases hg;rw[hH3,aa];simp))⟩;simp +decide (maxDischargeDepth:=200) only[go_sem,Nat.reduceBEq,h96,fF,fC0,fC1,zL,iO,eq,io,c1,hex,u0,u00,n1,ci,PH,hiN,hiN1,aB,PB];exact hk _ (Le.refl _)
             . cases ho;have h97:st.t 97= .x (ar p):=(hn 97 (by decide)).trans (hv 97 (by kernel_rfl));have hf:=jf _ _ _ (tl hj (by decide)) hJ;have c1:au Hx p=some ([(.slice (some ⟨g2,o2,none⟩) N cap2)],53):=ak (by rw[hf p (by rw[hp3];simp)];exact hp3);have hex:(∃cs,RowV Hx (.slice (some ⟨g2,o2,none⟩) N cap2) 4 cs):=⟨_,hrow3.to (fun g hg=>hf g (by cases hg;rw[hH3,aa];simp))⟩;simp +decide (maxDischargeDepth:=200) only[go_sem,Nat.reduceBEq,h97,fF,fC0,fC1,zL,iO,eq,io,c1,hex,u0,u00,n1,ci,PH,hiN,hiN1,aB,PB];exact hk _ (Le.refl _)
             . cases ho;have hf:=jf _ _ _ (tl hj (by decide)) hJ;have c1:au Hx p=some ([(.slice (some ⟨g2,o2,none⟩) N cap2)],53):=ak (by rw[hf p (by rw[hp3];simp)];exact hp3);have hex:(∃cs,RowV Hx (.slice (some ⟨g2,o2,none⟩) N cap2) 4 cs):=⟨_,hrow3.to (fun g hg=>hf g (by cases hg;rw[hH3,aa];simp))⟩;simp +decide (maxDischargeDepth:=200) only[go_sem,Nat.reduceBEq,b6,fF,fC0,fC1,zL,iO,eq,io,c1,hex,u0,u00,n1,ci,PH,hiN,hiN1,aB,PB];exact hk _ (Le.refl _)
             . cases ho;have h98:st.t 98= .x (.slice (some ⟨g2,o2,none⟩) N cap2):=(hn 98 (by decide)).trans (hv 98 (by kernel_rfl));have h99:st.t 99= .x (.int .i64 ((i:Nat):Int)):=(hn 99 (by decide)).trans (hv 99 (by kernel_rfl));have hf:=jf _ _ _ (tl hj (by decide)) hJ;have c1:au Hx p=some ([(.slice (some ⟨g2,o2,none⟩) N cap2)],53):=ak (by rw[hf p (by rw[hp3];simp)];exact hp3);have hex:(∃cs,RowV Hx (.slice (some ⟨g2,o2,none⟩) N cap2) 4 cs):=⟨_,hrow3.to (fun g hg=>hf g (by cases hg;rw[hH3,aa];simp))⟩;simp +decide (maxDischargeDepth:=200) only[go_sem,Nat.reduceBEq,h98,h99,fF,fC0,fC1,zL,iO,eq,io,c1,hex,u0,u00,n1,ci,PH,hiN,hiN1,aB,PB];exact hk _ (Le.refl _)
             . cases hW
             . cases ho;have hf:=jf _ _ _ (tl hj (by decide)) hJ;have c1:au Hx p=some ([(.slice (some ⟨g2,o2,none⟩) N cap2)],53):=ak (by rw[hf p (by rw[hp3];simp)];exact hp3);have hex:(∃cs,RowV Hx (.slice (some ⟨g2,o2,none⟩) N cap2) 4 cs):=⟨_,hrow3.to (fun g hg=>hf g (by cases hg;rw[hH3,aa];simp))⟩;simp +decide (maxDischargeDepth:=200) only[go_sem,Nat.reduceBEq,b0,fF,fC0,fC1,zL,iO,eq,io,c1,hex,u0,u00,n1,ci,PH,hiN,hiN1,aB,PB];exact hk _ (Le.refl _)
             . cases ho;have h102:st.t 102= .x (ar p):=(hn 102 (by decide)).trans (hv 102 (by kernel_rfl));have hf:=jf _ _ _ (tl hj (by decide)) hJ;have c1:au Hx p=some ([(.slice (some ⟨g2,o2,none⟩) N cap2)],53):=ak (by rw[hf p (by rw[hp3];simp)];exact hp3);have hex:(∃cs,RowV Hx (.slice (some ⟨g2,o2,none⟩) N cap2) 4 cs):=⟨_,hrow3.to (fun g hg=>hf g (by cases hg;rw[hH3,aa];simp))⟩;simp +decide (maxDischargeDepth:=200) only[go_sem,Nat.reduceBEq,h102,fF,fC0,fC1,zL,iO,eq,io,c1,hex,u0,u00,n1,ci,PH,hiN,hiN1,aB,PB];exact hk _ (Le.refl _)
             . cases ho;have h103:st.t 103= .x (ar p):=(hn 103 (by decide)).trans (hv 103 (by kernel_rfl));have hf:=jf _ _ _ (tl hj (by decide)) hJ;have c1:au Hx p=some ([(.slice (some ⟨g2,o2,none⟩) N cap2)],53):=ak (by rw[hf p (by rw[hp3];simp)];exact hp3);have hex:(∃cs,RowV Hx (.slice (some ⟨g2,o2,none⟩) N cap2) 4 cs):=⟨_,hrow3.to (fun g hg=>hf g (by cases hg;rw[hH3,aa];simp))⟩;simp +decide (maxDischargeDepth:=200) only[go_sem,Nat.reduceBEq,h103,fF,fC0,fC1,zL,iO,eq,io,c1,hex,u0,u00,n1,ci,PH,hiN,hiN1,aB,PB];exact hk _ (Le.refl _)
             . cases ho;have h104:st.t 104= .x (ar p):=(hn 104 (by decide)).trans (hv 104 (by kernel_rfl));have hf:=jf _ _ _ (tl hj (by decide)) hJ;have c1:au Hx p=some ([(.slice (some ⟨g2,o2,none⟩) N cap2)],53):=ak (by rw[hf p (by rw[hp3];simp)];exact hp3);have hex:(∃cs,RowV Hx (.slice (some ⟨g2,o2,none⟩) N cap2) 4 cs):=⟨_,hrow3.to (fun g hg=>hf g (by cases hg;rw[hH3,aa];simp))⟩;simp +decide (maxDischargeDepth:=200) only[go_sem,Nat.reduceBEq,h104,fF,fC0,fC1,zL,iO,eq,io,c1,hex,u0,u00,n1,ci,PH,hiN,hiN1,aB,PB];exact hk _ (Le.refl _)
             . cases ho;have hf:=jf _ _ _ (tl hj (by decide)) hJ;have c1:au Hx p=some ([(.slice (some ⟨g2,o2,none⟩) N cap2)],53):=ak (by rw[hf p (by rw[hp3];simp)];exact hp3);have hex:(∃cs,RowV Hx (.slice (some ⟨g2,o2,none⟩) N cap2) 4 cs):=⟨_,hrow3.to (fun g hg=>hf g (by cases hg;rw[hH3,aa];simp))⟩;simp +decide (maxDischargeDepth:=200) only[go_sem,Nat.reduceBEq,b6,fF,fC0,fC1,zL,iO,eq,io,c1,hex,u0,u00,n1,ci,PH,hiN,hiN1,aB,PB];exact hk _ (Le.refl _)
             . cases ho;have h106:st.t 106= .x (.int .i64 ((i:Nat):Int)):=(hn 106 (by decide)).trans (hv 106 (by kernel_rfl));have hf:=jf _ _ _ (tl hj (by decide)) hJ;have c1:au Hx p=some ([(.slice (some ⟨g2,o2,none⟩) N cap2)],53):=ak (by rw[hf p (by rw[hp3];simp)];exact hp3);have hex:(∃cs,RowV Hx (.slice (some ⟨g2,o2,none⟩) N cap2) 4 cs):=⟨_,hrow3.to (fun g hg=>hf g (by cases hg;rw[hH3,aa];simp))⟩;simp +decide (maxDischargeDepth:=200) only[go_sem,Nat.reduceBEq,h106,fF,fC0,fC1,zL,iO,eq,io,c1,hex,u0,u00,n1,ci,PH,hiN,hiN1,aB,PB];exact hk _ (Le.refl _)
             . cases ho;have h105:st.t 105= .x (.slice (some ⟨g2,o2,none⟩) N cap2):=(hn 105 (by decide)).trans (hv 105 (by kernel_rfl));have h107:st.t 107= .x (.int .i64 (((i+1):Nat):Int)):=(hn 107 (by decide)).trans (hv 107 (by kernel_rfl));have hf:=jf _ _ _ (tl hj (by decide)) hJ;have c1:au Hx p=some ([(.slice (some ⟨g2,o2,none⟩) N cap2)],53):=ak (by rw[hf p (by rw[hp3];simp)];exact hp3);have hex:(∃cs,RowV Hx (.slice (some ⟨g2,o2,none⟩) N cap2) 4 cs):=⟨_,hrow3.to (fun g hg=>hf g (by cases hg;rw[hH3,aa];simp))⟩;simp +decide (maxDischargeDepth:=200) only[go_sem,Nat.reduceBEq,h105,h107,fF,fC0,fC1,zL,iO,eq,io,c1,hex,u0,u00,n1,ci,PH,hiN,hiN1,aB,PB];exact hk _ (Le.refl _)
             . cases hW
             . cases ho;have h94:st.t 94= .x (ar p):=(hn 94 (by decide)).trans (hv 94 (by kernel_rfl));have hf:=jf _ _ _ (tl hj (by decide)) hJ;have c1:au Hx p=some ([(.slice (some ⟨g2,o2,none⟩) N cap2)],53):=ak (by rw[hf p (by rw[hp3];simp)];exact hp3);have hex:(∃cs,RowV Hx (.slice (some ⟨g2,o2,none⟩) N cap2) 4 cs):=⟨_,hrow3.to (fun g hg=>hf g (by cases hg;rw[hH3,aa];simp))⟩;simp +decide (maxDischargeDepth:=200) only[go_sem,Nat.reduceBEq,h94,fF,fC0,fC1,zL,iO,eq,io,c1,hex,u0,u00,n1,ci,PH,hiN,hiN1,aB,PB];exact hk _ (Le.refl _)
             . cases ho;have h110:st.t 110= .x (ar p):=(hn 110 (by decide)).trans (hv 110 (by kernel_rfl));have hf:=jf _ _ _ (tl hj (by decide)) hJ;have c1:au Hx p=some ([(.slice (some ⟨g2,o2,none⟩) N cap2)],53):=ak (by rw[hf p (by rw[hp3];simp)];exact hp3);have hex:(∃cs,RowV Hx (.slice (some ⟨g2,o2,none⟩) N cap2) 4 cs):=⟨_,hrow3.to (fun g hg=>hf g (by cases hg;rw[hH3,aa];simp))⟩;simp +decide (maxDischargeDepth:=200) only[go_sem,Nat.reduceBEq,h110,fF,fC0,fC1,zL,iO,eq,io,c1,hex,u0,u00,n1,ci,PH,hiN,hiN1,aB,PB];exact hk _ (Le.refl _)
             . cases hW
             . cases ho
           . rintro j i' o Hx val st hj ho hJ hv hn hb hbb K' hk;have b0:st.t 0= .x (ar p):=hb 0 (by kernel_rfl);have b4:st.t 4= .ptr 4 0:=hb 4 (by kernel_rfl);have b6:st.t 6= .x (.int .i64 ((i:Nat):Int)):=hb 6 (by kernel_rfl);have bb4:st.b 4=some ([.x (.int .i64 s.1),.x (.int .i64 s.2.1),.x (.int .i64 s.2.2)]):=(QP hbb 4).trans (by kernel_rfl);clear hb hbb;rcases j with _|_|_|j
             . cases hj;cases ho;have h100:st.t 100= .x (fG 4 0 i (.slice (some ⟨g2,o2,none⟩) N cap2)):=(hn 100 (by decide)).trans (hv 100 (by kernel_rfl));have hG:GrowJ H3 Hx (.slice none 0 0) [] 0:=hJ;have hf:=hG.2.2.1;simp +decide (maxDischargeDepth:=200) only[go_sem,Nat.reduceBEq,h100,fF,fC0,fC1,zL,iO,eq,io];refine ce (cs':=aF A) (k:=i) hG aV ⟨(hcut1.2.2).to (fun g hg=>hf g (by rw[hcut1.1] at hg;cases hg;rw[hH3,aa];simp)),hcut1.2.1⟩ (cC _) (by omega) fun v' H' hg=>hk H' (.x v') _ ⟨v',aa _ _ _,by rw[QX,Qn] at hg;exact hg⟩ (by rw[bo];exact Le.refl _)
             . cases hj;cases ho;have h108:st.t 108= .x (fG 4 (i+1) N (.slice (some ⟨g2,o2,none⟩) N cap2)):=(hn 108 (by decide)).trans (hv 108 (by kernel_rfl));obtain⟨v1,q1,hG⟩:∃v,val 101= .x v∧GrowJ H3 Hx v (aF A) i:=hJ;have h101:st.t 101= .x v1:=(hn 101 (by decide)).trans q1;have hf:=hG.2.2.1;simp +decide (maxDischargeDepth:=200) only[go_sem,Nat.reduceBEq,h101,h108,fF,fC0,fC1,zL,iO,eq,io];refine ce (cs':=aF B) (k:=N-(i+1)) hG aV ⟨(hcut2.2.2).to (fun g hg=>hf g (by rw[hcut2.1] at hg;cases hg;rw[hH3,aa];simp)),hcut2.2.1⟩ (cC _) (by omega) fun v' H' hg=>hk H' (.x v') _ ⟨v',aa _ _ _,by rw[<-cO,show i+(N-(i+1))=N-1 by omega] at hg;exact hg⟩ (by rw[bo];exact Le.refl _)
             . cases hj;cases ho;have h111:st.t 111= .x (ar p):=(hn 111 (by decide)).trans (hv 111 (by kernel_rfl));obtain⟨v1,q1,hG⟩:∃v,val 109= .x v∧GrowJ H3 Hx v (aF (A++B)) (N-1):=hJ;have h109:st.t 109= .x v1:=(hn 109 (by decide)).trans q1;have hf:=hG.2.2.1;have c1:au Hx p=some ([(.slice (some ⟨g2,o2,none⟩) N cap2)],53):=ak (by rw[hf p (by rw[hp3];simp)];exact hp3);have xo:=pd hG.1.one;have sp:cF [(.slice (some ⟨g2,o2,none⟩) N cap2)] 0 [v1]=[v1]:=by simp[cF]
               have s27:bg Try.prog 28=some 1:=by kernel_rfl
               simp +decide (maxDischargeDepth:=200) only[go_sem,Nat.reduceBEq,h109,h111,fF,fC0,fC1,zL,iO,eq,io,c1,xo,sp,s27];exact hk _ .undef _ ⟨v1,Hx,hG,rfl⟩ (Le.refl _)
             . cases hj
           . rintro Hx val hJ hv;refine⟨[(0,.x (ar p)),(2,.x (.int .i64 n)),(4,.ptr 4 0),(6,.x (.int .i64 ((i:Nat):Int)))],[(4,[.x (.int .i64 s.1),.x (.int .i64 s.2.1),.x (.int .i64 s.2.2)])],?_,?_,?_⟩
             . simp +decide only[go_sem,Nat.reduceBEq]<;>(repeat' first|exact bd (by kernel_rfl)|exact(be (by kernel_rfl)).trans (hv _ (by kernel_rfl))|rfl|constructor)
             . simp +decide only[go_sem,Nat.reduceBEq]<;>(repeat' first|rfl|constructor)
             obtain⟨v1,H4,hG,rfl⟩:∃v H4,GrowJ H3 H4 v (aF (A++B)) (N-1)∧Hx=aw H4 p (some (rowO [v] 53)):=hJ;simp +decide (maxDischargeDepth:=200) only[go_sem,Nat.reduceBEq];obtain⟨ad4,cap4,hv1⟩:∃ax cx,v1= .slice ax (A++B).length cx:=by
              have e3:aB v1=(A++B).length:=by rw[hG.2.1,hN];simp
              rcases hG.1 with⟨_,e⟩|⟨g',o',n',cp',_,_,e,_⟩
              . rw[e] at e3;exact⟨none,0,by rw[e,<-e3];rfl⟩
              . rw[e] at e3;exact⟨_,_,by rw[e,<-e3];rfl⟩
             subst hv1;have hpn:blkOf (.slice ad4 (A++B).length cap4)≠some p:=fun e=>by have:=hG.2.2.2 p e;rw[hp3] at this;cases this
             exact finK _ ad4 (A++B).length cap4 (A++B) rfl (aa _ _ _) (hG.1.to (fun g hg=>ae _ _ (fun e=>hpn (by rw[hg,e])))) hpn (by rw[PO hz1,QS]) (fun y hy hy2=>by
              have hyp:y≠p:=fun e=>hy (by rw[e];exact PZ ..)
              have h5:H3 y=H y:=by rw[hH3];exact(ae _ _ (fun e=>hfn y hy hy2 e)).trans (hfr y hy hy2)
              rw[ae _ _ hyp,hG.2.2.1 y (by rw[h5];exact hy2),h5]) (fun y hy=>by
              have h6:=hG.2.2.2 y hy;by_cases e:y=g2
              . subst e;rw[hH3,aa] at h6;cases h6
              . rw[hH3,ae _ _ e] at h6;exact .inr (hnew y h6))
end Go.Proofs.Ytldnpcolhdnkdaa
