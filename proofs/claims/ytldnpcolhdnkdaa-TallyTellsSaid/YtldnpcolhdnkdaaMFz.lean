/- Chapter 16's laws: alive; what an Add leaves of other fronts. -/
import Derived.Test.YtldnpcolhdnkdaaMFr
import Derived.Test.YtldnpcolhdnkdaaMFa
import Derived.Test.YtldnpcolhdnkdaaMFx
import Derived.Test.YtldnpcolhdnkdaaMTx
namespace Go.Proofs.Ytldnpcolhdnkdaa
set_option linter.unusedSimpArgs false
set_option maxHeartbeats 64000000
set_option maxRecDepth 100000
open Go Go.RowKit
attribute [go_sem] Try.results4 Try.results10
def Disj (A B:List Nat):Prop:=∀y∈A,y∉B
theorem Disj.symm {A B:List Nat} (h:Disj A B):Disj B A:=fun y hb ha=>h y ha hb
theorem cI {Fr2:FrT} {t:TypeId} {z:List Value} (ok2:FrOK Fr2 t z) {H H':HH} {p2 k2:Nat} {c2:Cn} {F F' F2:List Nat} (h2:Fr2 H p2 c2 k2 F2) (hd:Disj F2 F) (hf:∀y,y∉F->H y≠none->H' y=H y) (hn:∀y∈F',y∈F∨H y=none):Fr2 H' p2 c2 k2 F2∧Disj F2 F':=
 ⟨ok2.keep h2 (fun y hy=>hf y (hd y hy) (ok2.on h2 y hy)),fun y hy hy'=>(hn y hy').elim (hd y hy) (fun e=>ok2.on h2 y hy e)⟩
def Dj (Fr:FrT) (us:List V) (H:HH) (T:V->HH->Prop):Prop:=∃p nl z L c k F,us=[.x (ar p),.sl nl z (L.map cD) none]∧(L≠[]->z=4)∧Fr H p c k F∧k+L.length<=100∧(∀i,i<=L.length->Cm (fun s=>c s+cv (L.take i) s))∧(∀x∈L,-1152921504606846976<=x.2∧x.2<=1152921504606846976)∧
 ∀H' F',Fr H' p (fun s=>c s+cv L s) (k+L.length) F'->(∀y,y∉F->H y≠none->H' y=H y)->(∀y∈F',y∈F∨H y=none)->T (.tup []) H'
def oq:List (FuncId×(List V->HH->Tr)):=[(18,Fp DFr)]
theorem vg:cV (bU [] [] [] (fun _=>false) (fun _=>false)) 10 (Dj DFr):=by
 refine dS (F:={F:=so oq,D:=fun _=>false}) (n:=19) (k:=2) (aP [] [] [] _ _ trivial trivial trivial) (by kernel_rfl) (eO (l:=oq) ⟨Dc,trivial⟩) (fun t s C e=>by cases e) Try.func10 rfl (fun a w=>Try.call10 a w) Try.ntmps10 (by decide) (by decide) (by kernel_rfl) ?_;rintro us H T ⟨p,nl,z,L,c,k,F,rfl,hz,hR,hk,hbig,hsm,hT⟩ hdat;clear hdat;refine⟨rfl,?_⟩;simp +decide (maxDischargeDepth:=200) only[go_sem,Nat.reduceBEq,oq,eq];refine bP (X:={i:Nat//i<=L.length}) (fun i=>[(0,.x (ar p)),(6,.sl nl z (L.map cD) none),(7,.x (.int .i64 (L.length:Int))),(8,.x (.int .i64 ((i.1:Nat):Int)))]) (fun _=>[]) (fun i Hx=>∃F',DFr Hx p (fun s=>c s+cv (L.take i.1) s) (k+i.1) F'∧(∀y,y∉F->H y≠none->Hx y=H y)∧∀y∈F',y∈F∨H y=none) (fun i=>L.length-i.1) ⟨0,PH _⟩ (by simp +decide only[go_sem,Nat.reduceBEq,P3]<;>(repeat' first|rfl|constructor)) (by simp +decide only[go_sem,Nat.reduceBEq,P3]<;>(repeat' first|rfl|constructor)) ⟨F,by simpa[cv] using hR,fun _ _ _=>rfl,fun y hy=> .inl hy⟩ ?_;clear hR;rintro⟨i,hi⟩ Hi ⟨F1,hR,hfr,hn⟩;simp only at hi hR⊢;by_cases hil:i<L.length
 case neg=>
  have d0:decide ((i:Int)<(L.length:Int))=false:=PC (by omega);have ei:i=L.length:=by omega
  rw[show L.take i=L from Qb (by omega),ei] at hR;simp +decide (maxDischargeDepth:=200) only[go_sem,Nat.reduceBEq,oq,eq,d0];exact hT _ _ hR hfr hn
 obtain rfl:z=4:=hz (fun e=>by rw[e] at hil;cases hil);have d0:decide ((i:Int)<(L.length:Int))=true:=PD (by omega);have p0:(0:Int)<=(i:Int):=by omega
 have p1:(i:Int)<(L.length:Int):=by omega
 have cu:=bh (i:=i) (by omega);have hx:L[i]?=some L[i]:=Io hil;generalize L[i]=x at hx;have q1:(L.map cD)[((i:Int)).toNat]?=some (.agg [.x (.int .i64 x.1.1),.x (.int .i64 x.1.2.1),.x (.int .i64 x.1.2.2),.x (.int .i64 x.2)]):=by rw[io,PF,hx];rfl
 have hb:=hbig i hi;have hsx:=hsm x (PM hx);simp +decide (maxDischargeDepth:=200) only[go_sem,Nat.reduceBEq,oq,eq,d0,p0,p1,q1];refine⟨p,x.1,x.2,_,_,F1,rfl,hR,by omega,hb,hsx,fun Hx F' hR' hf' hn'=>?_⟩;simp +decide (maxDischargeDepth:=200) only[go_sem,Nat.reduceBEq,oq,cu];refine⟨⟨i+1,hil⟩,⟨by simp +decide (maxDischargeDepth:=200) only[go_sem,Nat.reduceBEq],by simp +decide (maxDischargeDepth:=200) only[go_sem,Nat.reduceBEq],F',?_,fun y hy h0=>?_,fun y hy=>?_⟩,by simp only;omega⟩
 . have e:js (fun s=>c s+cv (L.take i) s) x.1 x.2=fun s=>c s+cv (L.take (i+1)) s:=by
    funext s;rw[br hx,mH];simp only[js,cv];by_cases e:s=x.1
    . rw[PO e,PO e.symm];omega
    . rw[PS e,PS (fun h=>e h.symm)];omega
   rw[e] at hR';exact hR'
 . have h1:=hfr y hy h0;exact(hf' y (fun h=>(hn y h).elim hy h0) (by rw[h1];exact h0)).trans h1
 . rcases hn' y hy with h|h
   . exact hn y h
   . by_cases hyF:y∈F
     . exact .inl hyF
     . refine .inr ?_;cases e:H y with
       |none=>rfl
       |some ob=>rw[hfr y hyF (by rw[e];simp),e] at h;cases h
theorem lh:∀{L:List Ch},eP L->∀s,cv L s=bn L s
 |[],_,_=>rfl
 | x ::L,h,s=>by
   rw[eP,Q6] at h;rw[cv,bn];by_cases e:x.1=s
   . rw[PO e,PO e,lh h.2,gI (fun y hy hs=>by have:=h.1 y hy;rw[hs,e,cP] at this;cases this)]
     omega
   . rw[PS e,PS e,lh h.2];omega
variable {a b:List eD}
theorem zg (h:a.Perm b):bN a=bN b:=by
 funext s
 induction h with
 |nil=>rfl
 |cons x _ ih=>simp only[bN,ih]
 |swap x y l=>simp only[bN];omega
 |trans _ _ h1 h2=>exact h1.trans h2
theorem zh (h:a.Perm b):bH a=bH b:=by
 induction h with
 |nil=>rfl
 |cons x _ ih=>simp only[bH,ih]
 |swap x y l=>simp only[bH];omega
 |trans _ _ h1 h2=>exact h1.trans h2
def gk (l:List eD) (k:Nat):eD:=(l[k]?).getD (true,0,[])
variable {l:List eD} {k:Nat}
theorem Dk {r:eD} (h:l[k]?=some r):gk l k=r:=by unfold gk;rw[h];rfl
theorem si (l:List eD):(List.range l.length).map (gk l)=l:=by
 apply QI;intro j;rw[PF];by_cases hj:j<l.length
 . rw[QZ hj,Io hj,Qd,Dk (Io hj)]
 . rw[Qc (by rw[Sn];omega),Qc (by omega)];rfl
structure Pck (n:Nat) (KS:List Nat):Prop where
 nd:KS.Nodup
 lt:∀k∈KS,k<n
variable {n:Nat} {KS:List Nat}
theorem Pck.ext (h:Pck n KS):∃E,(KS++E).Perm (List.range n):=by
 refine⟨(List.range n).filter (fun k=> !decide (k∈KS)),(List.perm_ext_iff_of_nodup ?_ List.nodup_range).2 fun k=>?_⟩
 . rw[QJ];refine⟨h.nd,List.nodup_range.sublist List.filter_sublist,fun a ha b hb e=>?_⟩;subst e;have:=(QB.1 hb).2;simp[ha] at this
 . rw[PU,QB];constructor
   . rintro(hk|hk)
     . exact Qg.2 (h.lt k hk)
     . exact hk.1
   . intro hk;by_cases hm:k∈KS
     . exact .inl hm
     . exact .inr ⟨hk,by simp[hm]⟩
theorem Pck.len (h:Pck l.length KS):bH (KS.map (gk l))<=bH l:=by obtain⟨E,he⟩:=h.ext;have h1:=zh (he.map (gk l));rw[si,Qj,d6] at h1;omega
theorem Pck.full (h:Pck l.length KS) (hl:KS.length=l.length):bN (KS.map (gk l))=bN l:=by
 obtain⟨E,he⟩:=h.ext;have h1:=he.length_eq;rw[PP,Sn,hl] at h1;have hE:E=[]:=Qu.1 (by omega);rw[hE,QS] at he;have h2:=zg (he.map (gk l))
 rwa [si] at h2
theorem Pck.free (_h:Pck n KS) (hl:KS.length<n):∃j,j<n∧j∉KS:=by
 refine QH fun hno=>?_
 have:=fE (l:=List.range n) (l':=KS) List.nodup_range (fun j hj=>QH fun hm=>hno ⟨j,Qg.1 hj,hm⟩);rw[Sn] at this;omega
theorem Pck.add (h:Pck n KS) (hk:k<n) (hm:k∉KS):Pck n (KS++[k]):=by
 refine⟨?_,fun j hj=>?_⟩
 . rw[QJ];refine⟨h.nd,by simp,fun a ha b hb e=>?_⟩;rw[PQ.1 hb] at e;rw[e] at ha;exact hm ha
 . rcases PU.1 hj with hj|hj
   . exact h.lt j hj
   . rw[PQ.1 hj];exact hk
theorem Pck.rows (h:Pck l.length KS):∀r∈KS.map (gk l),r∈l:=fun r hr=>by obtain⟨k,hk,rfl⟩:=Qi.1 hr;rw[Dk (Io (h.lt k hk))];exact R8 _
def BsOK (n:Nat) (KS:List Nat) (bs:List Bool):Prop:=bs.length=n∧∀k,k<n->bs[k]?=some (decide (k∈KS))
theorem BsOK.add {bs:List Bool} (h:BsOK n KS bs):BsOK n (KS++[k]) (bs.set k true):=by
 refine⟨by rw[RW];exact h.1,fun j hj=>?_⟩;rw[RC];by_cases e:k=j
 . subst e;rw[PO rfl,PO (by rw[h.1];exact hj)];simp
 . rw[PS e,h.2 j hj];congr 1;have e': ¬j=k:=fun h=>e h.symm
   simp[e']
def HdFr (bs:List Bool):FrT:=fun H p _ _ F=>H p=some (rowO (bs.map Value.bool) 4)∧F=[p]
theorem HdFr.ok (bs:List Bool):FrOK (HdFr bs) 4 (bs.map Value.bool):=by
 refine⟨?_,?_,?_⟩
 . rintro H H' p c k F ⟨h1,rfl⟩ hk;exact⟨(hk p (PZ ..)).trans h1,rfl⟩
 . rintro H p c k F ⟨h1,rfl⟩ y hy;rw[PQ.1 hy,h1];simp
 . intro H p h;exact⟨h,rfl⟩
theorem F4 (o:Int):0<=Ds .i64 o 1023:=by
 rw[vu,<-fo];have:(BitVec.ofInt IntKind.i64.bits o&&&BitVec.ofInt IntKind.i64.bits 1023).toNat<=1023:=by rw[BitVec.toNat_and];exact tl Nat.and_le_right (by decide)
 rw[aj (by unfold aS;omega)];omega
def KJ (n j k:Nat):Nat:=if k<=j then j-k else j+n-k
def Ip (n k:Nat):Nat:=if k+1=n then 0 else k+1
theorem Iq (h:k<n):Ip n k<n:=by unfold Ip;split<;>omega
theorem F5 (h:k<n):(((k+1:Nat):Int)).tmod (n:Int)=((Ip n k:Nat):Int):=by
 rw[<-Int.ofNat_tmod];unfold Ip;split
 . rename_i e;rw[e,Nat.mod_self]
 . rw[Ss (by omega)]
theorem Ir {j:Nat} (hk:k<n) (hj:j<n) (hne:k≠j):KJ n j (Ip n k)<KJ n j k:=by unfold KJ Ip;split<;>split<;>(try split)<;>omega
def Gs (i:Int):V:= .x (.int .i64 i)
abbrev KE:=Cq×(Bool×Nat×List Int)×aK
def sj (q:KE):List V:=[yI q.1,.sl q.2.1.1 q.2.1.2.1 (q.2.1.2.2.map Gs) none,aJ q.2.2]
theorem zi (p q:KE) (e:sj p=sj q):p=q:=by
 obtain⟨a,⟨b,z,O⟩,s⟩:=p;obtain⟨a',⟨b',z',O'⟩,s'⟩:=q;injection e with e1 e2
 injection e2 with e2 e3
 injection e3 with e3 _
 injection e2 with e2 e4 e5
 cases e2;cases e4;have h:O=O':=(List.map_inj_right (fun x y h=>by simpa[Gs] using h)).1 e5;have h1:a=a':=we e1;have h3:s=s':=rI e3;rw[h1,h3,h]
def Dl (q:KE):Prop:=nj q.1∧(q.2.1.2.2≠[]->q.2.1.2.1=1)
noncomputable instance (q:KE):Decidable (Dl q):=Classical.propDecidable _
noncomputable def Dm (q:KE):Option V:=if Dl q then some (.x (.bool true)) else none
def KF (us:List V) (_H:HH) (T:V->HH->Prop):Prop:=∃q,us=sj q∧Dl q∧∀H',T (.x (.bool true)) H'
def aG:List (FuncId×(List V->HH->Tr)):=[(8,yX),(10,Dj DFr),(11,Cp DFr),(12,v8 DFr),(13,Co DFr)]
noncomputable def Is (ga gb gc:Nat) (n1 n2 n3:Bool) (z1 z2 z3:Nat) (lf:List aK) (s:aK) (c:Cn):Nat->V
 |102=> .sl n1 z1 (lf.map aJ) none
 |103=> .x (.int .i64 ((lf.length:Nat):Int))
 |104=> .sl n2 z2 (lf.map aJ) none
 |105=> .x (.int .i64 ((lf.length:Nat):Int))
 |106=> .x (.bool false)
 |107=> .x (.bool false)
 |108=> .sl n1 z1 (lf.map aJ) none
 |109=> .x (.int .i64 ((lf.length:Nat):Int))
 |110=> .sl n3 z3 (lf.map aJ) none
 |111=> .x (.int .i64 ((lf.length:Nat):Int))
 |112=> .x (.bool false)
 |113=> .x (.bool false)
 |114=> .x (.bool false)
 |115=> .x (ar ga)
 |116=> .agg [.x (.int .i64 s.1),.x (.int .i64 s.2.1),.x (.int .i64 s.2.2)]
 |117=> .x (.bool (eh c s))
 |118=> .x (ar gb)
 |119=> .agg [.x (.int .i64 s.1),.x (.int .i64 s.2.1),.x (.int .i64 s.2.2)]
 |120=> .x (.bool (eh c s))
 |121=> .x (.bool false)
 |122=> .x (.bool false)
 |123=> .x (.bool false)
 |124=> .x (ar ga)
 |125=> .agg [.x (.int .i64 s.1),.x (.int .i64 s.2.1),.x (.int .i64 s.2.2)]
 |126=> .x (.bool (eh c s))
 |127=> .x (ar gc)
 |128=> .agg [.x (.int .i64 s.1),.x (.int .i64 s.2.1),.x (.int .i64 s.2.2)]
 |129=> .x (.bool (eh c s))
 |130=> .x (.bool false)
 |131=> .x (.bool false)
 |132=> .x (.bool false)
 |133=> .x (ar ga)
 |134=> .agg [.x (.int .i64 s.1),.x (.int .i64 s.2.1),.x (.int .i64 s.2.2)]
 |135=> .x (.int .i64 (c s))
 |136=> .x (ar gb)
 |137=> .agg [.x (.int .i64 s.1),.x (.int .i64 s.2.1),.x (.int .i64 s.2.2)]
 |138=> .x (.int .i64 (c s))
 |139=> .x (.bool false)
 |140=> .x (.bool false)
 |141=> .x (.bool false)
 |142=> .x (ar ga)
 |143=> .agg [.x (.int .i64 s.1),.x (.int .i64 s.2.1),.x (.int .i64 s.2.2)]
 |144=> .x (.int .i64 (c s))
 |145=> .x (ar gc)
 |146=> .agg [.x (.int .i64 s.1),.x (.int .i64 s.2.1),.x (.int .i64 s.2.2)]
 |147=> .x (.int .i64 (c s))
 |148=> .x (.bool false)
 |149=> .x (.bool false)
 |_=> .undef
theorem F6:cV (bU [(5,bv),(6,FE eE gi),(7,FE fV nX)] [] [] (fun _=>false) (fun _=>false)) 4 KF:=by
 refine dS (F:={F:=so aG,D:=fun d=>d==36||d==38||d==40||d==43,any:=fun i=>i==23}) (n:=176) (k:=3) (aP [(5,bv),(6,FE eE gi),(7,FE fV nX)] [] [] _ _ ⟨kP,nW,rK,trivial⟩ trivial trivial) (by kernel_rfl) (eO (l:=aG) ⟨mI,vg,vf,se,vd,trivial⟩) (fun t s C e=>by cases e) Try.func4 rfl (fun a w=>Try.call4 a w) Try.ntmps4 (by decide) (by decide) (by kernel_rfl) ?_;rintro us H T ⟨⟨⟨nl,z,l⟩,⟨no,zo,O⟩,s⟩,rfl,⟨hok,hzo⟩,hT⟩ hdat;clear hdat;refine⟨rfl,?_⟩;simp only[sj,yI,aJ];have hzo:O≠[]->zo=1:=hzo;have ef:(FE eE gi) [.sl nl z (l.map eQ) none]=some (.x (.bool (jv l))):=(bA mu gi (nl,z,l)).trans (PO hok);cases hfw:jv l with
 |false=>rw[hfw] at ef;simp +decide (maxDischargeDepth:=200) only[go_sem,Nat.reduceBEq,aG,bv,ef];exact hT _
 |true=>
 rw[hfw] at ef;unfold jv at hfw;rw[PG] at hfw;have hc1:bY l<=100:=QA hfw.1;have hc2:∀r∈l,r.2.2.all jJ=true:=PJ.1 hfw.2;have hll:=wt l;have hlc:=gO l;have hz:l≠[]->z=1:=hok.1;by_cases ho:(O.length:Int)<(l.length:Int)
 case pos=>have d0:=PD ho;simp +decide (maxDischargeDepth:=200) only[go_sem,Nat.reduceBEq,aG,bv,ef,eq,d0];exact hT _
 have d0:=PC ho;have hol:l.length<=O.length:=by omega
 have mB:Oy Try.prog 41=some (4,1,1,.bool false):=by kernel_rfl
 have zB:Dp Try.prog 41=some 1:=by kernel_rfl
 have l0:((1:Nat):Int)*(l.length:Int)<=281474976710656:=by omega
 have l2:(l.length:Int)<=9223372036854775807:=by omega
 have l3:(0:Int)<=(l.length:Int):=by omega
 simp +decide (maxDischargeDepth:=200) only[go_sem,Nat.reduceBEq,aG,bv,ef,eq,d0];intro ga hga;simp +decide (maxDischargeDepth:=200) only[go_sem,Nat.reduceBEq,aG];intro gb hgb;simp +decide (maxDischargeDepth:=200) only[go_sem,Nat.reduceBEq,aG];intro gc hgc;have n1:gb≠ga:=fun e=>by rw[e,aa] at hgb;cases hgb
 have n2:gc≠gb:=fun e=>by rw[e,aa] at hgc;cases hgc
 have n3:gc≠ga:=fun e=>by rw[ae _ _ n2,e,aa] at hgc;cases hgc
 simp +decide (maxDischargeDepth:=200) only[go_sem,Nat.reduceBEq,aG,mB,zB,eq,l0,l2,l3,io,RX];intro gh hgh;have n4:gh≠gc:=fun e=>by rw[PO e] at hgh;cases hgh
 have n5:gh≠gb:=fun e=>by rw[PS n4,PO e] at hgh;cases hgh
 have n6:gh≠ga:=fun e=>by rw[PS n4,PS n5,PO e] at hgh;cases hgh
 have dj:∀{a b:Nat},b≠a->Disj [a] [b]:=fun h y h1 h2=>h (by rw[<-PQ.1 h1,<-PQ.1 h2])
 refine jX 11 1 99 (by simp only[go_sem];rfl) ?_;refine bP (X:={q:Nat×Nat//q.1<=l.length}) (fun q=>[(0,.sl nl z (l.map eQ) none),(1,.sl no zo (O.map Gs) none),(5,.ptr 5 0),(8,.x (ar ga)),(9,.x (ar gb)),(10,.x (ar gc)),(11,.sl ((l.take q.1.1).map jK).isEmpty 1 (((l.take q.1.1).map jK).map eQ) (some q.1.2)),(12,.x (.slice (some ⟨gh,0,none⟩) l.length l.length)),(13,.x (.int .i64 ((q.1.1:Nat):Int)))]) (fun _=>[(5,[.x (.int .i64 s.1),.x (.int .i64 s.2.1),.x (.int .i64 s.2.2)])]) (fun q Hx=>∃KS bs Fa Fb Fc,KS.length=q.1.1∧Pck l.length KS∧BsOK l.length KS bs∧DFr Hx ga (bN (l.take q.1.1)) (bH (l.take q.1.1)) Fa∧DFr Hx gb (bN (KS.map (gk l))) (bH (KS.map (gk l))) Fb∧DFr Hx gc (fun _=>0) 0 Fc∧HdFr bs Hx gh (fun _=>0) 0 [gh]∧Disj Fa Fb∧Disj Fa Fc∧Disj Fb Fc∧Disj Fa [gh]∧Disj Fb [gh]∧Disj Fc [gh]) (fun q=>l.length-q.1.1) ⟨(0,99),PH _⟩ (by simp +decide only[go_sem,Nat.reduceBEq,P3]<;>(repeat' first|rfl|constructor)) (by simp +decide only[go_sem,Nat.reduceBEq,P3]<;>(repeat' first|rfl|constructor)) ⟨[],List.replicate l.length false,[ga],[gb],[gc],rfl,⟨Q3,fun k hk=>by cases hk⟩,⟨List.length_replicate,fun k hk=>by rw[List.getElem?_replicate,PO hk];rfl⟩,DFr.ok.zero ((ae _ _ (QT n6)).trans ((ae _ _ (QT n3)).trans ((ae _ _ (QT n1)).trans (aa _ _ _)))),DFr.ok.zero ((ae _ _ (QT n5)).trans ((ae _ _ (QT n2)).trans (aa _ _ _))),DFr.ok.zero ((ae _ _ (QT n4)).trans (aa _ _ _)),⟨(aa _ _ _).trans (by simp),rfl⟩,dj n1,dj n3,dj n2,dj n6,dj n5,dj n4⟩ ?_;clear hga hgb hgc hgh;rintro⟨⟨i,tok⟩,hi⟩ Hi ⟨KS,bs,Fa,Fb,Fc,hKl,hP,hB,hA,hBf,hC,hD,j1,j2,j3,j4,j5,j6⟩;simp only at hi hKl hA⊢;by_cases hil:i<l.length
 case pos=>
  obtain rfl:z=1:=hz (fun e=>by rw[e] at hil;cases hil);have hO0:O≠[]:=fun e=>by
   have h0:O.length=0:=by rw[e];rfl
   omega
  obtain rfl:zo=1:=hzo hO0;have d1:decide ((i:Int)<(l.length:Int))=true:=PD (by omega);have p0:(0:Int)<=(i:Int):=by omega
  have p1:(i:Int)<(l.length:Int):=by omega
  have p2:(i:Int)<(O.length:Int):=by omega
  have cu:=bh (i:=i) (by omega);have hr:l[i]?=some l[i]:=Io hil;generalize l[i]=r at hr;have hrm:=PM hr;have hrc:=hok.2.2 r hrm;have hcr:=ju hrm;have hbr:=hc2 r hrm;obtain⟨nr,zr,R⟩:=r;have hcr:1+R.length<=bY l:=hcr;have hbr:R.all jJ=true:=hbr;have q1:(l.map eQ)[((i:Int)).toNat]?=some (.sl nr zr (R.map cD) none):=by rw[io,PF,hr];rfl
  have et:(FE fV nX) [.sl nr zr (R.map cD) none]=some (.sl R.isEmpty 4 (R.map cD) none):=(bA mt nX (nr,zr,R)).trans (PO ⟨hrc,show R.length<=1000000 by omega⟩);have hti:(l.take i).length=i:=by rw[P8];omega
  have htk:=br hr;have e2:((l.take i).map jK).map eQ++[.sl R.isEmpty 4 (R.map cD) none]=((l.take (i+1)).map jK).map eQ:=by rw[htk,Qj,Qj];rfl
  have iso:((l.take (i+1)).map jK).isEmpty=false:=by rw[htk,Qj];exact eN _ _
  have g1:∀st d tok nl t',fq (bU [(5,bv),(6,FE eE gi),(7,FE fV nX)] [] [] (fun _=>false) (fun _=>false)) st (some d) 26 (.sl ((l.take i).map jK).isEmpty 1 (((l.take i).map jK).map eQ) (some tok)) (.sl nl 1 [.sl R.isEmpty 4 (R.map cD) none] t')=some ⟨aw (strip tok (strip d st.t)) d (.sl false 1 (((l.take (i+1)).map jK).map eQ) (some d)),az (bU [(5,bv),(6,FE eE gi),(7,FE fV nX)] [] [] (fun _=>false) (fun _=>false)) tok (az (bU [(5,bv),(6,FE eE gi),(7,FE fV nX)] [] [] (fun _=>false) (fun _=>false)) d st.b)⟩:=fun st d tok nl t'=>by have:=gZ (E:=(bU [(5,bv),(6,FE eE gi),(7,FE fV nX)] [] [] (fun _=>false) (fun _=>false))) (el:=26) (n:=1) GD GE GF (by decide) rfl (es:=((l.take i).map jK).map eQ) (v:= .sl R.isEmpty 4 (R.map cD) none) (by rfl) (by rw[eq,eq];omega) (by rw[eq,eq];omega) st d tok nl t';rw[List.isEmpty_map] at this;rw[this,e2]
  have hlt:bH (l.take (i+1))=bH (l.take i)+R.length:=by rw[htk,d6];simp[bH]
  have hlt2:bH (l.take (i+1))+bH (l.drop (i+1))=bH l:=by rw[<-d6,Qv]
  have eA:(fun s=>bN (l.take i) s+cv R s)=bN (l.take (i+1)):=by funext s;rw[htk,jB];simp[bN]
  have big1:∀{c:Cn} {m:Nat} {Q:List Ch},OL c m->m<=100->Q.all jJ=true->Q.length<=100->∀a,a<=Q.length->Cm (fun s=>c s+cv (Q.take a) s):=fun {c m Q} hc hm hQ hQl a ha s=>by
   have h1:=hc s;have h2:=fZ (l:=Q.take a) (PJ.2 fun y hy=>PJ.1 hQ y (Q5 hy)) s;have h3:(Q.take a).length=a:=by rw[P8];omega
   rw[h3] at h2;simp only;omega
  have sml:∀{Q:List Ch},Q.all jJ=true->∀x∈Q,-1152921504606846976<=x.2∧x.2<=1152921504606846976:=fun {Q} hQ x hx=>by have h:=PJ.1 hQ x hx;simp only[jJ,PG,Qx,Ra] at h;omega
  have smR:∀{a:List eD},(∀r∈a,r∈l)->OL (bN a) (bH a):=fun {a} h s=>f5 (fun r hr=>hc2 r (h r hr)) s
  simp +decide (maxDischargeDepth:=200) only[go_sem,Nat.reduceBEq,aG,eq,d1,p0,p1,q1,et];refine⟨ga,R.isEmpty,4,R,_,_,Fa,rfl,fun _=>rfl,hA,by omega,big1 (smR fun r h=>Q5 h) (by omega) hbr (by omega),sml hbr,fun H1 Fa1 hA1 hf1 hn1=>?_⟩;rw[eA,<-hlt] at hA1;obtain⟨hB1,k1⟩:=cI DFr.ok hBf j1.symm hf1 hn1;obtain⟨hC1,k2⟩:=cI DFr.ok hC j2.symm hf1 hn1;obtain⟨hD1,k4⟩:=cI (HdFr.ok bs) hD j4.symm hf1 hn1;clear hA hBf hC hD hf1 hn1;obtain⟨o,hoo⟩:∃o,O[i]?=some o:=⟨_,Io (by omega)⟩;have q3:(O.map Gs)[((i:Int)).toNat]?=some (.x (.int .i64 o)):=by rw[io,PF,hoo];rfl
  have hn0: ¬((l.length:Nat):Int)=0:=by omega
  obtain⟨k0,hk0,w0⟩:∃k0:Nat,k0<l.length∧(Ds .i64 o 1023).tmod ((l.length:Nat):Int)=((k0:Nat):Int):=by obtain⟨a,ha⟩:=Q0 (F4 o);exact⟨a%l.length,Nat.mod_lt _ (by omega),by rw[ha];exact(Int.ofNat_tmod _ _).symm⟩
  simp +decide (maxDischargeDepth:=200) only[go_sem,Nat.reduceBEq,aG,eq,p0,p1,p2,q1,et,g1,q3,hn0,w0];obtain⟨j,hj,hjK⟩:=hP.free (by omega);obtain⟨hD1,_⟩:=hD1;have c1:=ak hD1;refine bP (X:={k:Nat//k<l.length}) (fun k=>[(0,.sl nl 1 (l.map eQ) none),(1,.sl no 1 (O.map Gs) none),(5,.ptr 5 0),(8,.x (ar ga)),(9,.x (ar gb)),(10,.x (ar gc)),(11,.sl false 1 (((l.take (i+1)).map jK).map eQ) (some 64)),(12,.x (.slice (some ⟨gh,0,none⟩) l.length l.length)),(13,.x (.int .i64 ((i:Nat):Int))),(14,.x (.int .i64 ((k.1:Nat):Int)))]) (fun _=>[(5,[.x (.int .i64 s.1),.x (.int .i64 s.2.1),.x (.int .i64 s.2.2)])]) (fun _ Hx=>Hx=H1) (fun k=>KJ l.length j k.1) ⟨k0,hk0⟩ (by simp +decide only[go_sem,Nat.reduceBEq,P3]<;>(repeat' first|rfl|constructor)) (by simp +decide only[go_sem,Nat.reduceBEq,P3]<;>(repeat' first|rfl|constructor)) rfl ?_;rintro⟨k,hk⟩ H2 rfl;simp only at hk⊢;have u0:(0:Int)<=(k:Int):=by omega
  have u1:(k:Int)<(l.length:Int):=by omega
  have u3:k+1<=bs.length:=by rw[hB.1];exact hk
  have hbk:=hB.2 k hk;have p5:((bs.map Value.bool).map V.x)[k]?=some (.x (.bool (decide (k∈KS)))):=by rw[List.map_map,PF,hbk];rfl
  by_cases hkm:k∈KS
  case pos=>rw[PD hkm] at p5;have ck:=bh (i:=k) (by omega);have w1:=F5 hk;simp +decide (maxDischargeDepth:=200) only[go_sem,Nat.reduceBEq,aG,eq,zB,c1,u0,u1,u3,p5,io,RX,RP,Qn,iO,ck,hn0,w1];exact⟨⟨Ip l.length k,Iq hk⟩,⟨by simp +decide (maxDischargeDepth:=200) only[go_sem,Nat.reduceBEq],by simp +decide (maxDischargeDepth:=200) only[go_sem,Nat.reduceBEq],rfl⟩,Ir hk hj (fun e=>hjK (e▸hkm))⟩
  rw[PC hkm] at p5;have hsp:cF (bs.map Value.bool) k [.bool true]=(bs.set k true).map Value.bool:=by rw[jm _ _ _ (by rw[eq];exact u3),R0]
  have hr2:l[k]?=some l[k]:=Io hk;generalize l[k]=r at hr2;have hrm2:=PM hr2;have hrc2:=hok.2.2 r hrm2;have hcr2:=ju hrm2;have hbr2:=hc2 r hrm2;have hgk:=Dk hr2;obtain⟨nr2,zr2,R2⟩:=r;have hcr2:1+R2.length<=bY l:=hcr2;have hbr2:R2.all jJ=true:=hbr2;have q4:(l.map eQ)[((k:Int)).toNat]?=some (.sl nr2 zr2 (R2.map cD) none):=by rw[io,PF,hr2];rfl
  rw[io] at q4;have et2:(FE fV nX) [.sl nr2 zr2 (R2.map cD) none]=some (.sl R2.isEmpty 4 (R2.map cD) none):=(bA mt nX (nr2,zr2,R2)).trans (PO ⟨hrc2,show R2.length<=1000000 by omega⟩);simp +decide (maxDischargeDepth:=200) only[go_sem,Nat.reduceBEq,aG,eq,zB,c1,u0,u1,u3,p5,hsp,io,RX,RP,Qn,iO,q4,et2];have hP':=hP.add hk hkm;have hB':=hB.add (k:=k);have hPl:=hP'.len;have hlk:bH ((KS++[k]).map (gk l))=bH (KS.map (gk l))+R2.length:=by rw[Qj,d6,List.map_singleton,hgk];simp[bH]
  have eB:(fun s=>bN (KS.map (gk l)) s+cv R2 s)=bN ((KS++[k]).map (gk l)):=by funext s;rw[Qj,jB,List.map_singleton,hgk];simp[bN]
  have hDn:HdFr (bs.set k true) (aw H2 gh (some (rowO ((bs.set k true).map Value.bool) 4))) gh (fun _=>0) 0 [gh]:=⟨aa _ _ _,rfl⟩;have kp:∀{Fr2:FrT} {t:TypeId} {z:List Value} (ok2:FrOK Fr2 t z) {p2 k2:Nat} {c2:Cn} {F2:List Nat},Fr2 H2 p2 c2 k2 F2->Disj F2 [gh]->Fr2 (aw H2 gh (some (rowO ((bs.set k true).map Value.bool) 4))) p2 c2 k2 F2:=by intro Fr2 t z ok2 p2 k2 c2 F2 h2 hd;exact ok2.keep h2 (fun y hy=>ae _ _ (fun e=>hd y hy (by rw[e];exact PQ.2 rfl)))
  have hA2:=kp DFr.ok hA1 k4.symm;have hB2:=kp DFr.ok hB1 j5;have hC2:=kp DFr.ok hC1 j6;clear hA1 hB1 hC1 hD1 kp;generalize aw H2 gh (some (rowO ((bs.set k true).map Value.bool) 4))=H3 at*;refine⟨gb,R2.isEmpty,4,R2,_,_,Fb,rfl,fun _=>rfl,hB2,by omega,big1 (smR hP.rows) (by omega) hbr2 (by omega),sml hbr2,fun H4 Fb1 hB4 hf1 hn1=>?_⟩;rw[eB,<-hlk] at hB4;obtain⟨hA4,m1⟩:=cI DFr.ok hA2 k1.symm hf1 hn1;obtain⟨hC4,m3⟩:=cI DFr.ok hC2 j3.symm hf1 hn1;obtain⟨hD4,m5⟩:=cI (HdFr.ok _) hDn j5.symm hf1 hn1;simp +decide (maxDischargeDepth:=200) only[go_sem,Nat.reduceBEq,aG,cu];exact⟨⟨(i+1,64),hil⟩,⟨by simp +decide (maxDischargeDepth:=200) only[go_sem,Nat.reduceBEq,iso],by simp +decide (maxDischargeDepth:=200) only[go_sem,Nat.reduceBEq],KS++[k],bs.set k true,Fa1,Fb1,Fc,by rw[PP,hKl];rfl,hP',hB',hA4,hB4,hC4,hD4,m1,k2.symm,m3.symm,k4.symm,m5.symm,j6⟩,by simp only;omega⟩
 have ei:i=l.length:=by omega
 subst ei;have d1:decide ((l.length:Int)<(l.length:Int))=false:=PC (by omega);have hbt:=hP.full hKl;have hbl:=hP.len;rw[QL] at hA;rw[hbt] at hBf;rw[QL];simp +decide (maxDischargeDepth:=200) only[go_sem,Nat.reduceBEq,aG,eq,d1];refine⟨((l.map jK).isEmpty,1,l.map jK),rfl,CV hok,⟨by rw[rV];exact hc1,wr hc2⟩,fun out n0 z0 hs hn0 hz0=>?_⟩;simp only[rU] at hs;have hsl:=wq hs;have htc:∀s,cv out s=bN l s:=fun s=>(lh hs.1 s).trans (hs.2.2 s)
 have hval:∀x∈out,-((bH l:Int)*1099511627776)<=x.2∧x.2<=(bH l:Int)*1099511627776:=fun x hx=>by have h1:=fb hs.1 hx;rw[hs.2.2] at h1;rw[<-h1];exact f5 hc2 x.1
 have hbo:∀a,a<=out.length->Cm (fun s=>(0:Int)+cv (out.take a) s):=fun a _ s=>by
  have h1:=lh (L:=out.take a) (hs.1.sublist (List.take_sublist ..)) s;simp only;rw[h1];by_cases e:bn (out.take a) s=0
  . rw[e];omega
  . obtain⟨x,hx,hxs⟩:=ka e;have h2:=fb (hs.1.sublist (List.take_sublist a out)) hx;have h3:=hval x (Q5 hx);rw[hxs] at h2;rw[h2];omega
 simp +decide (maxDischargeDepth:=200) only[go_sem,Nat.reduceBEq,aG];refine⟨gc,n0,z0,out,_,_,Fc,rfl,hz0,hC,by omega,hbo,fun x hx=>by have:=hval x hx;omega,fun H1 Fc1 hC1 hf1 hn1=>?_⟩;have eC:(fun s=>(0:Int)+cv out s)=bN l:=by funext s;rw[htc];omega
 rw[eC] at hC1;obtain⟨hA1,k2⟩:=cI DFr.ok hA j2 hf1 hn1;obtain⟨hB1,k3⟩:=cI DFr.ok hBf j3 hf1 hn1;clear hA hBf hC hD hf1 hn1 hbt hP hB;generalize bN l=c at*;simp +decide (maxDischargeDepth:=200) only[go_sem,Nat.reduceBEq,aG];refine⟨ga,_,_,_,rfl,hA1,by omega,fun lf n1 z1 hl1 hn1 hz1 hlen=>?_⟩;simp +decide (maxDischargeDepth:=200) only[go_sem,Nat.reduceBEq,aG];refine⟨gb,_,_,_,rfl,hB1,by omega,fun lf2 n2 z2 hl2 hn2 hz2 _=>?_⟩;obtain rfl:=hl1.uniq hl2;simp +decide (maxDischargeDepth:=200) only[go_sem,Nat.reduceBEq,aG];refine⟨gc,_,_,_,rfl,hC1,by omega,fun lf3 n3 z3 hl3 hn3 hz3 _=>?_⟩;obtain rfl:=hl1.uniq hl3;simp +decide (maxDischargeDepth:=200) only[go_sem,Nat.reduceBEq,aG];have bq:decide (eh c s=eh c s)=true:=PD rfl;have cq:decide (c s=c s)=true:=PD rfl;have dl:decide ((lf.length:Int)=(lf.length:Int))=true:=PD rfl;refine B9 (fun k=>match k with|1=>[102]|3=>[104]|4=>[103,105]|5=>[106]|6=>[107]|7=>[108,107]|8=>[107]|9=>[110,107]|10=>[109,111,107]|11=>[107,112]|12=>[113]|13=>[114]|14=>[114]|15=>[115,116,114]|16=>[114]|17=>[114]|18=>[118,119,114]|19=>[117,120,114]|20=>[114,121]|21=>[122]|22=>[123]|23=>[123]|24=>[124,125,123]|25=>[123]|26=>[123]|27=>[127,128,123]|28=>[126,129,123]|29=>[123,130]|30=>[131]|31=>[132]|32=>[132]|33=>[133,134,132]|34=>[132]|35=>[132]|36=>[136,137,132]|37=>[135,138,132]|38=>[132,139]|39=>[140]|40=>[141]|41=>[141]|42=>[142,143,141]|43=>[141]|44=>[141]|45=>[145,146,141]|46=>[144,147,141]|47=>[141,148]|_=>[]) (fun k v=>v=Is ga gb gc n1 n2 n3 z1 z2 z3 lf s c k) (by kernel_rfl) (by kernel_rfl) ?_ ?_
 . rintro i' o st ho hn hb hbb K' hk;have b5:st.t 5= .ptr 5 0:=hb 5 (by kernel_rfl);have b8:st.t 8= .x (ar ga):=hb 8 (by kernel_rfl);have b9:st.t 9= .x (ar gb):=hb 9 (by kernel_rfl);have b10:st.t 10= .x (ar gc):=hb 10 (by kernel_rfl);have b15:st.t 15= .sl n1 z1 (lf.map aJ) none:=hb 15 (by kernel_rfl);have b16:st.t 16= .sl n2 z2 (lf.map aJ) none:=hb 16 (by kernel_rfl);have b17:st.t 17= .sl n3 z3 (lf.map aJ) none:=hb 17 (by kernel_rfl);have bb5:st.b 5=some ([.x (.int .i64 s.1),.x (.int .i64 s.2.1),.x (.int .i64 s.2.2)]):=(QP hbb 5).trans (by kernel_rfl);clear hb hbb;rcases i' with _|_|_|_|_|_|_|_|_|_|_|_|_|_|_|_|_|_|_|_|_|_|_|_|_|_|_|_|_|_|_|_|_|_|_|_|_|_|_|_|_|_|_|_|_|_|_|_|i'
   . cases ho;simp +decide (maxDischargeDepth:=200) only[go_sem,Nat.reduceBEq,b15,aG,eq,bq,cq,dl];exact hk _ _ (fun d hd=>by cases hd;exact rfl) (Le.refl _)
   . cases ho;have h102:st.t 102= .sl n1 z1 (lf.map aJ) none:=hn 102 (by decide);simp +decide (maxDischargeDepth:=200) only[go_sem,Nat.reduceBEq,h102,aG,eq,bq,cq,dl];exact hk _ _ (fun d hd=>by cases hd;exact rfl) (Le.refl _)
   . cases ho;simp +decide (maxDischargeDepth:=200) only[go_sem,Nat.reduceBEq,b16,aG,eq,bq,cq,dl];exact hk _ _ (fun d hd=>by cases hd;exact rfl) (Le.refl _)
   . cases ho;have h104:st.t 104= .sl n2 z2 (lf.map aJ) none:=hn 104 (by decide);simp +decide (maxDischargeDepth:=200) only[go_sem,Nat.reduceBEq,h104,aG,eq,bq,cq,dl];exact hk _ _ (fun d hd=>by cases hd;exact rfl) (Le.refl _)
   . cases ho;have h103:st.t 103= .x (.int .i64 ((lf.length:Nat):Int)):=hn 103 (by decide);have h105:st.t 105= .x (.int .i64 ((lf.length:Nat):Int)):=hn 105 (by decide);simp +decide (maxDischargeDepth:=200) only[go_sem,Nat.reduceBEq,h103,h105,aG,eq,bq,cq,dl];exact hk _ _ (fun d hd=>by cases hd;exact rfl) (Le.refl _)
   . cases ho;have h106:st.t 106= .x (.bool false):=hn 106 (by decide);simp +decide (maxDischargeDepth:=200) only[go_sem,Nat.reduceBEq,h106,aG,eq,bq,cq,dl];exact hk _ _ (fun d hd=>by cases hd;exact rfl) (Le.refl _)
   . cases ho;have h107:st.t 107= .x (.bool false):=hn 107 (by decide);simp +decide (maxDischargeDepth:=200) only[go_sem,Nat.reduceBEq,b15,h107,aG,eq,bq,cq,dl];exact hk _ _ (fun d hd=>by cases hd;exact rfl) (Le.refl _)
   . cases ho;have h108:st.t 108= .sl n1 z1 (lf.map aJ) none:=hn 108 (by decide);have h107:st.t 107= .x (.bool false):=hn 107 (by decide);simp +decide (maxDischargeDepth:=200) only[go_sem,Nat.reduceBEq,h108,h107,aG,eq,bq,cq,dl];exact hk _ _ (fun d hd=>by cases hd;exact rfl) (Le.refl _)
   . cases ho;have h107:st.t 107= .x (.bool false):=hn 107 (by decide);simp +decide (maxDischargeDepth:=200) only[go_sem,Nat.reduceBEq,b17,h107,aG,eq,bq,cq,dl];exact hk _ _ (fun d hd=>by cases hd;exact rfl) (Le.refl _)
   . cases ho;have h110:st.t 110= .sl n3 z3 (lf.map aJ) none:=hn 110 (by decide);have h107:st.t 107= .x (.bool false):=hn 107 (by decide);simp +decide (maxDischargeDepth:=200) only[go_sem,Nat.reduceBEq,h110,h107,aG,eq,bq,cq,dl];exact hk _ _ (fun d hd=>by cases hd;exact rfl) (Le.refl _)
   . cases ho;have h109:st.t 109= .x (.int .i64 ((lf.length:Nat):Int)):=hn 109 (by decide);have h111:st.t 111= .x (.int .i64 ((lf.length:Nat):Int)):=hn 111 (by decide);have h107:st.t 107= .x (.bool false):=hn 107 (by decide);simp +decide (maxDischargeDepth:=200) only[go_sem,Nat.reduceBEq,h109,h111,h107,aG,eq,bq,cq,dl];exact hk _ _ (fun d hd=>by cases hd;exact rfl) (Le.refl _)
   . cases ho;have h107:st.t 107= .x (.bool false):=hn 107 (by decide);have h112:st.t 112= .x (.bool false):=hn 112 (by decide);simp +decide (maxDischargeDepth:=200) only[go_sem,Nat.reduceBEq,h107,h112,aG,eq,bq,cq,dl];exact hk _ _ (fun d hd=>by cases hd;exact rfl) (Le.refl _)
   . cases ho;have h113:st.t 113= .x (.bool false):=hn 113 (by decide);simp +decide (maxDischargeDepth:=200) only[go_sem,Nat.reduceBEq,h113,aG,eq,bq,cq,dl];exact hk _ _ (fun d hd=>by cases hd;exact rfl) (Le.refl _)
   . cases ho;have h114:st.t 114= .x (.bool false):=hn 114 (by decide);simp +decide (maxDischargeDepth:=200) only[go_sem,Nat.reduceBEq,b8,h114,aG,eq,bq,cq,dl];exact hk _ _ (fun d hd=>by cases hd;exact rfl) (Le.refl _)
   . cases ho;have h114:st.t 114= .x (.bool false):=hn 114 (by decide);simp +decide (maxDischargeDepth:=200) only[go_sem,Nat.reduceBEq,b5,bb5,h114,aG,eq,bq,cq,dl];exact hk _ _ (fun d hd=>by cases hd;exact rfl) (Le.refl _)
   . cases ho;have h115:st.t 115= .x (ar ga):=hn 115 (by decide);have h116:st.t 116= .agg [.x (.int .i64 s.1),.x (.int .i64 s.2.1),.x (.int .i64 s.2.2)]:=hn 116 (by decide);have h114:st.t 114= .x (.bool false):=hn 114 (by decide);simp +decide (maxDischargeDepth:=200) only[go_sem,Nat.reduceBEq,h115,h116,h114,aG,eq,bq,cq,dl];refine⟨ga,s,_,_,_,rfl,hA1,fun b hb=>?_⟩;have e:=jt hb;exact hk (.x (.bool (eh c s))) _ (fun d hd=>by cases hd;exact rfl) (by rw[e,bo];exact Le.refl _)
   . cases ho;have h114:st.t 114= .x (.bool false):=hn 114 (by decide);simp +decide (maxDischargeDepth:=200) only[go_sem,Nat.reduceBEq,b9,h114,aG,eq,bq,cq,dl];exact hk _ _ (fun d hd=>by cases hd;exact rfl) (Le.refl _)
   . cases ho;have h114:st.t 114= .x (.bool false):=hn 114 (by decide);simp +decide (maxDischargeDepth:=200) only[go_sem,Nat.reduceBEq,b5,bb5,h114,aG,eq,bq,cq,dl];exact hk _ _ (fun d hd=>by cases hd;exact rfl) (Le.refl _)
   . cases ho;have h118:st.t 118= .x (ar gb):=hn 118 (by decide);have h119:st.t 119= .agg [.x (.int .i64 s.1),.x (.int .i64 s.2.1),.x (.int .i64 s.2.2)]:=hn 119 (by decide);have h114:st.t 114= .x (.bool false):=hn 114 (by decide);simp +decide (maxDischargeDepth:=200) only[go_sem,Nat.reduceBEq,h118,h119,h114,aG,eq,bq,cq,dl];refine⟨gb,s,_,_,_,rfl,hB1,fun b hb=>?_⟩;have e:=jt hb;exact hk (.x (.bool (eh c s))) _ (fun d hd=>by cases hd;exact rfl) (by rw[e,bo];exact Le.refl _)
   . cases ho;have h117:st.t 117= .x (.bool (eh c s)):=hn 117 (by decide);have h120:st.t 120= .x (.bool (eh c s)):=hn 120 (by decide);have h114:st.t 114= .x (.bool false):=hn 114 (by decide);simp +decide (maxDischargeDepth:=200) only[go_sem,Nat.reduceBEq,h117,h120,h114,aG,eq,bq,cq,dl];exact hk _ _ (fun d hd=>by cases hd;exact rfl) (Le.refl _)
   . cases ho;have h114:st.t 114= .x (.bool false):=hn 114 (by decide);have h121:st.t 121= .x (.bool false):=hn 121 (by decide);simp +decide (maxDischargeDepth:=200) only[go_sem,Nat.reduceBEq,h114,h121,aG,eq,bq,cq,dl];exact hk _ _ (fun d hd=>by cases hd;exact rfl) (Le.refl _)
   . cases ho;have h122:st.t 122= .x (.bool false):=hn 122 (by decide);simp +decide (maxDischargeDepth:=200) only[go_sem,Nat.reduceBEq,h122,aG,eq,bq,cq,dl];exact hk _ _ (fun d hd=>by cases hd;exact rfl) (Le.refl _)
   . cases ho;have h123:st.t 123= .x (.bool false):=hn 123 (by decide);simp +decide (maxDischargeDepth:=200) only[go_sem,Nat.reduceBEq,b8,h123,aG,eq,bq,cq,dl];exact hk _ _ (fun d hd=>by cases hd;exact rfl) (Le.refl _)
   . cases ho;have h123:st.t 123= .x (.bool false):=hn 123 (by decide);simp +decide (maxDischargeDepth:=200) only[go_sem,Nat.reduceBEq,b5,bb5,h123,aG,eq,bq,cq,dl];exact hk _ _ (fun d hd=>by cases hd;exact rfl) (Le.refl _)
   . cases ho;have h124:st.t 124= .x (ar ga):=hn 124 (by decide);have h125:st.t 125= .agg [.x (.int .i64 s.1),.x (.int .i64 s.2.1),.x (.int .i64 s.2.2)]:=hn 125 (by decide);have h123:st.t 123= .x (.bool false):=hn 123 (by decide);simp +decide (maxDischargeDepth:=200) only[go_sem,Nat.reduceBEq,h124,h125,h123,aG,eq,bq,cq,dl];refine⟨ga,s,_,_,_,rfl,hA1,fun b hb=>?_⟩;have e:=jt hb;exact hk (.x (.bool (eh c s))) _ (fun d hd=>by cases hd;exact rfl) (by rw[e,bo];exact Le.refl _)
   . cases ho;have h123:st.t 123= .x (.bool false):=hn 123 (by decide);simp +decide (maxDischargeDepth:=200) only[go_sem,Nat.reduceBEq,b10,h123,aG,eq,bq,cq,dl];exact hk _ _ (fun d hd=>by cases hd;exact rfl) (Le.refl _)
   . cases ho;have h123:st.t 123= .x (.bool false):=hn 123 (by decide);simp +decide (maxDischargeDepth:=200) only[go_sem,Nat.reduceBEq,b5,bb5,h123,aG,eq,bq,cq,dl];exact hk _ _ (fun d hd=>by cases hd;exact rfl) (Le.refl _)
   . cases ho;have h127:st.t 127= .x (ar gc):=hn 127 (by decide);have h128:st.t 128= .agg [.x (.int .i64 s.1),.x (.int .i64 s.2.1),.x (.int .i64 s.2.2)]:=hn 128 (by decide);have h123:st.t 123= .x (.bool false):=hn 123 (by decide);simp +decide (maxDischargeDepth:=200) only[go_sem,Nat.reduceBEq,h127,h128,h123,aG,eq,bq,cq,dl];refine⟨gc,s,_,_,_,rfl,hC1,fun b hb=>?_⟩;have e:=jt hb;exact hk (.x (.bool (eh c s))) _ (fun d hd=>by cases hd;exact rfl) (by rw[e,bo];exact Le.refl _)
   . cases ho;have h126:st.t 126= .x (.bool (eh c s)):=hn 126 (by decide);have h129:st.t 129= .x (.bool (eh c s)):=hn 129 (by decide);have h123:st.t 123= .x (.bool false):=hn 123 (by decide);simp +decide (maxDischargeDepth:=200) only[go_sem,Nat.reduceBEq,h126,h129,h123,aG,eq,bq,cq,dl];exact hk _ _ (fun d hd=>by cases hd;exact rfl) (Le.refl _)
   . cases ho;have h123:st.t 123= .x (.bool false):=hn 123 (by decide);have h130:st.t 130= .x (.bool false):=hn 130 (by decide);simp +decide (maxDischargeDepth:=200) only[go_sem,Nat.reduceBEq,h123,h130,aG,eq,bq,cq,dl];exact hk _ _ (fun d hd=>by cases hd;exact rfl) (Le.refl _)
   . cases ho;have h131:st.t 131= .x (.bool false):=hn 131 (by decide);simp +decide (maxDischargeDepth:=200) only[go_sem,Nat.reduceBEq,h131,aG,eq,bq,cq,dl];exact hk _ _ (fun d hd=>by cases hd;exact rfl) (Le.refl _)
   . cases ho;have h132:st.t 132= .x (.bool false):=hn 132 (by decide);simp +decide (maxDischargeDepth:=200) only[go_sem,Nat.reduceBEq,b8,h132,aG,eq,bq,cq,dl];exact hk _ _ (fun d hd=>by cases hd;exact rfl) (Le.refl _)
   . cases ho;have h132:st.t 132= .x (.bool false):=hn 132 (by decide);simp +decide (maxDischargeDepth:=200) only[go_sem,Nat.reduceBEq,b5,bb5,h132,aG,eq,bq,cq,dl];exact hk _ _ (fun d hd=>by cases hd;exact rfl) (Le.refl _)
   . cases ho;have h133:st.t 133= .x (ar ga):=hn 133 (by decide);have h134:st.t 134= .agg [.x (.int .i64 s.1),.x (.int .i64 s.2.1),.x (.int .i64 s.2.2)]:=hn 134 (by decide);have h132:st.t 132= .x (.bool false):=hn 132 (by decide);simp +decide (maxDischargeDepth:=200) only[go_sem,Nat.reduceBEq,h133,h134,h132,aG,eq,bq,cq,dl];exact⟨ga,s,_,_,_,rfl,hA1,hk (.x (.int .i64 (c s))) _ (fun d hd=>by cases hd;exact rfl) (by rw[bo];exact Le.refl _)⟩
   . cases ho;have h132:st.t 132= .x (.bool false):=hn 132 (by decide);simp +decide (maxDischargeDepth:=200) only[go_sem,Nat.reduceBEq,b9,h132,aG,eq,bq,cq,dl];exact hk _ _ (fun d hd=>by cases hd;exact rfl) (Le.refl _)
   . cases ho;have h132:st.t 132= .x (.bool false):=hn 132 (by decide);simp +decide (maxDischargeDepth:=200) only[go_sem,Nat.reduceBEq,b5,bb5,h132,aG,eq,bq,cq,dl];exact hk _ _ (fun d hd=>by cases hd;exact rfl) (Le.refl _)
   . cases ho;have h136:st.t 136= .x (ar gb):=hn 136 (by decide);have h137:st.t 137= .agg [.x (.int .i64 s.1),.x (.int .i64 s.2.1),.x (.int .i64 s.2.2)]:=hn 137 (by decide);have h132:st.t 132= .x (.bool false):=hn 132 (by decide);simp +decide (maxDischargeDepth:=200) only[go_sem,Nat.reduceBEq,h136,h137,h132,aG,eq,bq,cq,dl];exact⟨gb,s,_,_,_,rfl,hB1,hk (.x (.int .i64 (c s))) _ (fun d hd=>by cases hd;exact rfl) (by rw[bo];exact Le.refl _)⟩
   . cases ho;have h135:st.t 135= .x (.int .i64 (c s)):=hn 135 (by decide);have h138:st.t 138= .x (.int .i64 (c s)):=hn 138 (by decide);have h132:st.t 132= .x (.bool false):=hn 132 (by decide);simp +decide (maxDischargeDepth:=200) only[go_sem,Nat.reduceBEq,h135,h138,h132,aG,eq,bq,cq,dl];exact hk _ _ (fun d hd=>by cases hd;exact rfl) (Le.refl _)
   . cases ho;have h132:st.t 132= .x (.bool false):=hn 132 (by decide);have h139:st.t 139= .x (.bool false):=hn 139 (by decide);simp +decide (maxDischargeDepth:=200) only[go_sem,Nat.reduceBEq,h132,h139,aG,eq,bq,cq,dl];exact hk _ _ (fun d hd=>by cases hd;exact rfl) (Le.refl _)
   . cases ho;have h140:st.t 140= .x (.bool false):=hn 140 (by decide);simp +decide (maxDischargeDepth:=200) only[go_sem,Nat.reduceBEq,h140,aG,eq,bq,cq,dl];exact hk _ _ (fun d hd=>by cases hd;exact rfl) (Le.refl _)
   . cases ho;have h141:st.t 141= .x (.bool false):=hn 141 (by decide);simp +decide (maxDischargeDepth:=200) only[go_sem,Nat.reduceBEq,b8,h141,aG,eq,bq,cq,dl];exact hk _ _ (fun d hd=>by cases hd;exact rfl) (Le.refl _)
   . cases ho;have h141:st.t 141= .x (.bool false):=hn 141 (by decide);simp +decide (maxDischargeDepth:=200) only[go_sem,Nat.reduceBEq,b5,bb5,h141,aG,eq,bq,cq,dl];exact hk _ _ (fun d hd=>by cases hd;exact rfl) (Le.refl _)
   . cases ho;have h142:st.t 142= .x (ar ga):=hn 142 (by decide);have h143:st.t 143= .agg [.x (.int .i64 s.1),.x (.int .i64 s.2.1),.x (.int .i64 s.2.2)]:=hn 143 (by decide);have h141:st.t 141= .x (.bool false):=hn 141 (by decide);simp +decide (maxDischargeDepth:=200) only[go_sem,Nat.reduceBEq,h142,h143,h141,aG,eq,bq,cq,dl];exact⟨ga,s,_,_,_,rfl,hA1,hk (.x (.int .i64 (c s))) _ (fun d hd=>by cases hd;exact rfl) (by rw[bo];exact Le.refl _)⟩
   . cases ho;have h141:st.t 141= .x (.bool false):=hn 141 (by decide);simp +decide (maxDischargeDepth:=200) only[go_sem,Nat.reduceBEq,b10,h141,aG,eq,bq,cq,dl];exact hk _ _ (fun d hd=>by cases hd;exact rfl) (Le.refl _)
   . cases ho;have h141:st.t 141= .x (.bool false):=hn 141 (by decide);simp +decide (maxDischargeDepth:=200) only[go_sem,Nat.reduceBEq,b5,bb5,h141,aG,eq,bq,cq,dl];exact hk _ _ (fun d hd=>by cases hd;exact rfl) (Le.refl _)
   . cases ho;have h145:st.t 145= .x (ar gc):=hn 145 (by decide);have h146:st.t 146= .agg [.x (.int .i64 s.1),.x (.int .i64 s.2.1),.x (.int .i64 s.2.2)]:=hn 146 (by decide);have h141:st.t 141= .x (.bool false):=hn 141 (by decide);simp +decide (maxDischargeDepth:=200) only[go_sem,Nat.reduceBEq,h145,h146,h141,aG,eq,bq,cq,dl];exact⟨gc,s,_,_,_,rfl,hC1,hk (.x (.int .i64 (c s))) _ (fun d hd=>by cases hd;exact rfl) (by rw[bo];exact Le.refl _)⟩
   . cases ho;have h144:st.t 144= .x (.int .i64 (c s)):=hn 144 (by decide);have h147:st.t 147= .x (.int .i64 (c s)):=hn 147 (by decide);have h141:st.t 141= .x (.bool false):=hn 141 (by decide);simp +decide (maxDischargeDepth:=200) only[go_sem,Nat.reduceBEq,h144,h147,h141,aG,eq,bq,cq,dl];exact hk _ _ (fun d hd=>by cases hd;exact rfl) (Le.refl _)
   . cases ho;have h141:st.t 141= .x (.bool false):=hn 141 (by decide);have h148:st.t 148= .x (.bool false):=hn 148 (by decide);simp +decide (maxDischargeDepth:=200) only[go_sem,Nat.reduceBEq,h141,h148,aG,eq,bq,cq,dl];exact hk _ _ (fun d hd=>by cases hd;exact rfl) (Le.refl _)
   . cases ho
 . rintro val hv;refine⟨[(15,.sl n1 z1 (lf.map aJ) none),(16,.sl n2 z2 (lf.map aJ) none),(17,.sl n3 z3 (lf.map aJ) none),(149,.x (.bool false))],[(5,[.x (.int .i64 s.1),.x (.int .i64 s.2.1),.x (.int .i64 s.2.2)])],?_,?_,?_⟩
   . simp +decide only[go_sem,Nat.reduceBEq]<;>(repeat' first|exact bd (by kernel_rfl)|exact(be (by kernel_rfl)).trans (hv _ (by kernel_rfl))|rfl|constructor)
   . simp +decide only[go_sem,Nat.reduceBEq]<;>(repeat' first|rfl|constructor)
   clear hv;simp +decide (maxDischargeDepth:=200) only[go_sem,Nat.reduceBEq,aG];refine bP (X:={k:Nat//k<=lf.length}) (fun k=>[(15,.sl n1 z1 (lf.map aJ) none),(16,.sl n2 z2 (lf.map aJ) none),(17,.sl n3 z3 (lf.map aJ) none),(18,.x (.int .i64 ((k.1:Nat):Int)))]) (fun _=>[(5,[.x (.int .i64 s.1),.x (.int .i64 s.2.1),.x (.int .i64 s.2.2)])]) (fun _ _=>True) (fun k=>lf.length-k.1) ⟨0,PH _⟩ (by simp +decide only[go_sem,Nat.reduceBEq,P3]<;>(repeat' first|rfl|constructor)) (by simp +decide only[go_sem,Nat.reduceBEq,P3]<;>(repeat' first|rfl|constructor)) trivial ?_;rintro⟨k,hk⟩ H2-;simp only at hk⊢;by_cases hkl:k<lf.length
   case neg=>have d2:decide ((k:Int)<(lf.length:Int))=false:=PC (by omega);simp +decide (maxDischargeDepth:=200) only[go_sem,Nat.reduceBEq,aG,eq,d2];exact hT _
   obtain rfl:z1=3:=hz1 (fun e=>by rw[e] at hkl;cases hkl);obtain rfl:z2=3:=hz2 (fun e=>by rw[e] at hkl;cases hkl);obtain rfl:z3=3:=hz3 (fun e=>by rw[e] at hkl;cases hkl);have d2:decide ((k:Int)<(lf.length:Int))=true:=PD (by omega);have u0:(0:Int)<=(k:Int):=by omega
   have u1:(k:Int)<(lf.length:Int):=by omega
   have ck:=bh (i:=k) (by omega);have hx:lf[k]?=some lf[k]:=Io hkl;generalize lf[k]=x at hx;have q2:(lf.map aJ)[((k:Int)).toNat]?=some (.agg [.x (.int .i64 x.1),.x (.int .i64 x.2.1),.x (.int .i64 x.2.2)]):=by rw[io,PF,hx];rfl
   have hq:cW x x=true:=gH.2 rfl;rw[cW] at hq;simp +decide (maxDischargeDepth:=200) only[go_sem,Nat.reduceBEq,aG,eq,d2,u0,u1,q2,ca,hq,ck];exact⟨⟨k+1,hkl⟩,⟨by simp +decide (maxDischargeDepth:=200) only[go_sem,Nat.reduceBEq],by simp +decide (maxDischargeDepth:=200) only[go_sem,Nat.reduceBEq],trivial⟩,by simp only;omega⟩
theorem zj:ij 4 (FE sj Dm):=by refine mc F6 ?_;intro us r hF;obtain⟨q,rfl,hG⟩:=aZ hF;unfold Dm at hG;obtain⟨hok,hG⟩:=aI hG;cases hG;exact⟨q,rfl,hok,fun _=>rfl⟩
end Go.Proofs.Ytldnpcolhdnkdaa
