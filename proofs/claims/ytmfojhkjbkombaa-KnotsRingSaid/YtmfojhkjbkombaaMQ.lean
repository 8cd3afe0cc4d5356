/- Maps whose keys are cells: what the run's words about them come to. -/
import Derived.Test.YtmfojhkjbkombaaML
import Derived.Test.YtmfojhkjbkombaaMD
namespace Go.Proofs.Ytmfojhkjbkombaa
set_option linter.unusedSimpArgs false
set_option maxHeartbeats 16000000
set_option maxRecDepth 100000
open Go Go.RowKit
attribute [go_sem] Try.results16 Try.results17 Try.results25 Try.results27 Try.results29 Try.results30 Try.results31
def jH (c:C3) (L:List C3):Bool:=L.any fun p=>gq c p
theorem vK (a b:C3):su Try.prog 20 25 (aa a) (aa b)=some (gq a b):=by obtain⟨s,c,r⟩:=a;obtain⟨s',c',r'⟩:=b;rw[<-Zj];simp +decide only[go_sem,iU]
theorem ed (a:C3):dX Try.prog 25 (aa a)=true:=by obtain⟨s,c,r⟩:=a;unfold dX;simp +decide [go_sem,iU,plainK,o3,cD]
theorem mL {c:C3}:∀(L:List C3) (i:Nat),jH c L=false->gb Try.prog 25 (aa c) (L.map aa) i=some none
 |[],_,_=>rfl
 | p::L,i,h=>by
   have h1:(gq c p||jH c L)=false:=h;rw[Bool.or_eq_false_iff] at h1
   show(match su Try.prog 20 25 (aa c) (aa p) with
    |some true=>some (some i)
    |some false=>gb Try.prog 25 (aa c) (L.map aa) (i+1)
    |none=>none)=_
   rw[vK,h1.1];exact mL L (i+1) h1.2
theorem mM {c:C3}:∀(L:List C3) (i:Nat),jH c L=true->∃j,gb Try.prog 25 (aa c) (L.map aa) i=some (some (i+j))∧L[j]?=some c
 |[],_,h=>by cases h
 | p::L,i,h=>by
   have h1:(gq c p||jH c L)=true:=h
   have e:gb Try.prog 25 (aa c) ((p::L).map aa) i=(match su Try.prog 20 25 (aa c) (aa p) with
    |some true=>some (some i)
    |some false=>gb Try.prog 25 (aa c) (L.map aa) (i+1)
    |none=>none):=rfl
   rw[e,vK];cases hq:gq c p with
   |true=>exact⟨0,rfl,by rw[ZO hq];rfl⟩
   |false=>rw[hq] at h1;obtain⟨j,h2,h3⟩:=mM L (i+1) h1;exact⟨j+1,by show gb _ _ _ _ _=_;rw[h2];congr 2;omega,h3⟩
abbrev CI:=C3×Int
def ksI (L:List CI):List V:=(L.map fun p=>p.1).map aa
def vsI (L:List CI):List V:=L.map fun p=> .x (.int .i64 p.2)
def ct (L:List CI) (c:C3):Bool:=jH c (L.map fun p=>p.1)
def cJ:List CI->C3->Int
 |[],_=>0
 |p::L,c=>if gq c p.1=true then p.2 else cJ L c
def sv (L:List CI):Prop:=(L.map fun p=>p.1).Nodup
def fF (L:List CI) (c:C3) (i:Int):List CI:=if ct L c=true then L.map (fun p=>if gq c p.1=true then (p.1,i) else p) else L++[(c,i)]
variable {L:List CI} {c:C3}
theorem cX:ct L c=true↔c∈L.map fun p=>p.1:=by
 unfold ct jH;rw[aaF];constructor
 . rintro⟨x,hx,e⟩;rw[ZO e];exact hx
 . exact fun h=>⟨c,h,Zk rfl⟩
theorem rU (h:ct L c=false):cJ L c=0:=by
 induction L with
 |nil=>rfl
 |cons p L ih=>have h1:(gq c p.1||ct L c)=false:=h;rw[Bool.or_eq_false_iff] at h1;unfold cJ;rw[h1.1,Zs A0b];exact ih h1.2
theorem Bc {j:Nat} (h:(L.map fun p=>p.1)[j]?=some c) (hn:sv L):(vsI L)[j]?=some (.x (.int .i64 (cJ L c))):=by
 unfold sv at hn
 induction L generalizing j with
 |nil=>simp at h
 | cons p L ih=>
   rw[ZN,ZZ] at hn;cases j with
   |zero=>simp only[ZN,abp,ZR] at h;unfold cJ;rw[Zp (show gq c p.1=true from Zk h.symm)];rfl
   | succ j=>
     simp only[ZN,aaS] at h;have hne: ¬gq c p.1=true:=fun e=>hn.1 (by rw[<-ZO e];exact Zo h)
     unfold cJ;rw[Zs hne];exact ih h hn.2
theorem vL (L:List CI) (c:C3) (i:Int):(L.map fun p=>if gq c p.1=true then (p.1,i) else p).map (fun p=>p.1)=L.map fun p=>p.1:=by rw[aat];refine aaN (fun p _=>?_);simp only[Function.comp];split<;>rfl
theorem Ln (h:sv L) (c:C3) (i:Int):sv (fF L c i):=by
 unfold fF;by_cases hp:ct L c=true
 . rw[Zp hp];unfold sv at h⊢;rw[vL];exact h
 . rw[Zs hp];unfold sv at h⊢;rw[ZY,aaI];refine⟨h,A0l,fun a ha b hb e=>?_⟩;have hb:b=c:=by simpa using hb
   subst hb;exact hp (cX.2 (e▸ha))
theorem HU {c:C3} {i:Int}:∀{L:List CI} {j:Nat},sv L->(L.map fun p=>p.1)[j]?=some c->(L.map fun p=>if gq c p.1=true then (p.1,i) else p).map (fun p=>V.x (.int .i64 p.2))=(vsI L).set j (.x (.int .i64 i))
 |[],j,_,h=>by simp at h
 | p::L,0,hn,h=>by
   simp only[ZN,abp,ZR] at h;have hn:=ZZ.1 (show(p.1::L.map fun p=>p.1).Nodup from hn);have e:(L.map fun p=>if gq c p.1=true then (p.1,i) else p)=L:=by
    have:∀q∈L,(if gq c q.1=true then (q.1,i) else q)=q:=fun q hq=>by rw[Zs];intro e;exact hn.1 (by rw[h,ZO e];exact ZA.2 ⟨q,hq,rfl⟩)
    rw[aaN this,List.map_id']
   simp only[ZN,vsI,List.set_cons_zero];rw[Zp (show gq c p.1=true from Zk h.symm),e]
 | p::L,j+1,hn,h=>by
   simp only[ZN,aaS] at h;have hn:=ZZ.1 (show(p.1::L.map fun p=>p.1).Nodup from hn);have hne: ¬gq c p.1=true:=fun e=>hn.1 (by rw[<-ZO e];exact Zo h)
   simp only[ZN,vsI,List.set_cons_succ];rw[Zs hne,HU (L:=L) hn.2 h];rfl
variable {m:V}
theorem Bd (hm:m.kv=some (ksI L,vsI L)) (hL:sv L):fM Try.prog 58 m (aa c) false=some (.x (.int .i64 (cJ L c))):=by
 unfold fM;rw[Try.underlying58,hm];cases h:ct L c with
 |true=>obtain⟨j,h1,h2⟩:=mM (c:=c) (L.map fun p=>p.1) 0 (show jH c (L.map fun p=>p.1)=true from h);have h3:=Bc h2 hL;rw[Zm] at h1;simp only[ed,ZD,ksI,h1,h3];rfl
 |false=>simp only[ed,ZD,ksI,mL (c:=c) (L.map fun p=>p.1) 0 (show jH c (L.map fun p=>p.1)=false from h),Uh,rU h];rfl
theorem vM (hm:m.kv=some (ksI L,vsI L)) (hL:sv L):fM Try.prog 58 m (aa c) true=some (.tup [.x (.int .i64 (cJ L c)),.x (.bool (ct L c))]):=by
 unfold fM;rw[Try.underlying58,hm];cases h:ct L c with
 |true=>obtain⟨j,h1,h2⟩:=mM (c:=c) (L.map fun p=>p.1) 0 (show jH c (L.map fun p=>p.1)=true from h);have h3:=Bc h2 hL;rw[Zm] at h1;simp only[ed,ZD,ksI,h1,h3];rfl
 |false=>simp only[ed,ZD,ksI,mL (c:=c) (L.map fun p=>p.1) 0 (show jH c (L.map fun p=>p.1)=false from h),Uh,rU h];rfl
theorem Th {i:Int} (hL:sv L):kQ Try.prog 58 (ksI L) (vsI L) (aa c) (.x (.int .i64 i))=some (ksI (fF L c i),vsI (fF L c i)):=by
 unfold kQ;rw[Try.underlying58];cases h:ct L c with
 | true=>
   obtain⟨j,h1,h2⟩:=mM (c:=c) (L.map fun p=>p.1) 0 (show jH c (L.map fun p=>p.1)=true from h);rw[Zm] at h1;have h3:((L.map fun p=>p.1).map aa)[j]?=some (aa c):=by rw[Io,h2];rfl
   have e:fF L c i=L.map (fun p=>if gq c p.1=true then (p.1,i) else p):=Zp h;simp only[ed,ksI,h1,h3];rw[Zp ⟨trivial,rfl⟩,Zp trivial,e,vL];unfold vsI;rw[HU hL h2];rfl
 |false=>have e:fF L c i=L++[(c,i)]:=Zs (by rw[h];decide);simp only[ksI,ed,mL (c:=c) (L.map fun p=>p.1) 0 (show jH c (L.map fun p=>p.1)=false from h)];rw[Zp ⟨trivial,rfl⟩,e];simp[vsI]
def jI:Nat->List En->List CI->List CI
 |_,[],M=>M
 |k,e::l,M=>jI (k+1) l (fF M e.1 k)
theorem ef:∀(k:Nat) (l:List En) (M:List CI) (e:En),jI k (l++[e]) M=fF (jI k l M) e.1 ((k+l.length:Nat):Int)
 |_,[],_,_=>rfl
 |k,a::l,M,e=>by show jI (k+1) (l++[e]) _=_;rw[ef (k+1) l _ e];show _=fF (jI (k+1) l _) e.1 _;congr 2;rw[ZB];omega
theorem vO:∀(l:List En) (k:Nat) (M:List CI),sv M->sv (jI k l M)
 |[],_,_,h=>h
 |_::l,k,_,h=>vO l (k+1) _ (Ln h _ _)
def ak (l:List En):List CI:=jI 0 l []
theorem jq (l:List En):sv (ak l):=vO l 0 [] Z8
variable {l:List En}
theorem HV:ksI (ak (List.take 0 l))=[]:=rfl
theorem HW:vsI (ak (List.take 0 l))=[]:=rfl
theorem vP (e:En):∃M:List V,dv e= .agg (.x (.string e.1.1):: .x (.int .i64 e.1.2.1):: .x (.int .i64 e.1.2.2):: .x (.bool e.2.1)::M)∧M.length=16∧M.take 16=M∧M.all V.cell=true:=by refine⟨_,rfl,rfl,rfl,?_⟩;obtain⟨c,b,n,v⟩:=e;cases n<;>rfl
abbrev EL:=Bool×Nat×List En
def Lo (p:EL):V:= .sl p.1 p.2.1 (p.2.2.map dv) none
theorem Lp (p q:EL) (e:Lo p=Lo q):p=q:=by obtain⟨a,b,c⟩:=p;obtain⟨d,f,g⟩:=q;simp only[Lo,V.sl.injEq,aaZ] at e;obtain⟨rfl,rfl,h⟩:=e;rw[bm Bb h]
def HX (p:EL):Prop:=(p.2.2≠[]->p.2.1=20)∧p.2.2.length<=400
open Classical in
noncomputable def zx:List V->Option (List V×List V):=fun us=>if h:∃p:EL,us=[Lo p]∧HX p then some (ksI (ak h.choose.2.2),vsI (ak h.choose.2.2)) else none
open Classical in
theorem Lq {p:EL} (h:HX p):zx [Lo p]=some (ksI (ak p.2.2),vsI (ak p.2.2)):=by have hh:∃q:EL,[Lo p]=[Lo q]∧HX q:=⟨p,rfl,h⟩;unfold zx;rw[dif_pos hh];have e:=Lp _ _ (aaT hh.choose_spec.1).1;rw[<-e]
open Classical in
theorem HY {us ks vs:List V} (h:zx us=some (ks,vs)):∃p:EL,us=[Lo p]∧HX p∧ks=ksI (ak p.2.2)∧vs=vsI (ak p.2.2):=by
 unfold zx at h;split at h
 case isFalse=>cases h
 rename_i hh;cases h;exact⟨hh.choose,hh.choose_spec.1,hh.choose_spec.2,rfl,rfl⟩
theorem zy:FJ 25 zx:=by
 refine tB (E:=bz [] [] [] (fun _=>false) (fun _=>false)) (k:=1) (bi _ _ _ _ _ trivial trivial trivial) A0a Try.func25 rfl (fun a w=>Try.call25 a w) Try.ntmps25 Try.results25 A0a A0b A0b ?_;intro us ks rs hF hdat;obtain⟨⟨nl,sz,l⟩,hus,hok,hks,hrs⟩:=HY hF;clear hF;subst hus hks hrs;obtain⟨hsz,hlen⟩:=hok;simp only at hsz hlen;clear hdat;refine⟨rfl,?_⟩;simp only[Lo];simp +decide (maxDischargeDepth:=200) only[go_sem,Nat.reduceBEq,io];refine dt (X:={i:Nat//i<=l.length}) (fun i=>[(7,.sl nl sz (l.map dv) none),(8,.x (.int .i64 (l.length:Int))),(9,.x (.int .i64 ((i.1:Nat):Int))),(3,.mp 6 (ksI (ak (l.take i.1))) (vsI (ak (l.take i.1))))]) (fun _=>[]) (fun i=>l.length-i.1) ⟨0,Z0 _⟩ (by simp +decide only[go_sem,ZC,HV,HW]<;>(repeat' first|rfl|constructor)) A0h (fun⟨i,hi0⟩=>?_);simp only at hi0⊢;by_cases hi:i<l.length
 . have c1:decide ((i:Int)<(l.length:Int))=true:=Zk A0c;have c2:(0:Int)<=(i:Int):=A0c
   have c4:=aQ (i:=i) A0c;have q1:l[i]?=some l[i]:=eq hi;have q2:(l.map dv)[((i:Nat):Int).toNat]?=some (dv l[i]):=by rw[iO,Io,q1];rfl
   obtain rfl:=hsz (fun h=>by rw[h] at hi;simp at hi);have hL:=jq (l.take i);have e:ak (l.take (i+1))=fF (ak (l.take i)) (l[i]).1 ((i:Nat):Int):=by unfold ak;rw[aO q1,ef,ZS,Zm,aaW A0c]
   have k1:=Th (c:=(l[i]).1) (i:=((i:Nat):Int)) hL;rw[<-e] at k1;obtain⟨N,hN,lN,tN,aN⟩:=vP l[i];rw[hN] at q2;have hcs:aa (l[i]).1= .agg [.x (.string (l[i]).1.1),.x (.int .i64 (l[i]).1.2.1),.x (.int .i64 (l[i]).1.2.2)]:=rfl;rw[hcs] at k1;generalize ksI (ak (l.take i))=ks0 at k1⊢;generalize vsI (ak (l.take i))=vs0 at k1⊢;generalize hk1:ksI (ak (l.take (i+1)))=ks1 at k1⊢;generalize hv1:vsI (ak (l.take (i+1)))=vs1 at k1⊢;generalize (l[i]).1.1=ps at k1 q2;generalize (l[i]).1.2.1=pc at k1 q2;generalize (l[i]).1.2.2=pr at k1 q2;simp +decide (maxDischargeDepth:=200) only[go_sem,Nat.reduceBEq,io,ZB,lN,tN,aN,c1,c2,c4,q2,k1];refine⟨⟨i+1,hi⟩,?_,?_,?_⟩
   . simp +decide (maxDischargeDepth:=200) only[go_sem,Nat.reduceBEq,hk1,hv1]
   . simp +decide (maxDischargeDepth:=200) only[go_sem,Nat.reduceBEq]
   . simp only;omega
 . have c1:decide ((i:Int)<(l.length:Int))=false:=Zl A0c;have e:l.take i=l:=ZX A0c;rw[e];simp +decide (maxDischargeDepth:=200) only[go_sem,Nat.reduceBEq,io,c1]
variable {E:Env}
theorem vQ {ops:List Oper} {st:St} {K:St->Prop} (ents:List (Nat×Nat×Nat×V)) (bs:List (Nat×List V)) (ps:List (Nat×Nat×Nat)) (full:Nat) (hf:2^ops.length-1=full) (h:jD ops ps=true) (h0:fH st (jU ents 0)∧fX st bs) (ht:CS E ops ents bs ps)
 (hk:K (am (jU ents full) bs)):Jp E ops st K:=KK ents bs ps h h0 ht (hf▸hk)
theorem Lr {L':List CI} (h1:ksI L=ksI L') (h2:vsI L=vsI L'):L=L':=by
 have h3:(L.map fun p=>p.1)=L'.map fun p=>p.1:=bm cA h1
 have h4:(L.map fun p=>p.2)=L'.map fun p=>p.2:=by
  have:(L.map fun p=>p.2).map (fun i=>V.x (.int .i64 i))=(L'.map fun p=>p.2).map (fun i=>V.x (.int .i64 i)):=by rw[aat,aat];exact h2
  refine bm (fun a b e=>?_) this;cases e;rfl
 clear h1 h2
 induction L generalizing L' with
 | nil=>cases L' with
   |nil=>rfl
   |cons _ _=>cases h3
 | cons p L ih=>cases L' with
   |nil=>cases h3
   |cons q L'=>obtain⟨a1,a2⟩:=aaT (show p.1::(L.map fun p=>p.1)=q.1::L'.map fun p=>p.1 from h3);obtain⟨b1,b2⟩:=aaT (show p.2::(L.map fun p=>p.2)=q.2::L'.map fun p=>p.2 from h4);rw[ih a2 b2,Prod.ext a1 b1]
abbrev PL:=V×List CI×V×V
def Oq (p:PL):V:= .ip [p.1,.fm (ksI p.2.1) (vsI p.2.1),p.2.2.1,p.2.2.2]
theorem Be (p q:PL) (e:Oq p=Oq q):p=q:=by obtain⟨a,L,b,c⟩:=p;obtain⟨a',L',b',c'⟩:=q;simp only[Oq,V.ip.injEq,Z2,V.fm.injEq,aaZ] at e;obtain⟨rfl,⟨h1,h2⟩,rfl,rfl⟩:=e;rw[Lr h1 h2]
def qi (p:PL×C3):List V:=[Oq p.1,aa p.2]
theorem DL (p q:PL×C3) (e:qi p=qi q):p=q:=by obtain⟨h1,h2⟩:=aaT e;exact Prod.ext (Be _ _ h1) (cA _ _ (aaT h2).1)
open Classical in
noncomputable def HZ (p:PL×C3):Option V:=if sv p.1.2.1 then some (.tup [.x (.int .i64 (cJ p.1.2.1 p.2)),.x (.bool (ct p.1.2.1 p.2))]) else none
theorem DM:dA 30 (FE qi HZ):=by
 refine aV (E:=bz [] [] [] (fun _=>false) (fun i=>i==3)) (k:=2) (bi _ _ _ _ _ trivial trivial trivial) A0a Try.func30 rfl (fun a w=>Try.call30 a w) Try.ntmps30 A0a A0b A0b ?_;intro us r hF hdat;obtain⟨⟨⟨c0,L,x0,y0⟩,ws,wc,wr⟩,hus,hG⟩:=bL hF;clear hF;subst hus;unfold HZ at hG;split at hG
 case isFalse=>cases hG
 rename_i hok;cases hG;clear hdat;refine⟨rfl,?_⟩;have hcx:aa (ws,wc,wr)= .agg [.x (.string ws),.x (.int .i64 wc),.x (.int .i64 wr)]:=rfl;have k1:=vM (c:=(ws,wc,wr)) (L9 (ksI L) (vsI L)) hok;rw[hcx] at k1;simp only[qi,Oq,hcx];generalize ksI L=ks at k1⊢;generalize vsI L=vs at k1⊢;generalize cJ L (ws,wc,wr)=z at k1⊢;generalize ct L (ws,wc,wr)=hb at k1⊢;simp +decide (maxDischargeDepth:=200) only[go_sem,Nat.reduceBEq];refine vQ [(0,0,3,.ptr 3 0),(0,0,4,.x (.int .i64 0)),(0,0,5,.x (.bool false)),(0,0,0,.ip [c0,.fm ks vs,x0,y0]),(1,0,11,.ip [c0,.fm ks vs,x0,y0]),(2,0,12,.ip [c0,.fm ks vs,x0,y0]),(4,0,13,.ip [.fm ks vs,x0,y0]),(8,0,14,.fm ks vs),(16,0,15,.agg [.x (.string ws),.x (.int .i64 wc),.x (.int .i64 wr)]),(32,0,16,.tup [.x (.int .i64 z),.x (.bool hb)]),(64,0,10,.tup [.x (.int .i64 z),.x (.bool hb)]),(128,0,17,.x (.int .i64 z)),(256,0,18,.x (.bool hb)),(512,0,6,.x (.int .i64 z)),(1024,0,7,.x (.bool hb))] [(3,[.x (.string ws),.x (.int .i64 wc),.x (.int .i64 wr)])] [(0,0,1),(0,4,16),(1,1,3),(1,4,17),(16,0,17),(3,2,7),(3,4,19),(17,1,19),(7,3,15),(7,4,23),(19,2,23),(15,4,31),(23,3,31),(31,5,63),(63,6,127),(127,7,255),(127,8,383),(255,8,511),(255,9,767),(383,7,511),(511,9,1023),(767,8,1023),(1023,10,2047)] 2047 A0a A0a ?_ ?_ ?_
 . simp +decide (maxDischargeDepth:=200) only[go_sem,Nat.reduceBEq]
 . simp +decide (maxDischargeDepth:=200) only[go_sem,Nat.reduceBEq,k1]
 . simp +decide (maxDischargeDepth:=200) only[go_sem,Nat.reduceBEq]
abbrev PR:=Bool×Nat×List C3
def Ti (p:PR):V:= .sl p.1 p.2.1 (p.2.2.map aa) none
theorem Lt (p q:PR) (e:Ti p=Ti q):p=q:=by obtain⟨a,b,c⟩:=p;obtain⟨d,f,g⟩:=q;simp only[Ti,V.sl.injEq,aaZ] at e;obtain⟨rfl,rfl,h⟩:=e;rw[bm cA h]
def kF (p:PL×PR):List V:=[Oq p.1,Ti p.2]
theorem DN (p q:PL×PR) (e:kF p=kF q):p=q:=by obtain⟨h1,h2⟩:=aaT e;exact Prod.ext (Be _ _ h1) (Lt _ _ (aaT h2).1)
def gm (L:List CI) (l:List C3):List V:=(l.filter fun c=>ct L c).map fun c=> .x (.int .i64 (cJ L c))
open Classical in
noncomputable def DO (p:PL×PR):Option V:=if sv p.1.2.1∧(p.2.2.2≠[]->p.2.2.1=3)∧p.2.2.2.length<=1000000 then some (.sl (gm p.1.2.1 p.2.2.2).isEmpty 1 (gm p.1.2.1 p.2.2.2) none) else none
theorem H4 (L:List CI) (l:List C3) (c:C3):gm L (l++[c])=gm L l++(if ct L c=true then [.x (.int .i64 (cJ L c))] else []):=by
 unfold gm;rw[List.filter_append,ZY];congr 1;by_cases h:ct L c=true
 . simp[h]
 . simp[h]
theorem Lu (L:List CI) (l:List C3):(gm L l).length<=l.length:=by unfold gm;rw[io];exact aa2 _ _
theorem rV:dA 27 (FE kF DO):=by
 refine aV (E:=bz [] [] [] (fun _=>false) (fun i=>i==5)) (k:=2) (bi _ _ _ _ _ trivial trivial trivial) A0a Try.func27 rfl (fun a w=>Try.call27 a w) Try.ntmps27 A0a A0b A0b ?_;intro us r hF hdat;obtain⟨⟨⟨c0,L,x0,y0⟩,nl,sz,l⟩,hus,hG⟩:=bL hF;clear hF;subst hus;unfold DO at hG;split at hG
 case isFalse=>cases hG
 rename_i hok;cases hG;clear hdat;refine⟨rfl,?_⟩;obtain⟨hok,hsz,hlen⟩:=hok;simp only at hok hsz hlen;simp only[kF,Oq,Ti];simp +decide (maxDischargeDepth:=200) only[go_sem,Nat.reduceBEq,io];refine Gp 5 1 99 (by simp only[go_sem,Nat.reduceBEq];rfl) ?_;refine dt (X:={p:Nat×Nat//p.1<=l.length}) (fun p=>[(0,.ip [c0,.fm (ksI L) (vsI L),x0,y0]),(10,.sl nl sz (l.map aa) none),(11,.x (.int .i64 (l.length:Int))),(12,.x (.int .i64 ((p.1.1:Nat):Int))),(5,.sl (gm L (l.take p.1.1)).isEmpty 1 (gm L (l.take p.1.1)) (some p.1.2))]) (fun _=>[]) (fun p=>l.length-p.1.1) ⟨(0,99),Z0 _⟩ A06 A0h (fun⟨⟨i,tk⟩,hi0⟩=>?_);simp only at hi0⊢;by_cases hi:i<l.length
 . have c1:decide ((i:Int)<(l.length:Int))=true:=Zk A0c;have c2:(0:Int)<=(i:Int):=A0c
   have c4:=aQ (i:=i) A0c;have q1:l[i]?=some l[i]:=eq hi;have q2:(l.map aa)[((i:Nat):Int).toNat]?=some (aa l[i]):=jj q1;obtain rfl:=hsz (fun h=>by rw[h] at hi;simp at hi);have e3:gm L (l.take (i+1))=gm L (l.take i)++(if ct L l[i]=true then [V.x (.int .i64 (cJ L l[i]))] else []):=by rw[aO q1,H4]
   have k1:=vM (c:=l[i]) (L9 (ksI L) (vsI L)) hok;have hal:(gm L (l.take i)).length<=1000000:=ZL (Lu _ _) (by rw[ZS];omega);generalize gm L (l.take i)=al at e3 hal⊢;have hcx:aa l[i]= .agg [.x (.string (l[i]).1),.x (.int .i64 (l[i]).2.1),.x (.int .i64 (l[i]).2.2)]:=rfl;rw[hcx] at k1 q2;generalize ksI L=ks at k1⊢;generalize vsI L=vs at k1⊢;generalize cJ L l[i]=z at k1 e3;generalize ct L l[i]=hb at k1 e3;generalize (l[i]).1=ps at k1 q2;generalize (l[i]).2.1=pc at k1 q2;generalize (l[i]).2.2=pr at k1 q2;simp +decide (maxDischargeDepth:=200) only[go_sem,Nat.reduceBEq,io,ZB,c1,c2,c4,q2];refine vQ [(0,0,0,.ip [c0,.fm ks vs,x0,y0]),(0,0,10,.sl nl 3 (l.map aa) none),(0,0,11,.x (.int .i64 (l.length:Int))),(0,0,12,.x (.int .i64 ((i:Nat):Int))),(0,0,5,.sl al.isEmpty 1 al (some tk)),(0,0,7,.ptr 7 0),(1,0,17,.ip [c0,.fm ks vs,x0,y0]),(2,0,18,.ip [c0,.fm ks vs,x0,y0]),(4,0,19,.ip [.fm ks vs,x0,y0]),(8,0,20,.fm ks vs),(16,0,21,.agg [.x (.string ps),.x (.int .i64 pc),.x (.int .i64 pr)]),(32,0,22,.tup [.x (.int .i64 z),.x (.bool hb)]),(64,0,16,.tup [.x (.int .i64 z),.x (.bool hb)]),(128,0,23,.x (.int .i64 z)),(256,0,24,.x (.bool hb)),(512,0,8,.x (.int .i64 z)),(1024,0,9,.x (.bool hb))] [(7,[.x (.string ps),.x (.int .i64 pc),.x (.int .i64 pr)])] [(0,0,1),(0,4,16),(1,1,3),(1,4,17),(16,0,17),(3,2,7),(3,4,19),(17,1,19),(7,3,15),(7,4,23),(19,2,23),(15,4,31),(23,3,31),(31,5,63),(63,6,127),(127,7,255),(127,8,383),(255,8,511),(255,9,767),(383,7,511),(511,9,1023),(767,8,1023),(1023,10,2047)] 2047 A0a A0a ?_ ?_ ?_
   . simp +decide (maxDischargeDepth:=200) only[go_sem,Nat.reduceBEq]
   . simp +decide (maxDischargeDepth:=200) only[go_sem,Nat.reduceBEq,k1]
   . cases hb with
     | true=>
       rw[Zp rfl] at e3;have g1:=ff (E:=bz [] [] [] (fun _=>false) (fun i=>i==5)) (el:=3) (n:=1) OR OS OT A0b rfl (es:=al) (v:= .x (.int .i64 z)) rfl A0c A0c;simp +decide (maxDischargeDepth:=200) only[go_sem,Nat.reduceBEq,io,c1,c2,c4,g1];refine⟨⟨(i+1,29),hi⟩,?_,?_,?_⟩
       . simp +decide (maxDischargeDepth:=200) only[go_sem,Nat.reduceBEq,e3]
       . simp +decide (maxDischargeDepth:=200) only[go_sem,Nat.reduceBEq]
       . simp only;omega
     | false=>
       rw[Zs A0b,aaw] at e3;simp +decide (maxDischargeDepth:=200) only[go_sem,Nat.reduceBEq,io,c1,c2,c4];refine⟨⟨(i+1,tk),hi⟩,?_,?_,?_⟩
       . simp +decide (maxDischargeDepth:=200) only[go_sem,Nat.reduceBEq,e3]
       . simp +decide (maxDischargeDepth:=200) only[go_sem,Nat.reduceBEq]
       . simp only;omega
 . have c1:decide ((i:Int)<(l.length:Int))=false:=Zl A0c;have e:l.take i=l:=ZX A0c;rw[e];simp +decide (maxDischargeDepth:=200) only[go_sem,Nat.reduceBEq,io,c1]
def zC:List V:=[.x (.string ⟨#[]⟩),.x (.int .i64 0),.x (.int .i64 0)]
abbrev au (i:Int):V:= .x (.int .i64 i)
def iE (C:List C3) (i:Int):C3:=(C[i.toNat]?).getD (⟨#[]⟩,0,0)
def ED (L:List C3) (i:Nat):List V:=((L.take i).map aa).flatMap V.cells++(List.replicate (L.length-i) zC).flatten
theorem zz (c:C3):(aa c).cells.length=3:=rfl
theorem qk (L:List C3):((L.map aa).flatMap V.cells).length=L.length*3:=by
 induction L with
 |nil=>rfl
 |cons c L ih=>rw[ZN,aag,Zr,ih,zz,ZB];omega
theorem DP (k:Nat):(List.replicate k zC).flatten.length=k*3:=by
 induction k with
 |zero=>rfl
 |succ k ih=>rw[List.replicate_succ,List.flatten_cons,Zr,ih];show 3+_=_;omega
theorem Yo (L:List C3):ED L 0=(List.replicate L.length zC).flatten:=rfl
theorem Ot (L:List C3) {i:Nat} (hi:i<=L.length):(ED L i).length=L.length*3:=by unfold ED;rw[Zr,qk,DP,ZS,aaW hi];omega
theorem Ou {L:List C3} {i:Nat} (h:L[i]?=some c):(ED L i).take (i*3)++[.x (.string c.1),.x (.int .i64 c.2.1),.x (.int .i64 c.2.2)]++(ED L i).drop (i*3+(1+1+1))=ED L (i+1):=by
 have hi:i<L.length:=(tl.1 h).1;have hl:(((L.take i).map aa).flatMap V.cells).length=i*3:=by rw[qk,ZS,aaW A0c]
 obtain⟨k,hk⟩:∃k,L.length-i=k+1:=⟨L.length-i-1,A0c⟩;have hk2:L.length-(i+1)=k:=A0c
 unfold ED;rw[hk,hk2,aaj A0c,ZX A0c,aO h,ZY,List.flatMap_append,aam,aam];congr 1;rw[List.drop_append,List.drop_of_length_le A0c,hl,aaB,List.replicate_succ,List.flatten_cons];congr 1;have e:i*3+(1+1+1)-i*3=3:=A0c
 rw[e];rfl
theorem Lw (L:List C3):ED L L.length=(L.map aa).flatMap V.cells:=by unfold ED;rw[ZX (Zt _),aco];simp
theorem Ov (L:List C3):((L.map aa).flatMap V.cells).all V.dat=true∧((L.map aa).flatMap V.cells).all V.cell=true:=by
 induction L with
 |nil=>exact⟨rfl,rfl⟩
 |cons c L ih=>rw[ZN,aag,List.all_append,List.all_append,ih.1,ih.2];exact⟨rfl,rfl⟩
theorem Lx (L:List C3):qG 3 L.length ((L.map aa).flatMap V.cells)=L.map aa:=by
 rw[pB]
 induction L with
 |nil=>rfl
 |cons c L ih=>rw[ZN,aag,ZB];unfold dN;rw[Zs A0b];have h1:((aa c).cells++(L.map aa).flatMap V.cells).take 3=(aa c).cells:=List.take_left' (zz c);have h2:((aa c).cells++(L.map aa).flatMap V.cells).drop 3=(L.map aa).flatMap V.cells:=List.drop_left' (zz c);rw[h1,h2,ih];rfl
theorem rW (a b:Int) (e:au a=au b):a=b:=by cases e;rfl
abbrev CA:=(List C3×V×V×V)×Bool×Nat×List Int
def oy (p:CA):List V:=[.ip [.sl false 3 (p.1.1.map aa) none,p.1.2.1,p.1.2.2.1,p.1.2.2.2],.sl p.2.1 p.2.2.1 (p.2.2.2.map au) none]
theorem DQ (p q:CA) (e:oy p=oy q):p=q:=by obtain⟨⟨a,b,c,d⟩,f,g,h⟩:=p;obtain⟨⟨a',b',c',d'⟩,f',g',h'⟩:=q;simp only[oy,Z2,V.ip.injEq,V.sl.injEq,aaZ,abI] at e;obtain⟨⟨h1,rfl,rfl,rfl⟩,rfl,rfl,h2⟩:=e;rw[bm cA h1,bm rW h2]
def Yp (p:CA):Prop:=(p.2.2.2≠[]->p.2.2.1=1)∧p.2.2.2.length<=100000000∧∀i∈p.2.2.2,0<=i∧i.toNat<p.1.1.length
open Classical in
noncomputable def Tj (p:CA):Option V:=if Yp p then some (.sl false 3 ((p.2.2.2.map (iE p.1.1)).map aa) none) else none
theorem vT:dA 31 (FE oy Tj):=by
 refine aV (E:=fu [] [] [] (fun d=>d==10) (fun _=>false) (fun d=>d==29) (fun _=>false)) (k:=2) (AB _ _ _ _ _ _ _ trivial trivial trivial) A0a Try.func31 rfl (fun a w=>Try.call31 a w) Try.ntmps31 A0a A0b A0b ?_;intro us r hF hdat;obtain⟨⟨⟨C,m0,x0,y0⟩,nl,sz,is⟩,hus,hG⟩:=bL hF;clear hF;subst hus;unfold Tj at hG;split at hG
 case isFalse=>cases hG
 rename_i hok;cases hG;clear hdat;refine⟨rfl,?_⟩;obtain⟨hsz,hlen,hin⟩:=hok;simp only at hsz hlen hin;simp only[oy];obtain⟨L,hL⟩:∃L,L=is.map (iE C):=⟨_,rfl⟩;have hll:is.length=L.length:=by rw[hL,io]
 rw[<-hL];have b0:(List.replicate L.length [V.x (.string ⟨#[]⟩),V.x (.int .i64 0),V.x (.int .i64 0)]).flatten=ED L 0:=(Yo L).symm;have c0:(0:Int)<=(L.length:Int):=A0c
 have c5:(16*2:Int)*(L.length:Int)<=281474976710656:=A0c
 have c6:(L.length:Int)<=9223372036854775807:=A0c
 have c7:((32:Nat):Int)*(L.length:Int)<=281474976710656:=A0c
 simp +decide (maxDischargeDepth:=200) only[go_sem,Nat.reduceBEq,iO,io,hll,c0,c6,c7,b0];refine dt (X:={i:Nat//i<=L.length}) (fun i=>[(0,.ip [.sl false 3 (C.map aa) none,m0,x0,y0]),(5,.row 10 3 L.length),(11,.sl nl sz (is.map au) none),(12,.x (.int .i64 (L.length:Int))),(13,.x (.int .i64 ((i.1:Nat):Int)))]) (fun i=>[(10,ED L i.1)]) (fun i=>L.length-i.1) ⟨0,Z0 _⟩ A06 A0h (fun⟨i,hi0⟩=>?_);simp only at hi0⊢;by_cases hi:i<L.length
 . have c1:decide ((i:Int)<(L.length:Int))=true:=Zk A0c;have c1':(i:Int)<(L.length:Int):=A0c
   have c2:(0:Int)<=(i:Int):=A0c
   have c4:=aQ (i:=i) A0c;have hi2:i<is.length:=A0c
   have q1:is[i]?=some is[i]:=eq hi2;have q2:(is.map au)[i]?=some (au is[i]):=by rw[Io,q1];rfl
   obtain rfl:=hsz (fun h=>by rw[h] at hi2;simp at hi2);obtain⟨p1,p2⟩:=hin is[i] (Z1 hi2);have q3:L[i]?=some (iE C is[i]):=by rw[hL,Io,q1];rfl
   have q4:(C.map aa)[(is[i]).toNat]?=some (aa (iE C is[i])):=by unfold iE;rw[Io,eq p2];rfl
   have b1:=Ou q3;have b2:i*3+(1+1+1)<=(ED L i).length:=by rw[Ot L A0c];omega
   generalize is[i]=j at q2 q4 b1 p1;generalize iE C j=c at q4 b1;obtain⟨cs,cc,cr⟩:=c;simp only[iU] at q4 b1;simp +decide (maxDischargeDepth:=200) only[go_sem,Nat.reduceBEq,iO,io,c1,c1',c2,c4,q2,q4,p1,b1,b2];refine⟨⟨i+1,hi⟩,?_,?_,?_⟩
   . simp +decide (maxDischargeDepth:=200) only[go_sem,Nat.reduceBEq,iO]
   . simp +decide (maxDischargeDepth:=200) only[go_sem,Nat.reduceBEq,iO]
   . simp only;omega
 . have c1:decide ((i:Int)<(L.length:Int))=false:=Zl A0c;have e:i=L.length:=A0c
   subst e;obtain⟨d1,d2⟩:=Ov L;have d3:=Lx L;have d4:=Lw L;simp +decide (maxDischargeDepth:=200) only[go_sem,Nat.reduceBEq,iO,io,c1,d4,d1,d2,d3]
abbrev PD:=List C3×List (List Int)×List (List Int)
def Tk (r:List Int):Nat:=if r.isEmpty then 0 else 1
def rI (r:List Int):V:= .sl r.isEmpty (Tk r) (r.map au) none
def plI:Nat->List C3->List CI
 |_,[]=>[]
 |k,c::C=>(c,((k:Nat):Int))::plI (k+1) C
def vU (p:PD):V:= .ip [.sl false 3 (p.1.map aa) none,.fm (ksI (plI 0 p.1)) (vsI (plI 0 p.1)),.sl false 1 (p.2.1.map rI) none,.sl false 1 (p.2.2.map rI) none]
theorem rX (a b:List Int) (e:rI a=rI b):a=b:=by simp only[rI,V.sl.injEq,aaZ] at e;exact bm rW e.2.2
theorem Bf (p q:PD) (e:vU p=vU q):p=q:=by obtain⟨a,b,c⟩:=p;obtain⟨a',b',c'⟩:=q;simp only[vU,V.ip.injEq,Z2,V.sl.injEq,aaZ,abI] at e;obtain⟨h1,_,h2,h3⟩:=e;rw[bm cA h1,bm rX h2,bm rX h3]
theorem mN:∀(C:List C3) (k:Nat),(plI k C).map (fun p=>p.1)=C
 |[],_=>rfl
 |c::C,k=>by show c::(plI (k+1) C).map _=_;rw[mN C (k+1)]
variable {C:List C3}
theorem rY (h:C.Nodup) (k:Nat):sv (plI k C):=by unfold sv;rw[mN];exact h
theorem mO (C:List C3) (k:Nat) (c:C3):ct (plI k C) c=jH c C:=by unfold ct;rw[mN]
theorem ql:∀{C:List C3} {c:C3} {i k:Nat},C.Nodup->C[i]?=some c->cJ (plI k C) c=((k+i:Nat):Int)
 |[],c,i,k,_,h=>by simp at h
 |d::C,c,0,k,hn,h=>by simp only[abp,ZR] at h;unfold plI cJ;rw[Zp (show gq c (d,((k:Nat):Int)).1=true from Zk h.symm),aas]
 |d::C,c,i+1,k,hn,h=>by simp only[aaS] at h;have hn:=ZZ.1 hn;unfold plI cJ;rw[Zs (show¬gq c (d,((k:Nat):Int)).1=true from fun e=>hn.1 (by rw[<-show c=d from ZO e];exact Zo h)),ql (k:=k+1) hn.2 h];congr 1;omega
def DR (p:PD):Prop:=p.1.Nodup∧p.1.length<=400∧p.2.1.length=p.1.length∧p.2.2.length=p.1.length∧(∀r∈p.2.1,r.length<=100000000∧∀i∈r,0<=i∧i.toNat<p.1.length)∧∀r∈p.2.2,r.length<=100000000∧∀i∈r,0<=i∧i.toNat<p.1.length
def mn (p:PD):List V:=[vU p]
theorem DS (p q:PD) (e:mn p=mn q):p=q:=Bf _ _ (aaT e).1
def mo (p:PD×C3):List V:=[vU p.1,aa p.2]
theorem DT (p q:PD×C3) (e:mo p=mo q):p=q:=by obtain⟨h1,h2⟩:=aaT e;exact Prod.ext (Bf _ _ h1) (cA _ _ (aaT h2).1)
def Ly (C:List C3) (R:List (List Int)) (c:C3):V:=if jH c C=true then .sl false 3 ((((R[(cJ (plI 0 C) c).toNat]?).getD []).map (iE C)).map aa) none else .sl true 0 [] none
open Classical in
noncomputable def Tl (p:PD×C3):Option V:=if DR p.1 then some (Ly p.1.1 p.1.2.1 p.2) else none
open Classical in
noncomputable def Tm (p:PD):Option V:=if DR p then some (.sl false 3 (p.1.map aa) none) else none
theorem H5 {p:PD} (h:DR p) (c:C3):FE qi HZ [vU p,aa c]=some (.tup [.x (.int .i64 (cJ (plI 0 p.1) c)),.x (.bool (jH c p.1))]):=by have e:=cL DL HZ ((.sl false 3 (p.1.map aa) none,plI 0 p.1,.sl false 1 (p.2.1.map rI) none,.sl false 1 (p.2.2.map rI) none),c);rw[<-mO p.1 0 c];exact e.trans (Zp (rY h.1 0))
theorem rZ (h:jH c C=true):∃i:Nat,C[i]?=some c:=by unfold jH at h;obtain⟨x,hx,e⟩:=aaF.1 h;obtain⟨i,hi⟩:=aaO hx;exact⟨i,by rw[hi,ZO e]⟩
theorem Ox {x y:V} {r:List Int} (h1:r.length<=100000000) (h2:∀i∈r,0<=i∧i.toNat<C.length):FE oy Tj [.ip [.sl false 3 (C.map aa) none,m,x,y],rI r]=some (.sl false 3 ((r.map (iE C)).map aa) none):=by
 have e:=cL DQ Tj ((C,m,x,y),r.isEmpty,Tk r,r);refine e.trans (Zp ⟨fun hn=>?_,h1,h2⟩);unfold Tk;cases r with
 |nil=>exact absurd rfl hn
 |cons a r=>rfl
theorem zA:dA 17 (FE mo Tl):=by
 refine aV (E:=aF [(30,FE qi HZ),(31,FE oy Tj)]) (k:=2) (bO _ ⟨DM,vT,trivial⟩) A0a Try.func17 rfl (fun a w=>Try.call17 a w) Try.ntmps17 A0a A0b A0b ?_;intro us r hF hdat;obtain⟨⟨⟨C,R,S⟩,ws,wc,wr⟩,hus,hG⟩:=bL hF;clear hF;subst hus;unfold Tl at hG;split at hG
 case isFalse=>cases hG
 rename_i hok;cases hG;clear hdat;refine⟨rfl,?_⟩;have k1:=H5 hok (ws,wc,wr);obtain⟨hn,h4,hR,hS,hrr,hss⟩:=hok;simp only at hn h4 hR hS hrr hss k1;have hcx:aa (ws,wc,wr)= .agg [.x (.string ws),.x (.int .i64 wc),.x (.int .i64 wr)]:=rfl;simp only[mo,Ly];rw[hcx] at k1⊢;cases hb:jH (ws,wc,wr) C with
 |false=>rw[hb] at k1;rw[Zs A0b];simp only[vU] at k1⊢;simp +decide (maxDischargeDepth:=200) only[go_sem,Nat.reduceBEq,iO,k1]
 | true=>
   rw[hb] at k1;rw[Zp rfl];obtain⟨i,hi⟩:=rZ hb;have hz:=ql (k:=0) hn hi;rw[Zm] at hz;rw[hz] at k1⊢;have hil:=(tl.1 hi).1;have hi2:i<R.length:=A0c
   have q1:R[i]?=some R[i]:=eq hi2;have q2:(R.map rI)[i]?=some (rI R[i]):=by rw[Io,q1];rfl
   obtain⟨r1,r2⟩:=hrr R[i] (Z1 hi2);have c2:(0:Int)<=(i:Int):=A0c
   have k2:=Ox (m:= .fm (ksI (plI 0 C)) (vsI (plI 0 C))) (x:= .sl false 1 (R.map rI) none) (y:= .sl false 1 (S.map rI) none) r1 r2;rw[iO,q1,aaE];generalize R[i]=r at q2 k2⊢;simp only[vU] at k1⊢;simp only[rI] at k2 q2;simp +decide (maxDischargeDepth:=200) only[go_sem,Nat.reduceBEq,iO,k1,c2,q2,k2]
theorem Bg {el n by':Nat} {z:List V} (h1:aY E.P el=some n) (hby:bN E.P el=some by') (hz:az E.P el=some z) (h4:n≠0) (h5:z.length=n)
 {es es':List V} {m:Nat} (hm:es'≠[]->m=n) (hc:(es'.all fun u=>u.cells.all V.cell)=true) (hb:(es.length+es'.length)*by'<=140737488355328) (hl:es.length+es'.length<=9223372036854775807) (st:St) (d tok:Nat) (nl:Bool) (t':Option Nat):
 cS E st (some d) el (.sl false n es (some tok)) (.sl nl m es' t')=some ⟨upd (strip tok (strip d st.t)) d (.sl false n (es++es') (some d)),aC E tok (aC E d st.b)⟩:=by
 unfold cS;simp only[h1,hby,hz];rw[Zp ⟨h4,h5,trivial,by
  by_cases h:es'=[]
  . exact .inr h
  . exact .inl (hm h),hc,hb,hl⟩]
theorem vV (C:List C3):((C.map aa).all fun u=>u.cells.all V.cell)=true:=Zw.2 fun u hu=>by obtain⟨c,_,rfl⟩:=ZA.1 hu;rfl
def oz (C:List C3):List V:=[.sl false 3 (C.map aa) none]
theorem DU (p q:List C3) (e:oz p=oz q):p=q:=by simp only[oz,Z2,V.sl.injEq,aaZ,abI] at e;exact bm cA e
open Classical in
noncomputable def Tn (C:List C3):Option V:=if C.length<=1000000 then some (.sl false 3 (C.map aa) none) else none
theorem zB:dA 29 (FE oz Tn):=by
 refine aV (E:=bz [] [] [] (fun d=>d==5) (fun _=>false)) (k:=1) (bi _ _ _ _ _ trivial trivial trivial) A0a Try.func29 rfl (fun a w=>Try.call29 a w) Try.ntmps29 A0a A0b A0b ?_;intro us r hF hdat;obtain⟨C,hus,hG⟩:=bL hF;clear hF;subst hus;unfold Tn at hG;split at hG
 case isFalse=>cases hG
 rename_i hok;cases hG;clear hdat;refine⟨rfl,?_⟩;simp only[oz];have gg:=Bg (E:=bz [] [] [] (fun d=>d==5) (fun _=>false)) (el:=25) (n:=3) Cf Cg Ch A0b rfl (es:=[]) (es':=C.map aa) (m:=3) (fun _=>rfl) (vV C) (by simp only[io,Z5];omega) (by simp only[io,Z5];omega);simp only[aaB] at gg;simp +decide (maxDischargeDepth:=200) only[go_sem,Nat.reduceBEq,gg]
theorem zD:dA 16 (FE mn Tm):=by
 refine aV (E:=aF [(29,FE oz Tn)]) (k:=1) (bO _ ⟨zB,trivial⟩) A0a Try.func16 rfl (fun a w=>Try.call16 a w) Try.ntmps16 A0a A0b A0b ?_;intro us r hF hdat;obtain⟨⟨C,R,S⟩,hus,hG⟩:=bL hF;clear hF;subst hus;unfold Tm at hG;split at hG
 case isFalse=>cases hG
 rename_i hok;cases hG;clear hdat;refine⟨rfl,?_⟩;obtain⟨_,h4,_⟩:=hok;simp only at h4;have k1:FE oz Tn [.sl false 3 (C.map aa) none]=some (.sl false 3 (C.map aa) none):=(cL DU Tn C).trans (Zp A0c);simp only[mn,vU];simp +decide (maxDischargeDepth:=200) only[go_sem,Nat.reduceBEq,k1]
end Go.Proofs.Ytmfojhkjbkombaa
