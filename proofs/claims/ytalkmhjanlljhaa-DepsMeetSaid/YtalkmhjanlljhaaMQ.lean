/- Maps whose keys are cells: what the run's words about them come to. -/
import Derived.Test.YtalkmhjanlljhaaML
import Derived.Test.YtalkmhjanlljhaaMD
namespace Go.Proofs.Ytalkmhjanlljhaa
set_option linter.unusedSimpArgs false
set_option maxHeartbeats 16000000
set_option maxRecDepth 100000
open Go Go.RowKit
attribute [go_sem] Try.results8 Try.results10 Try.results11 Try.results16 Try.results18 Try.results20 Try.results21 Try.results22
def fV (c:C3) (L:List C3):Bool:=L.any fun p=>eA c p
theorem rF (a b:C3):ot Try.prog 20 32 (aa a) (aa b)=some (eA a b):=by obtain⟨s,c,r⟩:=a;obtain⟨s',c',r'⟩:=b;rw[<-RJ];simp +decide only[go_sem,dB]
theorem dO (a:C3):dr Try.prog 32 (aa a)=true:=by obtain⟨s,c,r⟩:=a;unfold dr;simp +decide [go_sem,dB,plainK,ld,cN]
theorem kQ {c:C3}:∀(L:List C3) (i:Nat),fV c L=false->fq Try.prog 32 (aa c) (L.map aa) i=some none
 |[],_,_=>rfl
 | p::L,i,h=>by
   have h1:(eA c p||fV c L)=false:=h;rw[Bool.or_eq_false_iff] at h1
   show(match ot Try.prog 20 32 (aa c) (aa p) with
    |some true=>some (some i)
    |some false=>fq Try.prog 32 (aa c) (L.map aa) (i+1)
    |none=>none)=_
   rw[rF,h1.1];exact kQ L (i+1) h1.2
theorem kR {c:C3}:∀(L:List C3) (i:Nat),fV c L=true->∃j,fq Try.prog 32 (aa c) (L.map aa) i=some (some (i+j))∧L[j]?=some c
 |[],_,h=>by cases h
 | p::L,i,h=>by
   have h1:(eA c p||fV c L)=true:=h
   have e:fq Try.prog 32 (aa c) ((p::L).map aa) i=(match ot Try.prog 20 32 (aa c) (aa p) with
    |some true=>some (some i)
    |some false=>fq Try.prog 32 (aa c) (L.map aa) (i+1)
    |none=>none):=rfl
   rw[e,rF];cases hq:eA c p with
   |true=>exact⟨0,rfl,by rw[Ti hq];rfl⟩
   |false=>rw[hq] at h1;obtain⟨j,h2,h3⟩:=kR L (i+1) h1;exact⟨j+1,by show fq _ _ _ _ _=_;rw[h2];congr 2;omega,h3⟩
abbrev CI:=C3×Int
def ksI (L:List CI):List V:=(L.map fun p=>p.1).map aa
def vsI (L:List CI):List V:=L.map fun p=> .x (.int .i64 p.2)
def bV (L:List CI) (c:C3):Bool:=fV c (L.map fun p=>p.1)
def bS:List CI->C3->Int
 |[],_=>0
 |p::L,c=>if eA c p.1=true then p.2 else bS L c
def pt (L:List CI):Prop:=(L.map fun p=>p.1).Nodup
def eR (L:List CI) (c:C3) (i:Int):List CI:=if bV L c=true then L.map (fun p=>if eA c p.1=true then (p.1,i) else p) else L++[(c,i)]
variable {L:List CI} {c:C3}
theorem cD:bV L c=true↔c∈L.map fun p=>p.1:=by
 unfold bV fV;rw[T8];constructor
 . rintro⟨x,hx,e⟩;rw[Ti e];exact hx
 . exact fun h=>⟨c,h,Io rfl⟩
theorem oY (h:bV L c=false):bS L c=0:=by
 induction L with
 |nil=>rfl
 |cons p L ih=>have h1:(eA c p.1||bV L c)=false:=h;rw[Bool.or_eq_false_iff] at h1;unfold bS;rw[h1.1,S8 (by decide)];exact ih h1.2
theorem wK {j:Nat} (h:(L.map fun p=>p.1)[j]?=some c) (hn:pt L):(vsI L)[j]?=some (.x (.int .i64 (bS L c))):=by
 unfold pt at hn
 induction L generalizing j with
 |nil=>simp at h
 | cons p L ih=>
   rw[Tv,Ty] at hn;cases j with
   |zero=>simp only[Tv,UB,Tl] at h;unfold bS;rw[S4 (show eA c p.1=true from Io h.symm)];rfl
   | succ j=>
     simp only[Tv,Ue] at h;have hne: ¬eA c p.1=true:=fun e=>hn.1 (by rw[<-Ti e];exact S9 h)
     unfold bS;rw[S8 hne];exact ih h hn.2
theorem rG (L:List CI) (c:C3) (i:Int):(L.map fun p=>if eA c p.1=true then (p.1,i) else p).map (fun p=>p.1)=L.map fun p=>p.1:=by rw[Uq];refine Ug (fun p _=>?_);simp only[Function.comp];split<;>rfl
theorem FK (h:pt L) (c:C3) (i:Int):pt (eR L c i):=by
 unfold eR;by_cases hp:bV L c=true
 . rw[S4 hp];unfold pt at h⊢;rw[rG];exact h
 . rw[S8 hp];unfold pt at h⊢;rw[TH,Uj];refine⟨h,by simp,fun a ha b hb e=>?_⟩;have hb:b=c:=by simpa using hb
   subst hb;exact hp (cD.2 (e▸ha))
theorem CE {c:C3} {i:Int}:∀{L:List CI} {j:Nat},pt L->(L.map fun p=>p.1)[j]?=some c->(L.map fun p=>if eA c p.1=true then (p.1,i) else p).map (fun p=>V.x (.int .i64 p.2))=(vsI L).set j (.x (.int .i64 i))
 |[],j,_,h=>by simp at h
 | p::L,0,hn,h=>by
   simp only[Tv,UB,Tl] at h;have hn:=Ty.1 (show(p.1::L.map fun p=>p.1).Nodup from hn);have e:(L.map fun p=>if eA c p.1=true then (p.1,i) else p)=L:=by
    have:∀q∈L,(if eA c q.1=true then (q.1,i) else q)=q:=fun q hq=>by rw[S8];intro e;exact hn.1 (by rw[h,Ti e];exact SU.2 ⟨q,hq,rfl⟩)
    rw[Ug this,List.map_id']
   simp only[Tv,vsI,List.set_cons_zero];rw[S4 (show eA c p.1=true from Io h.symm),e]
 | p::L,j+1,hn,h=>by
   simp only[Tv,Ue] at h;have hn:=Ty.1 (show(p.1::L.map fun p=>p.1).Nodup from hn);have hne: ¬eA c p.1=true:=fun e=>hn.1 (by rw[<-Ti e];exact S9 h)
   simp only[Tv,vsI,List.set_cons_succ];rw[S8 hne,CE (L:=L) hn.2 h];rfl
variable {m:V}
theorem FL (hm:m.kv=some (ksI L,vsI L)) (hL:pt L):eI Try.prog 46 m (aa c) false=some (.x (.int .i64 (bS L c))):=by
 unfold eI;rw[Try.underlying46,hm];cases h:bV L c with
 |true=>obtain⟨j,h1,h2⟩:=kR (c:=c) (L.map fun p=>p.1) 0 (show fV c (L.map fun p=>p.1)=true from h);have h3:=wK h2 hL;rw[Th] at h1;simp only[dO,S7,ksI,h1,h3];rfl
 |false=>simp only[dO,S7,ksI,kQ (c:=c) (L.map fun p=>p.1) 0 (show fV c (L.map fun p=>p.1)=false from h),NH,oY h];rfl
theorem rH (hm:m.kv=some (ksI L,vsI L)) (hL:pt L):eI Try.prog 46 m (aa c) true=some (.tup [.x (.int .i64 (bS L c)),.x (.bool (bV L c))]):=by
 unfold eI;rw[Try.underlying46,hm];cases h:bV L c with
 |true=>obtain⟨j,h1,h2⟩:=kR (c:=c) (L.map fun p=>p.1) 0 (show fV c (L.map fun p=>p.1)=true from h);have h3:=wK h2 hL;rw[Th] at h1;simp only[dO,S7,ksI,h1,h3];rfl
 |false=>simp only[dO,S7,ksI,kQ (c:=c) (L.map fun p=>p.1) 0 (show fV c (L.map fun p=>p.1)=false from h),NH,oY h];rfl
theorem MT {i:Int} (hL:pt L):jj Try.prog 46 (ksI L) (vsI L) (aa c) (.x (.int .i64 i))=some (ksI (eR L c i),vsI (eR L c i)):=by
 unfold jj;rw[Try.underlying46];cases h:bV L c with
 | true=>
   obtain⟨j,h1,h2⟩:=kR (c:=c) (L.map fun p=>p.1) 0 (show fV c (L.map fun p=>p.1)=true from h);rw[Th] at h1;have h3:((L.map fun p=>p.1).map aa)[j]?=some (aa c):=by rw[SS,h2];rfl
   have e:eR L c i=L.map (fun p=>if eA c p.1=true then (p.1,i) else p):=S4 h;simp only[dO,ksI,h1,h3];rw[S4 ⟨trivial,rfl⟩,S4 trivial,e,rG];unfold vsI;rw[CE hL h2];rfl
 |false=>have e:eR L c i=L++[(c,i)]:=S8 (by rw[h];decide);simp only[ksI,dO,kQ (c:=c) (L.map fun p=>p.1) 0 (show fV c (L.map fun p=>p.1)=false from h)];rw[S4 ⟨trivial,rfl⟩,e];simp[vsI]
def iI:Nat->List En->List CI->List CI
 |_,[],M=>M
 |k,e::l,M=>iI (k+1) l (eR M e.1 k)
theorem dP:∀(k:Nat) (l:List En) (M:List CI) (e:En),iI k (l++[e]) M=eR (iI k l M) e.1 ((k+l.length:Nat):Int)
 |_,[],_,_=>rfl
 |k,a::l,M,e=>by show iI (k+1) (l++[e]) _=_;rw[dP (k+1) l _ e];show _=eR (iI (k+1) l _) e.1 _;congr 2;rw[SV];omega
theorem rJ:∀(l:List En) (k:Nat) (M:List CI),pt M->pt (iI k l M)
 |[],_,_,h=>h
 |_::l,k,_,h=>rJ l (k+1) _ (FK h _ _)
def aj (l:List En):List CI:=iI 0 l []
theorem iu (l:List En):pt (aj l):=rJ l 0 [] TE
variable {l:List En}
theorem CF:ksI (aj (List.take 0 l))=[]:=rfl
theorem CG:vsI (aj (List.take 0 l))=[]:=rfl
theorem rK (e:En):∃M:List V,cK e= .agg (.x (.string e.1.1):: .x (.int .i64 e.1.2.1):: .x (.int .i64 e.1.2.2):: .x (.bool e.2.1)::M)∧M.length=16∧M.take 16=M∧M.all V.cell=true:=by refine⟨_,rfl,rfl,rfl,?_⟩;obtain⟨c,b,n,v⟩:=e;cases n<;>rfl
abbrev EL:=Bool×Nat×List En
def FN (p:EL):V:= .sl p.1 p.2.1 (p.2.2.map cK) none
theorem FO (p q:EL) (e:FN p=FN q):p=q:=by obtain⟨a,b,c⟩:=p;obtain⟨d,f,g⟩:=q;simp only[FN,V.sl.injEq,Us] at e;obtain⟨rfl,rfl,h⟩:=e;rw[bB wJ h]
def CH (p:EL):Prop:=(p.2.2≠[]->p.2.1=20)∧p.2.2.length<=400
open Classical in
noncomputable def uQ:List V->Option (List V×List V):=fun us=>if h:∃p:EL,us=[FN p]∧CH p then some (ksI (aj h.choose.2.2),vsI (aj h.choose.2.2)) else none
open Classical in
theorem FQ {p:EL} (h:CH p):uQ [FN p]=some (ksI (aj p.2.2),vsI (aj p.2.2)):=by have hh:∃q:EL,[FN p]=[FN q]∧CH q:=⟨p,rfl,h⟩;unfold uQ;rw[dif_pos hh];have e:=FO _ _ (T4 hh.choose_spec.1).1;rw[<-e]
open Classical in
theorem CJ {us ks vs:List V} (h:uQ us=some (ks,vs)):∃p:EL,us=[FN p]∧CH p∧ks=ksI (aj p.2.2)∧vs=vsI (aj p.2.2):=by
 unfold uQ at h;split at h
 case isFalse=>cases h
 rename_i hh;cases h;exact⟨hh.choose,hh.choose_spec.1,hh.choose_spec.2,rfl,rfl⟩
theorem uR:Bh 16 uQ:=by
 refine qu (E:=dZ [] [] [] (fun _=>false) (fun _=>false)) (k:=1) (jt _ _ _ _ _ trivial trivial trivial) (by kernel_rfl) Try.func16 rfl (fun a w=>Try.call16 a w) Try.ntmps16 Try.results16 (by kernel_rfl) (by decide) (by decide) ?_;intro us ks rs hF hdat;obtain⟨⟨nl,sz,l⟩,hus,hok,hks,hrs⟩:=CJ hF;clear hF;subst hus hks hrs;obtain⟨hsz,hlen⟩:=hok;simp only at hsz hlen;clear hdat;refine⟨rfl,?_⟩;simp only[FN];simp +decide (maxDischargeDepth:=200) only[go_sem,Nat.reduceBEq,io];refine bu (X:={i:Nat//i<=l.length}) (fun i=>[(7,.sl nl sz (l.map cK) none),(8,.x (.int .i64 (l.length:Int))),(9,.x (.int .i64 ((i.1:Nat):Int))),(3,.mp 6 (ksI (aj (l.take i.1))) (vsI (aj (l.take i.1))))]) (fun _=>[]) (fun i=>l.length-i.1) ⟨0,TL _⟩ (by simp +decide only[go_sem,T9,CF,CG]<;>(repeat' first|rfl|constructor)) (by simp +decide only[go_sem]<;>(repeat' first|rfl|constructor)) (fun⟨i,hi0⟩=>?_);simp only at hi0⊢;by_cases hi:i<l.length
 . have c1:decide ((i:Int)<(l.length:Int))=true:=Io (by omega);have c2:(0:Int)<=(i:Int):=by omega
   have c4:=bp (i:=i) (by omega);have q1:l[i]?=some l[i]:=eq hi;have q2:(l.map cK)[((i:Nat):Int).toNat]?=some (cK l[i]):=by rw[tl,SS,q1];rfl
   obtain rfl:=hsz (fun h=>by rw[h] at hi;simp at hi);have hL:=iu (l.take i);have e:aj (l.take (i+1))=eR (aj (l.take i)) (l[i]).1 ((i:Nat):Int):=by unfold aj;rw[bA q1,dP,Tt,Th,UD (by omega)]
   have k1:=MT (c:=(l[i]).1) (i:=((i:Nat):Int)) hL;rw[<-e] at k1;obtain⟨N,hN,lN,tN,aN⟩:=rK l[i];rw[hN] at q2;have hcs:aa (l[i]).1= .agg [.x (.string (l[i]).1.1),.x (.int .i64 (l[i]).1.2.1),.x (.int .i64 (l[i]).1.2.2)]:=rfl;rw[hcs] at k1;generalize ksI (aj (l.take i))=ks0 at k1⊢;generalize vsI (aj (l.take i))=vs0 at k1⊢;generalize hk1:ksI (aj (l.take (i+1)))=ks1 at k1⊢;generalize hv1:vsI (aj (l.take (i+1)))=vs1 at k1⊢;generalize (l[i]).1.1=ps at k1 q2;generalize (l[i]).1.2.1=pc at k1 q2;generalize (l[i]).1.2.2=pr at k1 q2;simp +decide (maxDischargeDepth:=200) only[go_sem,Nat.reduceBEq,io,SV,lN,tN,aN,c1,c2,c4,q2,k1];refine⟨⟨i+1,hi⟩,?_,?_,?_⟩
   . simp +decide (maxDischargeDepth:=200) only[go_sem,Nat.reduceBEq,hk1,hv1]
   . simp +decide (maxDischargeDepth:=200) only[go_sem,Nat.reduceBEq]
   . simp only;omega
 . have c1:decide ((i:Int)<(l.length:Int))=false:=SP (by omega);have e:l.take i=l:=T7 (by omega);rw[e];simp +decide (maxDischargeDepth:=200) only[go_sem,Nat.reduceBEq,io,c1]
variable {E:Env}
theorem rL {ops:List Oper} {st:St} {K:St->Prop} (ents:List (Nat×Nat×Nat×V)) (bs:List (Nat×List V)) (ps:List (Nat×Nat×Nat)) (full:Nat) (hf:2^ops.length-1=full) (h:iF ops ps=true) (h0:gz st (i6 ents 0)∧gy st bs) (ht:yT E ops ents bs ps)
 (hk:K (aq (i6 ents full) bs)):DW E ops st K:=Fh ents bs ps h h0 ht (hf▸hk)
theorem FR {L':List CI} (h1:ksI L=ksI L') (h2:vsI L=vsI L'):L=L':=by
 have h3:(L.map fun p=>p.1)=L'.map fun p=>p.1:=bB cu h1
 have h4:(L.map fun p=>p.2)=L'.map fun p=>p.2:=by
  have:(L.map fun p=>p.2).map (fun i=>V.x (.int .i64 i))=(L'.map fun p=>p.2).map (fun i=>V.x (.int .i64 i)):=by rw[Uq,Uq];exact h2
  refine bB (fun a b e=>?_) this;cases e;rfl
 clear h1 h2
 induction L generalizing L' with
 | nil=>cases L' with
   |nil=>rfl
   |cons _ _=>cases h3
 | cons p L ih=>cases L' with
   |nil=>cases h3
   |cons q L'=>obtain⟨a1,a2⟩:=T4 (show p.1::(L.map fun p=>p.1)=q.1::L'.map fun p=>p.1 from h3);obtain⟨b1,b2⟩:=T4 (show p.2::(L.map fun p=>p.2)=q.2::L'.map fun p=>p.2 from h4);rw[ih a2 b2,Prod.ext a1 b1]
abbrev PL:=V×List CI×V×V
def H8 (p:PL):V:= .ip [p.1,.fm (ksI p.2.1) (vsI p.2.1),p.2.2.1,p.2.2.2]
theorem wL (p q:PL) (e:H8 p=H8 q):p=q:=by obtain⟨a,L,b,c⟩:=p;obtain⟨a',L',b',c'⟩:=q;simp only[H8,V.ip.injEq,Tr,V.fm.injEq,Us] at e;obtain⟨rfl,⟨h1,h2⟩,rfl,rfl⟩:=e;rw[FR h1 h2]
def fj (p:PL×C3):List V:=[H8 p.1,aa p.2]
theorem zx (p q:PL×C3) (e:fj p=fj q):p=q:=by obtain⟨h1,h2⟩:=T4 e;exact Prod.ext (wL _ _ h1) (cu _ _ (T4 h2).1)
open Classical in
noncomputable def j4 (p:PL×C3):Option V:=if pt p.1.2.1 then some (.tup [.x (.int .i64 (bS p.1.2.1 p.2)),.x (.bool (bV p.1.2.1 p.2))]) else none
theorem j5:cm 21 (FE fj j4):=by
 refine aE (E:=dZ [] [] [] (fun _=>false) (fun i=>i==3)) (k:=2) (jt _ _ _ _ _ trivial trivial trivial) (by kernel_rfl) Try.func21 rfl (fun a w=>Try.call21 a w) Try.ntmps21 (by kernel_rfl) (by decide) (by decide) ?_;intro us r hF hdat;obtain⟨⟨⟨c0,L,x0,y0⟩,ws,wc,wr⟩,hus,hG⟩:=be hF;clear hF;subst hus;unfold j4 at hG;split at hG
 case isFalse=>cases hG
 rename_i hok;cases hG;clear hdat;refine⟨rfl,?_⟩;have hcx:aa (ws,wc,wr)= .agg [.x (.string ws),.x (.int .i64 wc),.x (.int .i64 wr)]:=rfl;have k1:=rH (c:=(ws,wc,wr)) (Gq (ksI L) (vsI L)) hok;rw[hcx] at k1;simp only[fj,H8,hcx];generalize ksI L=ks at k1⊢;generalize vsI L=vs at k1⊢;generalize bS L (ws,wc,wr)=z at k1⊢;generalize bV L (ws,wc,wr)=hb at k1⊢;simp +decide (maxDischargeDepth:=200) only[go_sem,Nat.reduceBEq];refine rL [(0,0,3,.ptr 3 0),(0,0,4,.x (.int .i64 0)),(0,0,5,.x (.bool false)),(0,0,0,.ip [c0,.fm ks vs,x0,y0]),(1,0,11,.ip [c0,.fm ks vs,x0,y0]),(2,0,12,.ip [c0,.fm ks vs,x0,y0]),(4,0,13,.ip [.fm ks vs,x0,y0]),(8,0,14,.fm ks vs),(16,0,15,.agg [.x (.string ws),.x (.int .i64 wc),.x (.int .i64 wr)]),(32,0,16,.tup [.x (.int .i64 z),.x (.bool hb)]),(64,0,10,.tup [.x (.int .i64 z),.x (.bool hb)]),(128,0,17,.x (.int .i64 z)),(256,0,18,.x (.bool hb)),(512,0,6,.x (.int .i64 z)),(1024,0,7,.x (.bool hb))] [(3,[.x (.string ws),.x (.int .i64 wc),.x (.int .i64 wr)])] [(0,0,1),(0,4,16),(1,1,3),(1,4,17),(16,0,17),(3,2,7),(3,4,19),(17,1,19),(7,3,15),(7,4,23),(19,2,23),(15,4,31),(23,3,31),(31,5,63),(63,6,127),(127,7,255),(127,8,383),(255,8,511),(255,9,767),(383,7,511),(511,9,1023),(767,8,1023),(1023,10,2047)] 2047 (by kernel_rfl) (by kernel_rfl) ?_ ?_ ?_
 . simp +decide (maxDischargeDepth:=200) only[go_sem,Nat.reduceBEq]
 . simp +decide (maxDischargeDepth:=200) only[go_sem,Nat.reduceBEq,k1]
 . simp +decide (maxDischargeDepth:=200) only[go_sem,Nat.reduceBEq]
abbrev PR:=Bool×Nat×List C3
def MU (p:PR):V:= .sl p.1 p.2.1 (p.2.2.map aa) none
theorem FS (p q:PR) (e:MU p=MU q):p=q:=by obtain⟨a,b,c⟩:=p;obtain⟨d,f,g⟩:=q;simp only[MU,V.sl.injEq,Us] at e;obtain⟨rfl,rfl,h⟩:=e;rw[bB cu h]
def jE (p:PL×PR):List V:=[H8 p.1,MU p.2]
theorem zy (p q:PL×PR) (e:jE p=jE q):p=q:=by obtain⟨h1,h2⟩:=T4 e;exact Prod.ext (wL _ _ h1) (FS _ _ (T4 h2).1)
def fB (L:List CI) (l:List C3):List V:=(l.filter fun c=>bV L c).map fun c=> .x (.int .i64 (bS L c))
open Classical in
noncomputable def zz (p:PL×PR):Option V:=if pt p.1.2.1∧(p.2.2.2≠[]->p.2.2.1=3)∧p.2.2.2.length<=1000000 then some (.sl (fB p.1.2.1 p.2.2.2).isEmpty 1 (fB p.1.2.1 p.2.2.2) none) else none
theorem CK (L:List CI) (l:List C3) (c:C3):fB L (l++[c])=fB L l++(if bV L c=true then [.x (.int .i64 (bS L c))] else []):=by
 unfold fB;rw[List.filter_append,TH];congr 1;by_cases h:bV L c=true
 . simp[h]
 . simp[h]
theorem FT (L:List CI) (l:List C3):(fB L l).length<=l.length:=by unfold fB;rw[io];exact Uc _ _
theorem oZ:cm 18 (FE jE zz):=by
 refine aE (E:=dZ [] [] [] (fun _=>false) (fun i=>i==5)) (k:=2) (jt _ _ _ _ _ trivial trivial trivial) (by kernel_rfl) Try.func18 rfl (fun a w=>Try.call18 a w) Try.ntmps18 (by kernel_rfl) (by decide) (by decide) ?_;intro us r hF hdat;obtain⟨⟨⟨c0,L,x0,y0⟩,nl,sz,l⟩,hus,hG⟩:=be hF;clear hF;subst hus;unfold zz at hG;split at hG
 case isFalse=>cases hG
 rename_i hok;cases hG;clear hdat;refine⟨rfl,?_⟩;obtain⟨hok,hsz,hlen⟩:=hok;simp only at hok hsz hlen;simp only[jE,H8,MU];simp +decide (maxDischargeDepth:=200) only[go_sem,Nat.reduceBEq,io];refine BZ 5 1 99 (by simp only[go_sem,Nat.reduceBEq];rfl) ?_;refine bu (X:={p:Nat×Nat//p.1<=l.length}) (fun p=>[(0,.ip [c0,.fm (ksI L) (vsI L),x0,y0]),(10,.sl nl sz (l.map aa) none),(11,.x (.int .i64 (l.length:Int))),(12,.x (.int .i64 ((p.1.1:Nat):Int))),(5,.sl (fB L (l.take p.1.1)).isEmpty 1 (fB L (l.take p.1.1)) (some p.1.2))]) (fun _=>[]) (fun p=>l.length-p.1.1) ⟨(0,99),TL _⟩ (by simp +decide only[go_sem,T9]<;>(repeat' first|rfl|constructor)) (by simp +decide only[go_sem]<;>(repeat' first|rfl|constructor)) (fun⟨⟨i,tk⟩,hi0⟩=>?_);simp only at hi0⊢;by_cases hi:i<l.length
 . have c1:decide ((i:Int)<(l.length:Int))=true:=Io (by omega);have c2:(0:Int)<=(i:Int):=by omega
   have c4:=bp (i:=i) (by omega);have q1:l[i]?=some l[i]:=eq hi;have q2:(l.map aa)[((i:Nat):Int).toNat]?=some (aa l[i]):=ge q1;obtain rfl:=hsz (fun h=>by rw[h] at hi;simp at hi);have e3:fB L (l.take (i+1))=fB L (l.take i)++(if bV L l[i]=true then [V.x (.int .i64 (bS L l[i]))] else []):=by rw[bA q1,CK]
   have k1:=rH (c:=l[i]) (Gq (ksI L) (vsI L)) hok;have hal:(fB L (l.take i)).length<=1000000:=Tn (FT _ _) (by rw[Tt];omega);generalize fB L (l.take i)=al at e3 hal⊢;have hcx:aa l[i]= .agg [.x (.string (l[i]).1),.x (.int .i64 (l[i]).2.1),.x (.int .i64 (l[i]).2.2)]:=rfl;rw[hcx] at k1 q2;generalize ksI L=ks at k1⊢;generalize vsI L=vs at k1⊢;generalize bS L l[i]=z at k1 e3;generalize bV L l[i]=hb at k1 e3;generalize (l[i]).1=ps at k1 q2;generalize (l[i]).2.1=pc at k1 q2;generalize (l[i]).2.2=pr at k1 q2;simp +decide (maxDischargeDepth:=200) only[go_sem,Nat.reduceBEq,io,SV,c1,c2,c4,q2];refine rL [(0,0,0,.ip [c0,.fm ks vs,x0,y0]),(0,0,10,.sl nl 3 (l.map aa) none),(0,0,11,.x (.int .i64 (l.length:Int))),(0,0,12,.x (.int .i64 ((i:Nat):Int))),(0,0,5,.sl al.isEmpty 1 al (some tk)),(0,0,7,.ptr 7 0),(1,0,17,.ip [c0,.fm ks vs,x0,y0]),(2,0,18,.ip [c0,.fm ks vs,x0,y0]),(4,0,19,.ip [.fm ks vs,x0,y0]),(8,0,20,.fm ks vs),(16,0,21,.agg [.x (.string ps),.x (.int .i64 pc),.x (.int .i64 pr)]),(32,0,22,.tup [.x (.int .i64 z),.x (.bool hb)]),(64,0,16,.tup [.x (.int .i64 z),.x (.bool hb)]),(128,0,23,.x (.int .i64 z)),(256,0,24,.x (.bool hb)),(512,0,8,.x (.int .i64 z)),(1024,0,9,.x (.bool hb))] [(7,[.x (.string ps),.x (.int .i64 pc),.x (.int .i64 pr)])] [(0,0,1),(0,4,16),(1,1,3),(1,4,17),(16,0,17),(3,2,7),(3,4,19),(17,1,19),(7,3,15),(7,4,23),(19,2,23),(15,4,31),(23,3,31),(31,5,63),(63,6,127),(127,7,255),(127,8,383),(255,8,511),(255,9,767),(383,7,511),(511,9,1023),(767,8,1023),(1023,10,2047)] 2047 (by kernel_rfl) (by kernel_rfl) ?_ ?_ ?_
   . simp +decide (maxDischargeDepth:=200) only[go_sem,Nat.reduceBEq]
   . simp +decide (maxDischargeDepth:=200) only[go_sem,Nat.reduceBEq,k1]
   . cases hb with
     | true=>
       rw[S4 rfl] at e3;have g1:=jV (E:=dZ [] [] [] (fun _=>false) (fun i=>i==5)) (el:=3) (n:=1) ID I3 I4 (by decide) rfl (es:=al) (v:= .x (.int .i64 z)) rfl (by omega) (by omega);simp +decide (maxDischargeDepth:=200) only[go_sem,Nat.reduceBEq,io,c1,c2,c4,g1];refine⟨⟨(i+1,29),hi⟩,?_,?_,?_⟩
       . simp +decide (maxDischargeDepth:=200) only[go_sem,Nat.reduceBEq,e3]
       . simp +decide (maxDischargeDepth:=200) only[go_sem,Nat.reduceBEq]
       . simp only;omega
     | false=>
       rw[S8 (by decide),Up] at e3;simp +decide (maxDischargeDepth:=200) only[go_sem,Nat.reduceBEq,io,c1,c2,c4];refine⟨⟨(i+1,tk),hi⟩,?_,?_,?_⟩
       . simp +decide (maxDischargeDepth:=200) only[go_sem,Nat.reduceBEq,e3]
       . simp +decide (maxDischargeDepth:=200) only[go_sem,Nat.reduceBEq]
       . simp only;omega
 . have c1:decide ((i:Int)<(l.length:Int))=false:=SP (by omega);have e:l.take i=l:=T7 (by omega);rw[e];simp +decide (maxDischargeDepth:=200) only[go_sem,Nat.reduceBEq,io,c1]
def zC:List V:=[.x (.string ⟨#[]⟩),.x (.int .i64 0),.x (.int .i64 0)]
abbrev ed (i:Int):V:= .x (.int .i64 i)
def kG (C:List C3) (i:Int):C3:=(C[i.toNat]?).getD (⟨#[]⟩,0,0)
def Ae (L:List C3) (i:Nat):List V:=((L.take i).map aa).flatMap V.cells++(List.replicate (L.length-i) zC).flatten
theorem uS (c:C3):(aa c).cells.length=3:=rfl
theorem nT (L:List C3):((L.map aa).flatMap V.cells).length=L.length*3:=by
 induction L with
 |nil=>rfl
 |cons c L ih=>rw[Tv,TB,SQ,ih,uS,SV];omega
theorem zA (k:Nat):(List.replicate k zC).flatten.length=k*3:=by
 induction k with
 |zero=>rfl
 |succ k ih=>rw[List.replicate_succ,List.flatten_cons,SQ,ih];show 3+_=_;omega
theorem RM (L:List C3):Ae L 0=(List.replicate L.length zC).flatten:=rfl
theorem H9 (L:List C3) {i:Nat} (hi:i<=L.length):(Ae L i).length=L.length*3:=by unfold Ae;rw[SQ,nT,zA,Tt,UD hi];omega
theorem Ia {L:List C3} {i:Nat} (h:L[i]?=some c):(Ae L i).take (i*3)++[.x (.string c.1),.x (.int .i64 c.2.1),.x (.int .i64 c.2.2)]++(Ae L i).drop (i*3+(1+1+1))=Ae L (i+1):=by
 have hi:i<L.length:=(iO.1 h).1;have hl:(((L.take i).map aa).flatMap V.cells).length=i*3:=by rw[nT,Tt,UD (by omega)]
 obtain⟨k,hk⟩:∃k,L.length-i=k+1:=⟨L.length-i-1,by omega⟩;have hk2:L.length-(i+1)=k:=by omega
 unfold Ae;rw[hk,hk2,Uv (by omega),T7 (by omega),bA h,TH,List.flatMap_append,UH,UH];congr 1;rw[List.drop_append,List.drop_of_length_le (by omega),hl,T1,List.replicate_succ,List.flatten_cons];congr 1;have e:i*3+(1+1+1)-i*3=3:=by omega
 rw[e];rfl
theorem FU (L:List C3):Ae L L.length=(L.map aa).flatMap V.cells:=by unfold Ae;rw[T7 (SX _),VL];simp
theorem Ib (L:List C3):((L.map aa).flatMap V.cells).all V.dat=true∧((L.map aa).flatMap V.cells).all V.cell=true:=by
 induction L with
 |nil=>exact⟨rfl,rfl⟩
 |cons c L ih=>rw[Tv,TB,List.all_append,List.all_append,ih.1,ih.2];exact⟨rfl,rfl⟩
theorem FV (L:List C3):ou 3 L.length ((L.map aa).flatMap V.cells)=L.map aa:=by
 rw[nr]
 induction L with
 |nil=>rfl
 |cons c L ih=>rw[Tv,TB,SV];unfold dy;rw[S8 (by decide)];have h1:((aa c).cells++(L.map aa).flatMap V.cells).take 3=(aa c).cells:=List.take_left' (uS c);have h2:((aa c).cells++(L.map aa).flatMap V.cells).drop 3=(L.map aa).flatMap V.cells:=List.drop_left' (uS c);rw[h1,h2,ih];rfl
theorem wM (a b:Int) (e:ed a=ed b):a=b:=by cases e;rfl
abbrev CA:=(List C3×V×V×V)×Bool×Nat×List Int
def ek (p:CA):List V:=[.ip [.sl false 3 (p.1.1.map aa) none,p.1.2.1,p.1.2.2.1,p.1.2.2.2],.sl p.2.1 p.2.2.1 (p.2.2.2.map ed) none]
theorem nU (p q:CA) (e:ek p=ek q):p=q:=by obtain⟨⟨a,b,c,d⟩,f,g,h⟩:=p;obtain⟨⟨a',b',c',d'⟩,f',g',h'⟩:=q;simp only[ek,Tr,V.ip.injEq,V.sl.injEq,Us,U5] at e;obtain⟨⟨h1,rfl,rfl,rfl⟩,rfl,rfl,h2⟩:=e;rw[bB cu h1,bB wM h2]
def RN (p:CA):Prop:=(p.2.2.2≠[]->p.2.2.1=1)∧p.2.2.2.length<=100000000∧∀i∈p.2.2.2,0<=i∧i.toNat<p.1.1.length
open Classical in
noncomputable def uT (p:CA):Option V:=if RN p then some (.sl false 3 ((p.2.2.2.map (kG p.1.1)).map aa) none) else none
theorem gT:cm 22 (FE ek uT):=by
 refine aE (E:=eM [] [] [] (fun d=>d==10) (fun _=>false) (fun d=>d==29) (fun _=>false)) (k:=2) (wu _ _ _ _ _ _ _ trivial trivial trivial) (by kernel_rfl) Try.func22 rfl (fun a w=>Try.call22 a w) Try.ntmps22 (by kernel_rfl) (by decide) (by decide) ?_;intro us r hF hdat;obtain⟨⟨⟨C,m0,x0,y0⟩,nl,sz,is⟩,hus,hG⟩:=be hF;clear hF;subst hus;unfold uT at hG;split at hG
 case isFalse=>cases hG
 rename_i hok;cases hG;clear hdat;refine⟨rfl,?_⟩;obtain⟨hsz,hlen,hin⟩:=hok;simp only at hsz hlen hin;simp only[ek];obtain⟨L,hL⟩:∃L,L=is.map (kG C):=⟨_,rfl⟩;have hll:is.length=L.length:=by rw[hL,io]
 rw[<-hL];have b0:(List.replicate L.length [V.x (.string ⟨#[]⟩),V.x (.int .i64 0),V.x (.int .i64 0)]).flatten=Ae L 0:=(RM L).symm;have c0:(0:Int)<=(L.length:Int):=by omega
 have c5:(16*2:Int)*(L.length:Int)<=281474976710656:=by omega
 have c6:(L.length:Int)<=9223372036854775807:=by omega
 have c7:((32:Nat):Int)*(L.length:Int)<=281474976710656:=by omega
 simp +decide (maxDischargeDepth:=200) only[go_sem,Nat.reduceBEq,tl,io,hll,c0,c6,c7,b0];refine bu (X:={i:Nat//i<=L.length}) (fun i=>[(0,.ip [.sl false 3 (C.map aa) none,m0,x0,y0]),(5,.row 10 3 L.length),(11,.sl nl sz (is.map ed) none),(12,.x (.int .i64 (L.length:Int))),(13,.x (.int .i64 ((i.1:Nat):Int)))]) (fun i=>[(10,Ae L i.1)]) (fun i=>L.length-i.1) ⟨0,TL _⟩ (by simp +decide only[go_sem,T9]<;>(repeat' first|rfl|constructor)) (by simp +decide only[go_sem]<;>(repeat' first|rfl|constructor)) (fun⟨i,hi0⟩=>?_);simp only at hi0⊢;by_cases hi:i<L.length
 . have c1:decide ((i:Int)<(L.length:Int))=true:=Io (by omega);have c1':(i:Int)<(L.length:Int):=by omega
   have c2:(0:Int)<=(i:Int):=by omega
   have c4:=bp (i:=i) (by omega);have hi2:i<is.length:=by omega
   have q1:is[i]?=some is[i]:=eq hi2;have q2:(is.map ed)[i]?=some (ed is[i]):=by rw[SS,q1];rfl
   obtain rfl:=hsz (fun h=>by rw[h] at hi2;simp at hi2);obtain⟨p1,p2⟩:=hin is[i] (TR hi2);have q3:L[i]?=some (kG C is[i]):=by rw[hL,SS,q1];rfl
   have q4:(C.map aa)[(is[i]).toNat]?=some (aa (kG C is[i])):=by unfold kG;rw[SS,eq p2];rfl
   have b1:=Ia q3;have b2:i*3+(1+1+1)<=(Ae L i).length:=by rw[H9 L (by omega)];omega
   generalize is[i]=j at q2 q4 b1 p1;generalize kG C j=c at q4 b1;obtain⟨cs,cc,cr⟩:=c;simp only[dB] at q4 b1;simp +decide (maxDischargeDepth:=200) only[go_sem,Nat.reduceBEq,tl,io,c1,c1',c2,c4,q2,q4,p1,b1,b2];refine⟨⟨i+1,hi⟩,?_,?_,?_⟩
   . simp +decide (maxDischargeDepth:=200) only[go_sem,Nat.reduceBEq,tl]
   . simp +decide (maxDischargeDepth:=200) only[go_sem,Nat.reduceBEq,tl]
   . simp only;omega
 . have c1:decide ((i:Int)<(L.length:Int))=false:=SP (by omega);have e:i=L.length:=by omega
   subst e;obtain⟨d1,d2⟩:=Ib L;have d3:=FV L;have d4:=FU L;simp +decide (maxDischargeDepth:=200) only[go_sem,Nat.reduceBEq,tl,io,c1,d4,d1,d2,d3]
abbrev PD:=List C3×List (List Int)×List (List Int)
def Ic (r:List Int):Nat:=if r.isEmpty then 0 else 1
def rI (r:List Int):V:= .sl r.isEmpty (Ic r) (r.map ed) none
def plI:Nat->List C3->List CI
 |_,[]=>[]
 |k,c::C=>(c,((k:Nat):Int))::plI (k+1) C
def iJ (p:PD):V:= .ip [.sl false 3 (p.1.map aa) none,.fm (ksI (plI 0 p.1)) (vsI (plI 0 p.1)),.sl false 1 (p.2.1.map rI) none,.sl false 1 (p.2.2.map rI) none]
theorem CL (a b:List Int) (e:rI a=rI b):a=b:=by simp only[rI,V.sl.injEq,Us] at e;exact bB wM e.2.2
theorem wN (p q:PD) (e:iJ p=iJ q):p=q:=by obtain⟨a,b,c⟩:=p;obtain⟨a',b',c'⟩:=q;simp only[iJ,V.ip.injEq,Tr,V.sl.injEq,Us,U5] at e;obtain⟨h1,_,h2,h3⟩:=e;rw[bB cu h1,bB CL h2,bB CL h3]
theorem kS:∀(C:List C3) (k:Nat),(plI k C).map (fun p=>p.1)=C
 |[],_=>rfl
 |c::C,k=>by show c::(plI (k+1) C).map _=_;rw[kS C (k+1)]
variable {C:List C3}
theorem uU (h:C.Nodup) (k:Nat):pt (plI k C):=by unfold pt;rw[kS];exact h
theorem kT (C:List C3) (k:Nat) (c:C3):bV (plI k C) c=fV c C:=by unfold bV;rw[kS]
theorem nV:∀{C:List C3} {c:C3} {i k:Nat},C.Nodup->C[i]?=some c->bS (plI k C) c=((k+i:Nat):Int)
 |[],c,i,k,_,h=>by simp at h
 |d::C,c,0,k,hn,h=>by simp only[UB,Tl] at h;unfold plI bS;rw[S4 (show eA c (d,((k:Nat):Int)).1=true from Io h.symm),T6]
 |d::C,c,i+1,k,hn,h=>by simp only[Ue] at h;have hn:=Ty.1 hn;unfold plI bS;rw[S8 (show¬eA c (d,((k:Nat):Int)).1=true from fun e=>hn.1 (by rw[<-show c=d from Ti e];exact S9 h)),nV (k:=k+1) hn.2 h];congr 1;omega
def uV (p:PD):Prop:=p.1.Nodup∧p.1.length<=400∧p.2.1.length=p.1.length∧p.2.2.length=p.1.length∧(∀r∈p.2.1,r.length<=100000000∧∀i∈r,0<=i∧i.toNat<p.1.length)∧∀r∈p.2.2,r.length<=100000000∧∀i∈r,0<=i∧i.toNat<p.1.length
def iK (p:PD):List V:=[iJ p]
theorem zB (p q:PD) (e:iK p=iK q):p=q:=wN _ _ (T4 e).1
def fk (p:PD×C3):List V:=[iJ p.1,aa p.2]
theorem j6 (p q:PD×C3) (e:fk p=fk q):p=q:=by obtain⟨h1,h2⟩:=T4 e;exact Prod.ext (wN _ _ h1) (cu _ _ (T4 h2).1)
def rM (C:List C3) (R:List (List Int)) (c:C3):V:=if fV c C=true then .sl false 3 ((((R[(bS (plI 0 C) c).toNat]?).getD []).map (kG C)).map aa) none else .sl true 0 [] none
open Classical in
noncomputable def MV (p:PD×C3):Option V:=if uV p.1 then some (rM p.1.1 p.1.2.1 p.2) else none
open Classical in
noncomputable def MW (p:PD×C3):Option V:=if uV p.1 then some (rM p.1.1 p.1.2.2 p.2) else none
open Classical in
noncomputable def FW (p:PD):Option V:=if uV p then some (.sl false 3 (p.1.map aa) none) else none
theorem mo {p:PD} (h:uV p) (c:C3):FE fj j4 [iJ p,aa c]=some (.tup [.x (.int .i64 (bS (plI 0 p.1) c)),.x (.bool (fV c p.1))]):=by have e:=bJ zx j4 ((.sl false 3 (p.1.map aa) none,plI 0 p.1,.sl false 1 (p.2.1.map rI) none,.sl false 1 (p.2.2.map rI) none),c);rw[<-kT p.1 0 c];exact e.trans (S4 (uU h.1 0))
theorem j7 (h:fV c C=true):∃i:Nat,C[i]?=some c:=by unfold fV at h;obtain⟨x,hx,e⟩:=T8.1 h;obtain⟨i,hi⟩:=TN hx;exact⟨i,by rw[hi,Ti e]⟩
theorem CM {x y:V} {r:List Int} (h1:r.length<=100000000) (h2:∀i∈r,0<=i∧i.toNat<C.length):FE ek uT [.ip [.sl false 3 (C.map aa) none,m,x,y],rI r]=some (.sl false 3 ((r.map (kG C)).map aa) none):=by
 have e:=bJ nU uT ((C,m,x,y),r.isEmpty,Ic r,r);refine e.trans (S4 ⟨fun hn=>?_,h1,h2⟩);unfold Ic;cases r with
 |nil=>exact absurd rfl hn
 |cons a r=>rfl
theorem uW:cm 10 (FE fk MV):=by
 refine aE (E:=ar [(21,FE fj j4),(22,FE ek uT)]) (k:=2) (aV _ ⟨j5,gT,trivial⟩) (by kernel_rfl) Try.func10 rfl (fun a w=>Try.call10 a w) Try.ntmps10 (by kernel_rfl) (by decide) (by decide) ?_;intro us r hF hdat;obtain⟨⟨⟨C,R,S⟩,ws,wc,wr⟩,hus,hG⟩:=be hF;clear hF;subst hus;unfold MV at hG;split at hG
 case isFalse=>cases hG
 rename_i hok;cases hG;clear hdat;refine⟨rfl,?_⟩;have k1:=mo hok (ws,wc,wr);obtain⟨hn,h4,hR,hS,hrr,hss⟩:=hok;simp only at hn h4 hR hS hrr hss k1;have hcx:aa (ws,wc,wr)= .agg [.x (.string ws),.x (.int .i64 wc),.x (.int .i64 wr)]:=rfl;simp only[fk,rM];rw[hcx] at k1⊢;cases hb:fV (ws,wc,wr) C with
 |false=>rw[hb] at k1;rw[S8 (by decide)];simp only[iJ] at k1⊢;simp +decide (maxDischargeDepth:=200) only[go_sem,Nat.reduceBEq,tl,k1]
 | true=>
   rw[hb] at k1;rw[S4 rfl];obtain⟨i,hi⟩:=j7 hb;have hz:=nV (k:=0) hn hi;rw[Th] at hz;rw[hz] at k1⊢;have hil:=(iO.1 hi).1;have hi2:i<R.length:=by omega
   have q1:R[i]?=some R[i]:=eq hi2;have q2:(R.map rI)[i]?=some (rI R[i]):=by rw[SS,q1];rfl
   obtain⟨r1,r2⟩:=hrr R[i] (TR hi2);have c2:(0:Int)<=(i:Int):=by omega
   have k2:=CM (m:= .fm (ksI (plI 0 C)) (vsI (plI 0 C))) (x:= .sl false 1 (R.map rI) none) (y:= .sl false 1 (S.map rI) none) r1 r2;rw[tl,q1,TQ];generalize R[i]=r at q2 k2⊢;simp only[iJ] at k1⊢;simp only[rI] at k2 q2;simp +decide (maxDischargeDepth:=200) only[go_sem,Nat.reduceBEq,tl,k1,c2,q2,k2]
theorem o0:cm 11 (FE fk MW):=by
 refine aE (E:=ar [(21,FE fj j4),(22,FE ek uT)]) (k:=2) (aV _ ⟨j5,gT,trivial⟩) (by kernel_rfl) Try.func11 rfl (fun a w=>Try.call11 a w) Try.ntmps11 (by kernel_rfl) (by decide) (by decide) ?_;intro us r hF hdat;obtain⟨⟨⟨C,R,S⟩,ws,wc,wr⟩,hus,hG⟩:=be hF;clear hF;subst hus;unfold MW at hG;split at hG
 case isFalse=>cases hG
 rename_i hok;cases hG;clear hdat;refine⟨rfl,?_⟩;have k1:=mo hok (ws,wc,wr);obtain⟨hn,h4,hR,hS,hrr,hss⟩:=hok;simp only at hn h4 hR hS hrr hss k1;have hcx:aa (ws,wc,wr)= .agg [.x (.string ws),.x (.int .i64 wc),.x (.int .i64 wr)]:=rfl;simp only[fk,rM];rw[hcx] at k1⊢;cases hb:fV (ws,wc,wr) C with
 |false=>rw[hb] at k1;rw[S8 (by decide)];simp only[iJ] at k1⊢;simp +decide (maxDischargeDepth:=200) only[go_sem,Nat.reduceBEq,tl,k1]
 | true=>
   rw[hb] at k1;rw[S4 rfl];obtain⟨i,hi⟩:=j7 hb;have hz:=nV (k:=0) hn hi;rw[Th] at hz;rw[hz] at k1⊢;have hil:=(iO.1 hi).1;have hi2:i<S.length:=by omega
   have q1:S[i]?=some S[i]:=eq hi2;have q2:(S.map rI)[i]?=some (rI S[i]):=by rw[SS,q1];rfl
   obtain⟨r1,r2⟩:=hss S[i] (TR hi2);have c2:(0:Int)<=(i:Int):=by omega
   have k2:=CM (m:= .fm (ksI (plI 0 C)) (vsI (plI 0 C))) (x:= .sl false 1 (R.map rI) none) (y:= .sl false 1 (S.map rI) none) r1 r2;rw[tl,q1,TQ];generalize S[i]=r at q2 k2⊢;simp only[iJ] at k1⊢;simp only[rI] at k2 q2;simp +decide (maxDischargeDepth:=200) only[go_sem,Nat.reduceBEq,tl,k1,c2,q2,k2]
theorem wO {el n by':Nat} {z:List V} (h1:aY E.P el=some n) (hby:bv E.P el=some by') (hz:av E.P el=some z) (h4:n≠0) (h5:z.length=n)
 {es es':List V} {m:Nat} (hm:es'≠[]->m=n) (hc:(es'.all fun u=>u.cells.all V.cell)=true) (hb:(es.length+es'.length)*by'<=140737488355328) (hl:es.length+es'.length<=9223372036854775807) (st:St) (d tok:Nat) (nl:Bool) (t':Option Nat):
 cO E st (some d) el (.sl false n es (some tok)) (.sl nl m es' t')=some ⟨ay (strip tok (strip d st.t)) d (.sl false n (es++es') (some d)),aC E tok (aC E d st.b)⟩:=by
 unfold cO;simp only[h1,hby,hz];rw[S4 ⟨h4,h5,trivial,by
  by_cases h:es'=[]
  . exact .inr h
  . exact .inl (hm h),hc,hb,hl⟩]
theorem rN (C:List C3):((C.map aa).all fun u=>u.cells.all V.cell)=true:=SW.2 fun u hu=>by obtain⟨c,_,rfl⟩:=SU.1 hu;rfl
def mq (C:List C3):List V:=[.sl false 3 (C.map aa) none]
theorem zD (p q:List C3) (e:mq p=mq q):p=q:=by simp only[mq,Tr,V.sl.injEq,Us,U5] at e;exact bB cu e
open Classical in
noncomputable def MY (C:List C3):Option V:=if C.length<=1000000 then some (.sl false 3 (C.map aa) none) else none
theorem uX:cm 20 (FE mq MY):=by
 refine aE (E:=dZ [] [] [] (fun d=>d==5) (fun _=>false)) (k:=1) (jt _ _ _ _ _ trivial trivial trivial) (by kernel_rfl) Try.func20 rfl (fun a w=>Try.call20 a w) Try.ntmps20 (by kernel_rfl) (by decide) (by decide) ?_;intro us r hF hdat;obtain⟨C,hus,hG⟩:=be hF;clear hF;subst hus;unfold MY at hG;split at hG
 case isFalse=>cases hG
 rename_i hok;cases hG;clear hdat;refine⟨rfl,?_⟩;simp only[mq];have gg:=wO (E:=dZ [] [] [] (fun d=>d==5) (fun _=>false)) (el:=32) (n:=3) yd ye yf (by decide) rfl (es:=[]) (es':=C.map aa) (m:=3) (fun _=>rfl) (rN C) (by simp only[io,Tu];omega) (by simp only[io,Tu];omega);simp only[T1] at gg;simp +decide (maxDischargeDepth:=200) only[go_sem,Nat.reduceBEq,gg]
theorem mr:cm 8 (FE iK FW):=by
 refine aE (E:=ar [(20,FE mq MY)]) (k:=1) (aV _ ⟨uX,trivial⟩) (by kernel_rfl) Try.func8 rfl (fun a w=>Try.call8 a w) Try.ntmps8 (by kernel_rfl) (by decide) (by decide) ?_;intro us r hF hdat;obtain⟨⟨C,R,S⟩,hus,hG⟩:=be hF;clear hF;subst hus;unfold FW at hG;split at hG
 case isFalse=>cases hG
 rename_i hok;cases hG;clear hdat;refine⟨rfl,?_⟩;obtain⟨_,h4,_⟩:=hok;simp only at h4;have k1:FE mq MY [.sl false 3 (C.map aa) none]=some (.sl false 3 (C.map aa) none):=(bJ zD MY C).trans (S4 (by omega));simp only[iK,iJ];simp +decide (maxDischargeDepth:=200) only[go_sem,Nat.reduceBEq,k1]
end Go.Proofs.Ytalkmhjanlljhaa
