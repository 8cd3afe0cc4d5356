/- Maps whose keys are cells: what the run's words about them come to. -/
import Derived.Test.YtmfojhkjbkombaaGreatML
import Derived.Test.YtmfojhkjbkombaaGreatMD
namespace Go.Proofs.YtmfojhkjbkombaaGreat
set_option linter.unusedSimpArgs false
set_option maxHeartbeats 16000000
set_option maxRecDepth 100000
open Go Go.RowKit
attribute [go_sem] Tryz.results33 Tryz.results34 Tryz.results45 Tryz.results49 Tryz.results50 Tryz.results51
def jW (c:C3) (L:List C3):Bool:=L.any fun p=>eI c p
theorem vh (a b:C3):D8 Tryz.prog 20 37 (aa a) (aa b)=some (eI a b):=by obtain⟨s,c,r⟩:=a;obtain⟨s',c',r'⟩:=b;rw[<-Sr];simp +decide only[go_sem,bJ]
theorem eo (a:C3):ir Tryz.prog 37 (aa a)=true:=by obtain⟨s,c,r⟩:=a;unfold ir;simp +decide [go_sem,bJ,plainK,sk,cU]
theorem mD {c:C3}:∀(L:List C3) (i:Nat),jW c L=false->jp Tryz.prog 37 (aa c) (L.map aa) i=some none
 |[],_,_=>rfl
 | p::L,i,h=>by
   have h1:(eI c p||jW c L)=false:=h;rw[Bool.or_eq_false_iff] at h1
   show(match D8 Tryz.prog 20 37 (aa c) (aa p) with
    |some true=>some (some i)
    |some false=>jp Tryz.prog 37 (aa c) (L.map aa) (i+1)
    |none=>none)=_
   rw[vh,h1.1];exact mD L (i+1) h1.2
theorem mE {c:C3}:∀(L:List C3) (i:Nat),jW c L=true->∃j,jp Tryz.prog 37 (aa c) (L.map aa) i=some (some (i+j))∧L[j]?=some c
 |[],_,h=>by cases h
 | p::L,i,h=>by
   have h1:(eI c p||jW c L)=true:=h
   have e:jp Tryz.prog 37 (aa c) ((p::L).map aa) i=(match D8 Tryz.prog 20 37 (aa c) (aa p) with
    |some true=>some (some i)
    |some false=>jp Tryz.prog 37 (aa c) (L.map aa) (i+1)
    |none=>none):=rfl
   rw[e,vh];cases hq:eI c p with
   |true=>exact⟨0,rfl,by rw[Y9 hq];rfl⟩
   |false=>rw[hq] at h1;obtain⟨j,h2,h3⟩:=mE L (i+1) h1;exact⟨j+1,by show jp _ _ _ _ _=_;rw[h2];congr 2;omega,h3⟩
abbrev CI:=C3×Int
def ksI (L:List CI):List V:=(L.map fun p=>p.1).map aa
def vsI (L:List CI):List V:=L.map fun p=> .x (.int .i64 p.2)
def cP (L:List CI) (c:C3):Bool:=jW c (L.map fun p=>p.1)
def dp:List CI->C3->Int
 |[],_=>0
 |p::L,c=>if eI c p.1=true then p.2 else dp L c
def vj (L:List CI):Prop:=(L.map fun p=>p.1).Nodup
def fB (L:List CI) (c:C3) (i:Int):List CI:=if cP L c=true then L.map (fun p=>if eI c p.1=true then (p.1,i) else p) else L++[(c,i)]
variable {L:List CI} {c:C3}
theorem cX:cP L c=true↔c∈L.map fun p=>p.1:=by
 unfold cP jW;rw[Z2];constructor
 . rintro⟨x,hx,e⟩;rw[Y9 e];exact hx
 . exact fun h=>⟨c,h,Yz rfl⟩
theorem rG (h:cP L c=false):dp L c=0:=by
 induction L with
 |nil=>rfl
 |cons p L ih=>have h1:(eI c p.1||cP L c)=false:=h;rw[Bool.or_eq_false_iff] at h1;unfold dp;rw[h1.1,YL A0c];exact ih h1.2
theorem AP {j:Nat} (h:(L.map fun p=>p.1)[j]?=some c) (hn:vj L):(vsI L)[j]?=some (.x (.int .i64 (dp L c))):=by
 unfold vj at hn
 induction L generalizing j with
 |nil=>simp at h
 | cons p L ih=>
   rw[Y0,Zj] at hn;cases j with
   |zero=>simp only[Y0,aaF,Y8] at h;unfold dp;rw[YG (show eI c p.1=true from Yz h.symm)];rfl
   | succ j=>
     simp only[Y0,aaf] at h;have hne: ¬eI c p.1=true:=fun e=>hn.1 (by rw[<-Y9 e];exact YB h)
     unfold dp;rw[YL hne];exact ih h hn.2
theorem vm (L:List CI) (c:C3) (i:Int):(L.map fun p=>if eI c p.1=true then (p.1,i) else p).map (fun p=>p.1)=L.map fun p=>p.1:=by rw[ZT];refine aad (fun p _=>?_);simp only[Function.comp];split<;>rfl
theorem K7 (h:vj L) (c:C3) (i:Int):vj (fB L c i):=by
 unfold fB;by_cases hp:cP L c=true
 . rw[YG hp];unfold vj at h⊢;rw[vm];exact h
 . rw[YL hp];unfold vj at h⊢;rw[Y4,aaa];refine⟨h,A0j,fun a ha b hb e=>?_⟩;have hb:b=c:=by simpa using hb
   subst hb;exact hp (cX.2 (e▸ha))
theorem Ho {c:C3} {i:Int}:∀{L:List CI} {j:Nat},vj L->(L.map fun p=>p.1)[j]?=some c->(L.map fun p=>if eI c p.1=true then (p.1,i) else p).map (fun p=>V.x (.int .i64 p.2))=(vsI L).set j (.x (.int .i64 i))
 |[],j,_,h=>by simp at h
 | p::L,0,hn,h=>by
   simp only[Y0,aaF,Y8] at h;have hn:=Zj.1 (show(p.1::L.map fun p=>p.1).Nodup from hn);have e:(L.map fun p=>if eI c p.1=true then (p.1,i) else p)=L:=by
    have:∀q∈L,(if eI c q.1=true then (q.1,i) else q)=q:=fun q hq=>by rw[YL];intro e;exact hn.1 (by rw[h,Y9 e];exact YR.2 ⟨q,hq,rfl⟩)
    rw[aad this,List.map_id']
   simp only[Y0,vsI,List.set_cons_zero];rw[YG (show eI c p.1=true from Yz h.symm),e]
 | p::L,j+1,hn,h=>by
   simp only[Y0,aaf] at h;have hn:=Zj.1 (show(p.1::L.map fun p=>p.1).Nodup from hn);have hne: ¬eI c p.1=true:=fun e=>hn.1 (by rw[<-Y9 e];exact YB h)
   simp only[Y0,vsI,List.set_cons_succ];rw[YL hne,Ho (L:=L) hn.2 h];rfl
variable {m:V}
theorem AQ (hm:m.kv=some (ksI L,vsI L)) (hL:vj L):jt Tryz.prog 77 m (aa c) false=some (.x (.int .i64 (dp L c))):=by
 unfold jt;rw[Tryz.underlying77,hm];cases h:cP L c with
 |true=>obtain⟨j,h1,h2⟩:=mE (c:=c) (L.map fun p=>p.1) 0 (show jW c (L.map fun p=>p.1)=true from h);have h3:=AP h2 hL;rw[YC] at h1;simp only[eo,YX,ksI,h1,h3];rfl
 |false=>simp only[eo,YX,ksI,mD (c:=c) (L.map fun p=>p.1) 0 (show jW c (L.map fun p=>p.1)=false from h),TL,rG h];rfl
theorem Hp (hm:m.kv=some (ksI L,vsI L)) (hL:vj L):jt Tryz.prog 77 m (aa c) true=some (.tup [.x (.int .i64 (dp L c)),.x (.bool (cP L c))]):=by
 unfold jt;rw[Tryz.underlying77,hm];cases h:cP L c with
 |true=>obtain⟨j,h1,h2⟩:=mE (c:=c) (L.map fun p=>p.1) 0 (show jW c (L.map fun p=>p.1)=true from h);have h3:=AP h2 hL;rw[YC] at h1;simp only[eo,YX,ksI,h1,h3];rfl
 |false=>simp only[eo,YX,ksI,mD (c:=c) (L.map fun p=>p.1) 0 (show jW c (L.map fun p=>p.1)=false from h),TL,rG h];rfl
theorem SL {i:Int} (hL:vj L):wn Tryz.prog 77 (ksI L) (vsI L) (aa c) (.x (.int .i64 i))=some (ksI (fB L c i),vsI (fB L c i)):=by
 unfold wn;rw[Tryz.underlying77];cases h:cP L c with
 | true=>
   obtain⟨j,h1,h2⟩:=mE (c:=c) (L.map fun p=>p.1) 0 (show jW c (L.map fun p=>p.1)=true from h);rw[YC] at h1;have h3:((L.map fun p=>p.1).map aa)[j]?=some (aa c):=by rw[Io,h2];rfl
   have e:fB L c i=L.map (fun p=>if eI c p.1=true then (p.1,i) else p):=YG h;simp only[eo,ksI,h1,h3];rw[YG ⟨trivial,rfl⟩,YG trivial,e,vm];unfold vsI;rw[Ho hL h2];rfl
 |false=>have e:fB L c i=L++[(c,i)]:=YL (by rw[h];decide);simp only[ksI,eo,mD (c:=c) (L.map fun p=>p.1) 0 (show jW c (L.map fun p=>p.1)=false from h)];rw[YG ⟨trivial,rfl⟩,e];simp[vsI]
def jA:Nat->List En->List CI->List CI
 |_,[],M=>M
 |k,e::l,M=>jA (k+1) l (fB M e.1 k)
theorem ep:∀(k:Nat) (l:List En) (M:List CI) (e:En),jA k (l++[e]) M=fB (jA k l M) e.1 ((k+l.length:Nat):Int)
 |_,[],_,_=>rfl
 |k,a::l,M,e=>by show jA (k+1) (l++[e]) _=_;rw[ep (k+1) l _ e];show _=fB (jA (k+1) l _) e.1 _;congr 2;rw[YI];omega
theorem vo:∀(l:List En) (k:Nat) (M:List CI),vj M->vj (jA k l M)
 |[],_,_,h=>h
 |_::l,k,_,h=>vo l (k+1) _ (K7 h _ _)
def am (l:List En):List CI:=jA 0 l []
theorem jh (l:List En):vj (am l):=vo l 0 [] ZD
variable {l:List En}
theorem Hq:ksI (am (List.take 0 l))=[]:=rfl
theorem Hr:vsI (am (List.take 0 l))=[]:=rfl
theorem vp (e:En):∃M:List V,cj e= .agg (.x (.string e.1.1):: .x (.int .i64 e.1.2.1):: .x (.int .i64 e.1.2.2):: .x (.bool e.2.1)::M)∧M.length=16∧M.take 16=M∧M.all V.cell=true:=by refine⟨_,rfl,rfl,rfl,?_⟩;obtain⟨c,b,n,v⟩:=e;cases n<;>rfl
abbrev EL:=Bool×Nat×List En
def K8 (p:EL):V:= .sl p.1 p.2.1 (p.2.2.map cj) none
theorem K9 (p q:EL) (e:K8 p=K8 q):p=q:=by obtain⟨a,b,c⟩:=p;obtain⟨d,f,g⟩:=q;simp only[K8,V.sl.injEq,Z7] at e;obtain⟨rfl,rfl,h⟩:=e;rw[aZ mC h]
def Hs (p:EL):Prop:=(p.2.2≠[]->p.2.1=20)∧p.2.2.length<=400
open Classical in
noncomputable def y4:List V->Option (List V×List V):=fun us=>if h:∃p:EL,us=[K8 p]∧Hs p then some (ksI (am h.choose.2.2),vsI (am h.choose.2.2)) else none
open Classical in
theorem La {p:EL} (h:Hs p):y4 [K8 p]=some (ksI (am p.2.2),vsI (am p.2.2)):=by have hh:∃q:EL,[K8 p]=[K8 q]∧Hs q:=⟨p,rfl,h⟩;unfold y4;rw[dif_pos hh];have e:=K9 _ _ (aag hh.choose_spec.1).1;rw[<-e]
open Classical in
theorem Ht {us ks vs:List V} (h:y4 us=some (ks,vs)):∃p:EL,us=[K8 p]∧Hs p∧ks=ksI (am p.2.2)∧vs=vsI (am p.2.2):=by
 unfold y4 at h;split at h
 case isFalse=>cases h
 rename_i hh;cases h;exact⟨hh.choose,hh.choose_spec.1,hh.choose_spec.2,rfl,rfl⟩
theorem y5:Fj 45 y4:=by
 refine tf (E:=bP [] [] [] (fun _=>false) (fun _=>false)) (k:=1) (bw _ _ _ _ _ trivial trivial trivial) A0a Tryz.func45 rfl (fun a w=>Tryz.call45 a w) Tryz.ntmps45 Tryz.results45 A0a A0c A0c ?_;intro us ks rs hF hdat;obtain⟨⟨nl,sz,l⟩,hus,hok,hks,hrs⟩:=Ht hF;clear hF;subst hus hks hrs;obtain⟨hsz,hlen⟩:=hok;simp only at hsz hlen;clear hdat;refine⟨rfl,?_⟩;simp only[K8];simp +decide (maxDischargeDepth:=200) only[go_sem,Nat.reduceBEq,eq];refine bc (X:={i:Nat//i<=l.length}) (fun i=>[(7,.sl nl sz (l.map cj) none),(8,.x (.int .i64 (l.length:Int))),(9,.x (.int .i64 ((i.1:Nat):Int))),(3,.mp 6 (ksI (am (l.take i.1))) (vsI (am (l.take i.1))))]) (fun _=>[]) (fun i=>l.length-i.1) ⟨0,Zf _⟩ (by simp +decide only[go_sem,YO,Hq,Hr]<;>(repeat' first|rfl|constructor)) A0e (fun⟨i,hi0⟩=>?_);simp only at hi0⊢;by_cases hi:i<l.length
 . have c1:decide ((i:Int)<(l.length:Int))=true:=Yz A0b;have c2:(0:Int)<=(i:Int):=A0b
   have c4:=aD (i:=i) A0b;have q1:l[i]?=some l[i]:=io hi;have q2:(l.map cj)[((i:Nat):Int).toNat]?=some (cj l[i]):=by rw[tl,Io,q1];rfl
   obtain rfl:=hsz (fun h=>by rw[h] at hi;simp at hi);have hL:=jh (l.take i);have e:am (l.take (i+1))=fB (am (l.take i)) (l[i]).1 ((i:Nat):Int):=by unfold am;rw[aF q1,ep,YQ,YC,aae A0b]
   have k1:=SL (c:=(l[i]).1) (i:=((i:Nat):Int)) hL;rw[<-e] at k1;obtain⟨N,hN,lN,tN,aN⟩:=vp l[i];rw[hN] at q2;have hcs:aa (l[i]).1= .agg [.x (.string (l[i]).1.1),.x (.int .i64 (l[i]).1.2.1),.x (.int .i64 (l[i]).1.2.2)]:=rfl;rw[hcs] at k1;generalize ksI (am (l.take i))=ks0 at k1⊢;generalize vsI (am (l.take i))=vs0 at k1⊢;generalize hk1:ksI (am (l.take (i+1)))=ks1 at k1⊢;generalize hv1:vsI (am (l.take (i+1)))=vs1 at k1⊢;generalize (l[i]).1.1=ps at k1 q2;generalize (l[i]).1.2.1=pc at k1 q2;generalize (l[i]).1.2.2=pr at k1 q2;simp +decide (maxDischargeDepth:=200) only[go_sem,Nat.reduceBEq,eq,YI,lN,tN,aN,c1,c2,c4,q2,k1];refine⟨⟨i+1,hi⟩,?_,?_,?_⟩
   . simp +decide (maxDischargeDepth:=200) only[go_sem,Nat.reduceBEq,hk1,hv1]
   . simp +decide (maxDischargeDepth:=200) only[go_sem,Nat.reduceBEq]
   . simp only;omega
 . have c1:decide ((i:Int)<(l.length:Int))=false:=YA A0b;have e:l.take i=l:=YS A0b;rw[e];simp +decide (maxDischargeDepth:=200) only[go_sem,Nat.reduceBEq,eq,c1]
variable {E:Env}
theorem Hu {ops:List Oper} {st:St} {K:St->Prop} (ents:List (Nat×Nat×Nat×V)) (bs:List (Nat×List V)) (ps:List (Nat×Nat×Nat)) (full:Nat) (hf:2^ops.length-1=full) (h:iN ops ps=true) (h0:fu st (iQ ents 0)∧fR st bs) (ht:xF E ops ents bs ps)
 (hk:K (au (iQ ents full) bs)):ED E ops st K:=Ap ents bs ps h h0 ht (hf▸hk)
theorem Lb {L':List CI} (h1:ksI L=ksI L') (h2:vsI L=vsI L'):L=L':=by
 have h3:(L.map fun p=>p.1)=L'.map fun p=>p.1:=aZ cF h1
 have h4:(L.map fun p=>p.2)=L'.map fun p=>p.2:=by
  have:(L.map fun p=>p.2).map (fun i=>V.x (.int .i64 i))=(L'.map fun p=>p.2).map (fun i=>V.x (.int .i64 i)):=by rw[ZT,ZT];exact h2
  refine aZ (fun a b e=>?_) this;cases e;rfl
 clear h1 h2
 induction L generalizing L' with
 | nil=>cases L' with
   |nil=>rfl
   |cons _ _=>cases h3
 | cons p L ih=>cases L' with
   |nil=>cases h3
   |cons q L'=>obtain⟨a1,a2⟩:=aag (show p.1::(L.map fun p=>p.1)=q.1::L'.map fun p=>p.1 from h3);obtain⟨b1,b2⟩:=aag (show p.2::(L.map fun p=>p.2)=q.2::L'.map fun p=>p.2 from h4);rw[ih a2 b2,Prod.ext a1 b1]
abbrev PL:=V×List CI×V×V
def SM (p:PL):V:= .ip [p.1,.fm (ksI p.2.1) (vsI p.2.1),p.2.2.1,p.2.2.2]
theorem Lc (p q:PL) (e:SM p=SM q):p=q:=by obtain⟨a,L,b,c⟩:=p;obtain⟨a',L',b',c'⟩:=q;simp only[SM,V.ip.injEq,Zb,V.fm.injEq,Z7] at e;obtain⟨rfl,⟨h1,h2⟩,rfl,rfl⟩:=e;rw[Lb h1 h2]
def qf (p:PL×C3):List V:=[SM p.1,aa p.2]
theorem Dl (p q:PL×C3) (e:qf p=qf q):p=q:=by obtain⟨h1,h2⟩:=aag e;exact Prod.ext (Lc _ _ h1) (cF _ _ (aag h2).1)
open Classical in
noncomputable def Hv (p:PL×C3):Option V:=if vj p.1.2.1 then some (.tup [.x (.int .i64 (dp p.1.2.1 p.2)),.x (.bool (cP p.1.2.1 p.2))]) else none
theorem Dm:cM 50 (FE qf Hv):=by
 refine aT (E:=bP [] [] [] (fun _=>false) (fun i=>i==3)) (k:=2) (bw _ _ _ _ _ trivial trivial trivial) A0a Tryz.func50 rfl (fun a w=>Tryz.call50 a w) Tryz.ntmps50 A0a A0c A0c ?_;intro us r hF hdat;obtain⟨⟨⟨c0,L,x0,y0⟩,ws,wc,wr⟩,hus,hG⟩:=bE hF;clear hF;subst hus;unfold Hv at hG;split at hG
 case isFalse=>cases hG
 rename_i hok;cases hG;clear hdat;refine⟨rfl,?_⟩;have hcx:aa (ws,wc,wr)= .agg [.x (.string ws),.x (.int .i64 wc),.x (.int .i64 wr)]:=rfl;have k1:=Hp (c:=(ws,wc,wr)) (OL (ksI L) (vsI L)) hok;rw[hcx] at k1;simp only[qf,SM,hcx];generalize ksI L=ks at k1⊢;generalize vsI L=vs at k1⊢;generalize dp L (ws,wc,wr)=z at k1⊢;generalize cP L (ws,wc,wr)=hb at k1⊢;simp +decide (maxDischargeDepth:=200) only[go_sem,Nat.reduceBEq];refine Hu [(0,0,3,.ptr 3 0),(0,0,4,.x (.int .i64 0)),(0,0,5,.x (.bool false)),(0,0,0,.ip [c0,.fm ks vs,x0,y0]),(1,0,11,.ip [c0,.fm ks vs,x0,y0]),(2,0,12,.ip [c0,.fm ks vs,x0,y0]),(4,0,13,.ip [.fm ks vs,x0,y0]),(8,0,14,.fm ks vs),(16,0,15,.agg [.x (.string ws),.x (.int .i64 wc),.x (.int .i64 wr)]),(32,0,16,.tup [.x (.int .i64 z),.x (.bool hb)]),(64,0,10,.tup [.x (.int .i64 z),.x (.bool hb)]),(128,0,17,.x (.int .i64 z)),(256,0,18,.x (.bool hb)),(512,0,6,.x (.int .i64 z)),(1024,0,7,.x (.bool hb))] [(3,[.x (.string ws),.x (.int .i64 wc),.x (.int .i64 wr)])] [(0,0,1),(0,4,16),(1,1,3),(1,4,17),(16,0,17),(3,2,7),(3,4,19),(17,1,19),(7,3,15),(7,4,23),(19,2,23),(15,4,31),(23,3,31),(31,5,63),(63,6,127),(127,7,255),(127,8,383),(255,8,511),(255,9,767),(383,7,511),(511,9,1023),(767,8,1023),(1023,10,2047)] 2047 A0a A0a ?_ ?_ ?_
 . simp +decide (maxDischargeDepth:=200) only[go_sem,Nat.reduceBEq]
 . simp +decide (maxDischargeDepth:=200) only[go_sem,Nat.reduceBEq,k1]
 . simp +decide (maxDischargeDepth:=200) only[go_sem,Nat.reduceBEq]
def zC:List V:=[.x (.string ⟨#[]⟩),.x (.int .i64 0),.x (.int .i64 0)]
abbrev aq (i:Int):V:= .x (.int .i64 i)
def ji (C:List C3) (i:Int):C3:=(C[i.toNat]?).getD (⟨#[]⟩,0,0)
def Ea (L:List C3) (i:Nat):List V:=((L.take i).map aa).flatMap V.cells++(List.replicate (L.length-i) zC).flatten
theorem y6 (c:C3):(aa c).cells.length=3:=rfl
theorem qg (L:List C3):((L.map aa).flatMap V.cells).length=L.length*3:=by
 induction L with
 |nil=>rfl
 |cons c L ih=>rw[Y0,ZG,YD,ih,y6,YI];omega
theorem Dn (k:Nat):(List.replicate k zC).flatten.length=k*3:=by
 induction k with
 |zero=>rfl
 |succ k ih=>rw[List.replicate_succ,List.flatten_cons,YD,ih];show 3+_=_;omega
theorem Xv (L:List C3):Ea L 0=(List.replicate L.length zC).flatten:=rfl
theorem N0 (L:List C3) {i:Nat} (hi:i<=L.length):(Ea L i).length=L.length*3:=by unfold Ea;rw[YD,qg,Dn,YQ,aae hi];omega
theorem N2 {L:List C3} {i:Nat} (h:L[i]?=some c):(Ea L i).take (i*3)++[.x (.string c.1),.x (.int .i64 c.2.1),.x (.int .i64 c.2.2)]++(Ea L i).drop (i*3+(1+1+1))=Ea L (i+1):=by
 have hi:i<L.length:=(iO.1 h).1;have hl:(((L.take i).map aa).flatMap V.cells).length=i*3:=by rw[qg,YQ,aae A0b]
 obtain⟨k,hk⟩:∃k,L.length-i=k+1:=⟨L.length-i-1,A0b⟩;have hk2:L.length-(i+1)=k:=A0b
 unfold Ea;rw[hk,hk2,Zx A0b,YS A0b,aF h,Y4,List.flatMap_append,Zw,Zw];congr 1;rw[List.drop_append,List.drop_of_length_le A0b,hl,aak,List.replicate_succ,List.flatten_cons];congr 1;have e:i*3+(1+1+1)-i*3=3:=A0b
 rw[e];rfl
theorem Ld (L:List C3):Ea L L.length=(L.map aa).flatMap V.cells:=by unfold Ea;rw[YS (YJ _),abC];simp
theorem N3 (L:List C3):((L.map aa).flatMap V.cells).all V.dat=true∧((L.map aa).flatMap V.cells).all V.cell=true:=by
 induction L with
 |nil=>exact⟨rfl,rfl⟩
 |cons c L ih=>rw[Y0,ZG,List.all_append,List.all_append,ih.1,ih.2];exact⟨rfl,rfl⟩
theorem Lf (L:List C3):qC 3 L.length ((L.map aa).flatMap V.cells)=L.map aa:=by
 rw[po]
 induction L with
 |nil=>rfl
 |cons c L ih=>rw[Y0,ZG,YI];unfold dQ;rw[YL A0c];have h1:((aa c).cells++(L.map aa).flatMap V.cells).take 3=(aa c).cells:=List.take_left' (y6 c);have h2:((aa c).cells++(L.map aa).flatMap V.cells).drop 3=(L.map aa).flatMap V.cells:=List.drop_left' (y6 c);rw[h1,h2,ih];rfl
theorem mF (a b:Int) (e:aq a=aq b):a=b:=by cases e;rfl
abbrev CA:=(List C3×V×V×V)×Bool×Nat×List Int
def oo (p:CA):List V:=[.ip [.sl false 3 (p.1.1.map aa) none,p.1.2.1,p.1.2.2.1,p.1.2.2.2],.sl p.2.1 p.2.2.1 (p.2.2.2.map aq) none]
theorem Do (p q:CA) (e:oo p=oo q):p=q:=by obtain⟨⟨a,b,c,d⟩,f,g,h⟩:=p;obtain⟨⟨a',b',c',d'⟩,f',g',h'⟩:=q;simp only[oo,Zb,V.ip.injEq,V.sl.injEq,Z7,aaU] at e;obtain⟨⟨h1,rfl,rfl,rfl⟩,rfl,rfl,h2⟩:=e;rw[aZ cF h1,aZ mF h2]
def Xw (p:CA):Prop:=(p.2.2.2≠[]->p.2.2.1=1)∧p.2.2.2.length<=100000000∧∀i∈p.2.2.2,0<=i∧i.toNat<p.1.1.length
open Classical in
noncomputable def SN (p:CA):Option V:=if Xw p then some (.sl false 3 ((p.2.2.2.map (ji p.1.1)).map aa) none) else none
theorem vq:cM 51 (FE oo SN):=by
 refine aT (E:=ft [] [] [] (fun d=>d==10) (fun _=>false) (fun d=>d==29) (fun _=>false)) (k:=2) (Am _ _ _ _ _ _ _ trivial trivial trivial) A0a Tryz.func51 rfl (fun a w=>Tryz.call51 a w) Tryz.ntmps51 A0a A0c A0c ?_;intro us r hF hdat;obtain⟨⟨⟨C,m0,x0,y0⟩,nl,sz,is⟩,hus,hG⟩:=bE hF;clear hF;subst hus;unfold SN at hG;split at hG
 case isFalse=>cases hG
 rename_i hok;cases hG;clear hdat;refine⟨rfl,?_⟩;obtain⟨hsz,hlen,hin⟩:=hok;simp only at hsz hlen hin;simp only[oo];obtain⟨L,hL⟩:∃L,L=is.map (ji C):=⟨_,rfl⟩;have hll:is.length=L.length:=by rw[hL,eq]
 rw[<-hL];have b0:(List.replicate L.length [V.x (.string ⟨#[]⟩),V.x (.int .i64 0),V.x (.int .i64 0)]).flatten=Ea L 0:=(Xv L).symm;have c0:(0:Int)<=(L.length:Int):=A0b
 have c5:(16*2:Int)*(L.length:Int)<=281474976710656:=A0b
 have c6:(L.length:Int)<=9223372036854775807:=A0b
 have c7:((32:Nat):Int)*(L.length:Int)<=281474976710656:=A0b
 simp +decide (maxDischargeDepth:=200) only[go_sem,Nat.reduceBEq,tl,eq,hll,c0,c6,c7,b0];refine bc (X:={i:Nat//i<=L.length}) (fun i=>[(0,.ip [.sl false 3 (C.map aa) none,m0,x0,y0]),(5,.row 10 3 L.length),(11,.sl nl sz (is.map aq) none),(12,.x (.int .i64 (L.length:Int))),(13,.x (.int .i64 ((i.1:Nat):Int)))]) (fun i=>[(10,Ea L i.1)]) (fun i=>L.length-i.1) ⟨0,Zf _⟩ A02 A0e (fun⟨i,hi0⟩=>?_);simp only at hi0⊢;by_cases hi:i<L.length
 . have c1:decide ((i:Int)<(L.length:Int))=true:=Yz A0b;have c1':(i:Int)<(L.length:Int):=A0b
   have c2:(0:Int)<=(i:Int):=A0b
   have c4:=aD (i:=i) A0b;have hi2:i<is.length:=A0b
   have q1:is[i]?=some is[i]:=io hi2;have q2:(is.map aq)[i]?=some (aq is[i]):=by rw[Io,q1];rfl
   obtain rfl:=hsz (fun h=>by rw[h] at hi2;simp at hi2);obtain⟨p1,p2⟩:=hin is[i] (Y5 hi2);have q3:L[i]?=some (ji C is[i]):=by rw[hL,Io,q1];rfl
   have q4:(C.map aa)[(is[i]).toNat]?=some (aa (ji C is[i])):=by unfold ji;rw[Io,io p2];rfl
   have b1:=N2 q3;have b2:i*3+(1+1+1)<=(Ea L i).length:=by rw[N0 L A0b];omega
   generalize is[i]=j at q2 q4 b1 p1;generalize ji C j=c at q4 b1;obtain⟨cs,cc,cr⟩:=c;simp only[bJ] at q4 b1;simp +decide (maxDischargeDepth:=200) only[go_sem,Nat.reduceBEq,tl,eq,c1,c1',c2,c4,q2,q4,p1,b1,b2];refine⟨⟨i+1,hi⟩,?_,?_,?_⟩
   . simp +decide (maxDischargeDepth:=200) only[go_sem,Nat.reduceBEq,tl]
   . simp +decide (maxDischargeDepth:=200) only[go_sem,Nat.reduceBEq,tl]
   . simp only;omega
 . have c1:decide ((i:Int)<(L.length:Int))=false:=YA A0b;have e:i=L.length:=A0b
   subst e;obtain⟨d1,d2⟩:=N3 L;have d3:=Lf L;have d4:=Ld L;simp +decide (maxDischargeDepth:=200) only[go_sem,Nat.reduceBEq,tl,eq,c1,d4,d1,d2,d3]
abbrev PD:=List C3×List (List Int)×List (List Int)
def SO (r:List Int):Nat:=if r.isEmpty then 0 else 1
def rI (r:List Int):V:= .sl r.isEmpty (SO r) (r.map aq) none
def plI:Nat->List C3->List CI
 |_,[]=>[]
 |k,c::C=>(c,((k:Nat):Int))::plI (k+1) C
def vr (p:PD):V:= .ip [.sl false 3 (p.1.map aa) none,.fm (ksI (plI 0 p.1)) (vsI (plI 0 p.1)),.sl false 1 (p.2.1.map rI) none,.sl false 1 (p.2.2.map rI) none]
theorem rH (a b:List Int) (e:rI a=rI b):a=b:=by simp only[rI,V.sl.injEq,Z7] at e;exact aZ mF e.2.2
theorem AR (p q:PD) (e:vr p=vr q):p=q:=by obtain⟨a,b,c⟩:=p;obtain⟨a',b',c'⟩:=q;simp only[vr,V.ip.injEq,Zb,V.sl.injEq,Z7,aaU] at e;obtain⟨h1,_,h2,h3⟩:=e;rw[aZ cF h1,aZ rH h2,aZ rH h3]
theorem mG:∀(C:List C3) (k:Nat),(plI k C).map (fun p=>p.1)=C
 |[],_=>rfl
 |c::C,k=>by show c::(plI (k+1) C).map _=_;rw[mG C (k+1)]
variable {C:List C3}
theorem y7 (h:C.Nodup) (k:Nat):vj (plI k C):=by unfold vj;rw[mG];exact h
theorem rJ (C:List C3) (k:Nat) (c:C3):cP (plI k C) c=jW c C:=by unfold cP;rw[mG]
theorem qh:∀{C:List C3} {c:C3} {i k:Nat},C.Nodup->C[i]?=some c->dp (plI k C) c=((k+i:Nat):Int)
 |[],c,i,k,_,h=>by simp at h
 |d::C,c,0,k,hn,h=>by simp only[aaF,Y8] at h;unfold plI dp;rw[YG (show eI c (d,((k:Nat):Int)).1=true from Yz h.symm),ZE]
 |d::C,c,i+1,k,hn,h=>by simp only[aaf] at h;have hn:=Zj.1 hn;unfold plI dp;rw[YL (show¬eI c (d,((k:Nat):Int)).1=true from fun e=>hn.1 (by rw[<-show c=d from Y9 e];exact YB h)),qh (k:=k+1) hn.2 h];congr 1;omega
def Dp (p:PD):Prop:=p.1.Nodup∧p.1.length<=400∧p.2.1.length=p.1.length∧p.2.2.length=p.1.length∧(∀r∈p.2.1,r.length<=100000000∧∀i∈r,0<=i∧i.toNat<p.1.length)∧∀r∈p.2.2,r.length<=100000000∧∀i∈r,0<=i∧i.toNat<p.1.length
def ma (p:PD):List V:=[vr p]
theorem Dq (p q:PD) (e:ma p=ma q):p=q:=AR _ _ (aag e).1
def mb (p:PD×C3):List V:=[vr p.1,aa p.2]
theorem Dr (p q:PD×C3) (e:mb p=mb q):p=q:=by obtain⟨h1,h2⟩:=aag e;exact Prod.ext (AR _ _ h1) (cF _ _ (aag h2).1)
def Lg (C:List C3) (R:List (List Int)) (c:C3):V:=if jW c C=true then .sl false 3 ((((R[(dp (plI 0 C) c).toNat]?).getD []).map (ji C)).map aa) none else .sl true 0 [] none
open Classical in
noncomputable def SP (p:PD×C3):Option V:=if Dp p.1 then some (Lg p.1.1 p.1.2.1 p.2) else none
open Classical in
noncomputable def SQ (p:PD):Option V:=if Dp p then some (.sl false 3 (p.1.map aa) none) else none
theorem Hw {p:PD} (h:Dp p) (c:C3):FE qf Hv [vr p,aa c]=some (.tup [.x (.int .i64 (dp (plI 0 p.1) c)),.x (.bool (jW c p.1))]):=by have e:=cq Dl Hv ((.sl false 3 (p.1.map aa) none,plI 0 p.1,.sl false 1 (p.2.1.map rI) none,.sl false 1 (p.2.2.map rI) none),c);rw[<-rJ p.1 0 c];exact e.trans (YG (y7 h.1 0))
theorem rK (h:jW c C=true):∃i:Nat,C[i]?=some c:=by unfold jW at h;obtain⟨x,hx,e⟩:=Z2.1 h;obtain⟨i,hi⟩:=ZW hx;exact⟨i,by rw[hi,Y9 e]⟩
theorem N4 {x y:V} {r:List Int} (h1:r.length<=100000000) (h2:∀i∈r,0<=i∧i.toNat<C.length):FE oo SN [.ip [.sl false 3 (C.map aa) none,m,x,y],rI r]=some (.sl false 3 ((r.map (ji C)).map aa) none):=by
 have e:=cq Do SN ((C,m,x,y),r.isEmpty,SO r,r);refine e.trans (YG ⟨fun hn=>?_,h1,h2⟩);unfold SO;cases r with
 |nil=>exact absurd rfl hn
 |cons a r=>rfl
theorem y8:cM 34 (FE mb SP):=by
 refine aT (E:=ba [(50,FE qf Hv),(51,FE oo SN)]) (k:=2) (bV _ ⟨Dm,vq,trivial⟩) A0a Tryz.func34 rfl (fun a w=>Tryz.call34 a w) Tryz.ntmps34 A0a A0c A0c ?_;intro us r hF hdat;obtain⟨⟨⟨C,R,S⟩,ws,wc,wr⟩,hus,hG⟩:=bE hF;clear hF;subst hus;unfold SP at hG;split at hG
 case isFalse=>cases hG
 rename_i hok;cases hG;clear hdat;refine⟨rfl,?_⟩;have k1:=Hw hok (ws,wc,wr);obtain⟨hn,h4,hR,hS,hrr,hss⟩:=hok;simp only at hn h4 hR hS hrr hss k1;have hcx:aa (ws,wc,wr)= .agg [.x (.string ws),.x (.int .i64 wc),.x (.int .i64 wr)]:=rfl;simp only[mb,Lg];rw[hcx] at k1⊢;cases hb:jW (ws,wc,wr) C with
 |false=>rw[hb] at k1;rw[YL A0c];simp only[vr] at k1⊢;simp +decide (maxDischargeDepth:=200) only[go_sem,Nat.reduceBEq,tl,k1]
 | true=>
   rw[hb] at k1;rw[YG rfl];obtain⟨i,hi⟩:=rK hb;have hz:=qh (k:=0) hn hi;rw[YC] at hz;rw[hz] at k1⊢;have hil:=(iO.1 hi).1;have hi2:i<R.length:=A0b
   have q1:R[i]?=some R[i]:=io hi2;have q2:(R.map rI)[i]?=some (rI R[i]):=by rw[Io,q1];rfl
   obtain⟨r1,r2⟩:=hrr R[i] (Y5 hi2);have c2:(0:Int)<=(i:Int):=A0b
   have k2:=N4 (m:= .fm (ksI (plI 0 C)) (vsI (plI 0 C))) (x:= .sl false 1 (R.map rI) none) (y:= .sl false 1 (S.map rI) none) r1 r2;rw[tl,q1,Z1];generalize R[i]=r at q2 k2⊢;simp only[vr] at k1⊢;simp only[rI] at k2 q2;simp +decide (maxDischargeDepth:=200) only[go_sem,Nat.reduceBEq,tl,k1,c2,q2,k2]
theorem AS {el n by':Nat} {z:List V} (h1:bm E.P el=some n) (hby:bT E.P el=some by') (hz:ay E.P el=some z) (h4:n≠0) (h5:z.length=n)
 {es es':List V} {m:Nat} (hm:es'≠[]->m=n) (hc:(es'.all fun u=>u.cells.all V.cell)=true) (hb:(es.length+es'.length)*by'<=140737488355328) (hl:es.length+es'.length<=9223372036854775807) (st:St) (d tok:Nat) (nl:Bool) (t':Option Nat):
 bq E st (some d) el (.sl false n es (some tok)) (.sl nl m es' t')=some ⟨upd (strip tok (strip d st.t)) d (.sl false n (es++es') (some d)),aB E tok (aB E d st.b)⟩:=by
 unfold bq;simp only[h1,hby,hz];rw[YG ⟨h4,h5,trivial,by
  by_cases h:es'=[]
  . exact .inr h
  . exact .inl (hm h),hc,hb,hl⟩]
theorem vt (C:List C3):((C.map aa).all fun u=>u.cells.all V.cell)=true:=YK.2 fun u hu=>by obtain⟨c,_,rfl⟩:=YR.1 hu;rfl
def oq (C:List C3):List V:=[.sl false 3 (C.map aa) none]
theorem Ds (p q:List C3) (e:oq p=oq q):p=q:=by simp only[oq,Zb,V.sl.injEq,Z7,aaU] at e;exact aZ cF e
open Classical in
noncomputable def SR (C:List C3):Option V:=if C.length<=1000000 then some (.sl false 3 (C.map aa) none) else none
theorem y9:cM 49 (FE oq SR):=by
 refine aT (E:=bP [] [] [] (fun d=>d==5) (fun _=>false)) (k:=1) (bw _ _ _ _ _ trivial trivial trivial) A0a Tryz.func49 rfl (fun a w=>Tryz.call49 a w) Tryz.ntmps49 A0a A0c A0c ?_;intro us r hF hdat;obtain⟨C,hus,hG⟩:=bE hF;clear hF;subst hus;unfold SR at hG;split at hG
 case isFalse=>cases hG
 rename_i hok;cases hG;clear hdat;refine⟨rfl,?_⟩;simp only[oq];have gg:=AS (E:=bP [] [] [] (fun d=>d==5) (fun _=>false)) (el:=37) (n:=3) ns nt nu A0c rfl (es:=[]) (es':=C.map aa) (m:=3) (fun _=>rfl) (vt C) (by simp only[eq,Zd];omega) (by simp only[eq,Zd];omega);simp only[aak] at gg;simp +decide (maxDischargeDepth:=200) only[go_sem,Nat.reduceBEq,gg]
theorem za:cM 33 (FE ma SQ):=by
 refine aT (E:=ba [(49,FE oq SR)]) (k:=1) (bV _ ⟨y9,trivial⟩) A0a Tryz.func33 rfl (fun a w=>Tryz.call33 a w) Tryz.ntmps33 A0a A0c A0c ?_;intro us r hF hdat;obtain⟨⟨C,R,S⟩,hus,hG⟩:=bE hF;clear hF;subst hus;unfold SQ at hG;split at hG
 case isFalse=>cases hG
 rename_i hok;cases hG;clear hdat;refine⟨rfl,?_⟩;obtain⟨_,h4,_⟩:=hok;simp only at h4;have k1:FE oq SR [.sl false 3 (C.map aa) none]=some (.sl false 3 (C.map aa) none):=(cq Ds SR C).trans (YG A0b);simp only[ma,vr];simp +decide (maxDischargeDepth:=200) only[go_sem,Nat.reduceBEq,k1]
end Go.Proofs.YtmfojhkjbkombaaGreat
