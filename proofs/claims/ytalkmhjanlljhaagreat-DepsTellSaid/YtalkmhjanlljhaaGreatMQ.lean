/- Maps whose keys are cells: what the run's words about them come to. -/
import Derived.Test.YtalkmhjanlljhaaGreatML
import Derived.Test.YtalkmhjanlljhaaGreatMD
namespace Go.Proofs.YtalkmhjanlljhaaGreat
set_option linter.unusedSimpArgs false
set_option maxHeartbeats 16000000
set_option maxRecDepth 100000
open Go Go.RowKit
attribute [go_sem] Tryz.results12 Tryz.results14 Tryz.results16 Tryz.results25 Tryz.results27 Tryz.results31 Tryz.results32 Tryz.results33
def gN (c:C3) (L:List C3):Bool:=L.any fun p=>dD c p
theorem uv (a b:C3):qk Tryz.prog 20 24 (aa a) (aa b)=some (dD a b):=by obtain⟨s,c,r⟩:=a;obtain⟨s',c',r'⟩:=b;rw[<-HV];simp +decide only[go_sem,bg]
theorem eE (a:C3):dU Tryz.prog 24 (aa a)=true:=by obtain⟨s,c,r⟩:=a;unfold dU;simp +decide [go_sem,bg,plainK,mX,dm]
theorem mO {c:C3}:∀(L:List C3) (i:Nat),gN c L=false->gm Tryz.prog 24 (aa c) (L.map aa) i=some none
 |[],_,_=>rfl
 | p::L,i,h=>by
   have h1:(dD c p||gN c L)=false:=h;rw[Bool.or_eq_false_iff] at h1
   show(match qk Tryz.prog 20 24 (aa c) (aa p) with
    |some true=>some (some i)
    |some false=>gm Tryz.prog 24 (aa c) (L.map aa) (i+1)
    |none=>none)=_
   rw[uv,h1.1];exact mO L (i+1) h1.2
theorem mP {c:C3}:∀(L:List C3) (i:Nat),gN c L=true->∃j,gm Tryz.prog 24 (aa c) (L.map aa) i=some (some (i+j))∧L[j]?=some c
 |[],_,h=>by cases h
 | p::L,i,h=>by
   have h1:(dD c p||gN c L)=true:=h
   have e:gm Tryz.prog 24 (aa c) ((p::L).map aa) i=(match qk Tryz.prog 20 24 (aa c) (aa p) with
    |some true=>some (some i)
    |some false=>gm Tryz.prog 24 (aa c) (L.map aa) (i+1)
    |none=>none):=rfl
   rw[e,uv];cases hq:dD c p with
   |true=>exact⟨0,rfl,by rw[Vw hq];rfl⟩
   |false=>rw[hq] at h1;obtain⟨j,h2,h3⟩:=mP L (i+1) h1;exact⟨j+1,by show gm _ _ _ _ _=_;rw[h2];congr 2;omega,h3⟩
abbrev CI:=C3×Int
def ksI (L:List CI):List V:=(L.map fun p=>p.1).map aa
def vsI (L:List CI):List V:=L.map fun p=> .x (.int .i64 p.2)
def cB (L:List CI) (c:C3):Bool:=gN c (L.map fun p=>p.1)
def cz:List CI->C3->Int
 |[],_=>0
 |p::L,c=>if dD c p.1=true then p.2 else cz L c
def rx (L:List CI):Prop:=(L.map fun p=>p.1).Nodup
def fT (L:List CI) (c:C3) (i:Int):List CI:=if cB L c=true then L.map (fun p=>if dD c p.1=true then (p.1,i) else p) else L++[(c,i)]
variable {L:List CI} {c:C3}
theorem cZ:cB L c=true↔c∈L.map fun p=>p.1:=by
 unfold cB gN;rw[Wp];constructor
 . rintro⟨x,hx,e⟩;rw[Vw e];exact hx
 . exact fun h=>⟨c,h,iO rfl⟩
theorem rf (h:cB L c=false):cz L c=0:=by
 induction L with
 |nil=>rfl
 |cons p L ih=>have h1:(dD c p.1||cB L c)=false:=h;rw[Bool.or_eq_false_iff] at h1;unfold cz;rw[h1.1,Vh (by decide)];exact ih h1.2
theorem zw {j:Nat} (h:(L.map fun p=>p.1)[j]?=some c) (hn:rx L):(vsI L)[j]?=some (.x (.int .i64 (cz L c))):=by
 unfold rx at hn
 induction L generalizing j with
 |nil=>simp at h
 | cons p L ih=>
   rw[VC,VL] at hn;cases j with
   |zero=>simp only[VC,WQ,Vu] at h;unfold cz;rw[Va (show dD c p.1=true from iO h.symm)];rfl
   | succ j=>
     simp only[VC,Wu] at h;have hne: ¬dD c p.1=true:=fun e=>hn.1 (by rw[<-Vw e];exact Vd h)
     unfold cz;rw[Vh hne];exact ih h hn.2
theorem uw (L:List CI) (c:C3) (i:Int):(L.map fun p=>if dD c p.1=true then (p.1,i) else p).map (fun p=>p.1)=L.map fun p=>p.1:=by rw[Wk];refine Wv (fun p _=>?_);simp only[Function.comp];split<;>rfl
theorem Ix (h:rx L) (c:C3) (i:Int):rx (fT L c i):=by
 unfold fT;by_cases hp:cB L c=true
 . rw[Va hp];unfold rx at h⊢;rw[uw];exact h
 . rw[Vh hp];unfold rx at h⊢;rw[Vy,Wy];refine⟨h,by simp,fun a ha b hb e=>?_⟩;have hb:b=c:=by simpa using hb
   subst hb;exact hp (cZ.2 (e▸ha))
theorem Fs {c:C3} {i:Int}:∀{L:List CI} {j:Nat},rx L->(L.map fun p=>p.1)[j]?=some c->(L.map fun p=>if dD c p.1=true then (p.1,i) else p).map (fun p=>V.x (.int .i64 p.2))=(vsI L).set j (.x (.int .i64 i))
 |[],j,_,h=>by simp at h
 | p::L,0,hn,h=>by
   simp only[VC,WQ,Vu] at h;have hn:=VL.1 (show(p.1::L.map fun p=>p.1).Nodup from hn);have e:(L.map fun p=>if dD c p.1=true then (p.1,i) else p)=L:=by
    have:∀q∈L,(if dD c q.1=true then (q.1,i) else q)=q:=fun q hq=>by rw[Vh];intro e;exact hn.1 (by rw[h,Vw e];exact U7.2 ⟨q,hq,rfl⟩)
    rw[Wv this,List.map_id']
   simp only[VC,vsI,List.set_cons_zero];rw[Va (show dD c p.1=true from iO h.symm),e]
 | p::L,j+1,hn,h=>by
   simp only[VC,Wu] at h;have hn:=VL.1 (show(p.1::L.map fun p=>p.1).Nodup from hn);have hne: ¬dD c p.1=true:=fun e=>hn.1 (by rw[<-Vw e];exact Vd h)
   simp only[VC,vsI,List.set_cons_succ];rw[Vh hne,Fs (L:=L) hn.2 h];rfl
variable {m:V}
theorem Iy (hm:m.kv=some (ksI L,vsI L)) (hL:rx L):fE Tryz.prog 55 m (aa c) false=some (.x (.int .i64 (cz L c))):=by
 unfold fE;rw[Tryz.underlying55,hm];cases h:cB L c with
 |true=>obtain⟨j,h1,h2⟩:=mP (c:=c) (L.map fun p=>p.1) 0 (show gN c (L.map fun p=>p.1)=true from h);have h3:=zw h2 hL;rw[Vt] at h1;simp only[eE,Vi,ksI,h1,h3];rfl
 |false=>simp only[eE,Vi,ksI,mO (c:=c) (L.map fun p=>p.1) 0 (show gN c (L.map fun p=>p.1)=false from h),QY,rf h];rfl
theorem ux (hm:m.kv=some (ksI L,vsI L)) (hL:rx L):fE Tryz.prog 55 m (aa c) true=some (.tup [.x (.int .i64 (cz L c)),.x (.bool (cB L c))]):=by
 unfold fE;rw[Tryz.underlying55,hm];cases h:cB L c with
 |true=>obtain⟨j,h1,h2⟩:=mP (c:=c) (L.map fun p=>p.1) 0 (show gN c (L.map fun p=>p.1)=true from h);have h3:=zw h2 hL;rw[Vt] at h1;simp only[eE,Vi,ksI,h1,h3];rfl
 |false=>simp only[eE,Vi,ksI,mO (c:=c) (L.map fun p=>p.1) 0 (show gN c (L.map fun p=>p.1)=false from h),QY,rf h];rfl
theorem Qs {i:Int} (hL:rx L):kx Tryz.prog 55 (ksI L) (vsI L) (aa c) (.x (.int .i64 i))=some (ksI (fT L c i),vsI (fT L c i)):=by
 unfold kx;rw[Tryz.underlying55];cases h:cB L c with
 | true=>
   obtain⟨j,h1,h2⟩:=mP (c:=c) (L.map fun p=>p.1) 0 (show gN c (L.map fun p=>p.1)=true from h);rw[Vt] at h1;have h3:((L.map fun p=>p.1).map aa)[j]?=some (aa c):=by rw[U5,h2];rfl
   have e:fT L c i=L.map (fun p=>if dD c p.1=true then (p.1,i) else p):=Va h;simp only[eE,ksI,h1,h3];rw[Va ⟨trivial,rfl⟩,Va trivial,e,uw];unfold vsI;rw[Fs hL h2];rfl
 |false=>have e:fT L c i=L++[(c,i)]:=Vh (by rw[h];decide);simp only[ksI,eE,mO (c:=c) (L.map fun p=>p.1) 0 (show gN c (L.map fun p=>p.1)=false from h)];rw[Va ⟨trivial,rfl⟩,e];simp[vsI]
def jQ:Nat->List En->List CI->List CI
 |_,[],M=>M
 |k,e::l,M=>jQ (k+1) l (fT M e.1 k)
theorem eF:∀(k:Nat) (l:List En) (M:List CI) (e:En),jQ k (l++[e]) M=fT (jQ k l M) e.1 ((k+l.length:Nat):Int)
 |_,[],_,_=>rfl
 |k,a::l,M,e=>by show jQ (k+1) (l++[e]) _=_;rw[eF (k+1) l _ e];show _=fT (jQ (k+1) l _) e.1 _;congr 2;rw[U3];omega
theorem uy:∀(l:List En) (k:Nat) (M:List CI),rx M->rx (jQ k l M)
 |[],_,_,h=>h
 |_::l,k,_,h=>uy l (k+1) _ (Ix h _ _)
def aj (l:List En):List CI:=jQ 0 l []
theorem jC (l:List En):rx (aj l):=uy l 0 [] VV
variable {l:List En}
theorem Ft:ksI (aj (List.take 0 l))=[]:=rfl
theorem Fu:vsI (aj (List.take 0 l))=[]:=rfl
theorem ot (e:En):∃M:List V,bK e= .agg (.x (.string e.1.1):: .x (.int .i64 e.1.2.1):: .x (.int .i64 e.1.2.2):: .x (.bool e.2.1)::M)∧M.length=16∧M.take 16=M∧M.all V.cell=true:=by refine⟨_,rfl,rfl,rfl,?_⟩;obtain⟨c,b,n,v⟩:=e;cases n<;>rfl
abbrev EL:=Bool×Nat×List En
def Iz (p:EL):V:= .sl p.1 p.2.1 (p.2.2.map bK) none
theorem IA (p q:EL) (e:Iz p=Iz q):p=q:=by obtain⟨a,b,c⟩:=p;obtain⟨d,f,g⟩:=q;simp only[Iz,V.sl.injEq,Wx] at e;obtain⟨rfl,rfl,h⟩:=e;rw[bu mH h]
def Fv (p:EL):Prop:=(p.2.2≠[]->p.2.1=20)∧p.2.2.length<=400
open Classical in
noncomputable def xE:List V->Option (List V×List V):=fun us=>if h:∃p:EL,us=[Iz p]∧Fv p then some (ksI (aj h.choose.2.2),vsI (aj h.choose.2.2)) else none
open Classical in
theorem IB {p:EL} (h:Fv p):xE [Iz p]=some (ksI (aj p.2.2),vsI (aj p.2.2)):=by have hh:∃q:EL,[Iz p]=[Iz q]∧Fv q:=⟨p,rfl,h⟩;unfold xE;rw[dif_pos hh];have e:=IA _ _ (VZ hh.choose_spec.1).1;rw[<-e]
open Classical in
theorem Fw {us ks vs:List V} (h:xE us=some (ks,vs)):∃p:EL,us=[Iz p]∧Fv p∧ks=ksI (aj p.2.2)∧vs=vsI (aj p.2.2):=by
 unfold xE at h;split at h
 case isFalse=>cases h
 rename_i hh;cases h;exact⟨hh.choose,hh.choose_spec.1,hh.choose_spec.2,rfl,rfl⟩
theorem xF:DD 25 xE:=by
 refine sG (E:=eQ [] [] [] (fun _=>false) (fun _=>false)) (k:=1) (kO _ _ _ _ _ trivial trivial trivial) (by kernel_rfl) Tryz.func25 rfl (fun a w=>Tryz.call25 a w) Tryz.ntmps25 Tryz.results25 (by kernel_rfl) (by decide) (by decide) ?_;intro us ks rs hF hdat;obtain⟨⟨nl,sz,l⟩,hus,hok,hks,hrs⟩:=Fw hF;clear hF;subst hus hks hrs;obtain⟨hsz,hlen⟩:=hok;simp only at hsz hlen;clear hdat;refine⟨rfl,?_⟩;simp only[Iz];simp +decide (maxDischargeDepth:=200) only[go_sem,Nat.reduceBEq,eq];refine aI (X:={i:Nat//i<=l.length}) (fun i=>[(7,.sl nl sz (l.map bK) none),(8,.x (.int .i64 (l.length:Int))),(9,.x (.int .i64 ((i.1:Nat):Int))),(3,.mp 6 (ksI (aj (l.take i.1))) (vsI (aj (l.take i.1))))]) (fun _=>[]) (fun i=>l.length-i.1) ⟨0,VJ _⟩ (by simp +decide only[go_sem,VO,Ft,Fu]<;>(repeat' first|rfl|constructor)) (by simp +decide only[go_sem]<;>(repeat' first|rfl|constructor)) (fun⟨i,hi0⟩=>?_);simp only at hi0⊢;by_cases hi:i<l.length
 . have c1:decide ((i:Int)<(l.length:Int))=true:=iO (by omega);have c2:(0:Int)<=(i:Int):=by omega
   have c4:=aF (i:=i) (by omega);have q1:l[i]?=some l[i]:=io hi;have q2:(l.map bK)[((i:Nat):Int).toNat]?=some (bK l[i]):=by rw[U2,U5,q1];rfl
   obtain rfl:=hsz (fun h=>by rw[h] at hi;simp at hi);have hL:=jC (l.take i);have e:aj (l.take (i+1))=fT (aj (l.take i)) (l[i]).1 ((i:Nat):Int):=by unfold aj;rw[aS q1,eF,Vj,Vt,WR (by omega)]
   have k1:=Qs (c:=(l[i]).1) (i:=((i:Nat):Int)) hL;rw[<-e] at k1;obtain⟨N,hN,lN,tN,aN⟩:=ot l[i];rw[hN] at q2;have hcs:aa (l[i]).1= .agg [.x (.string (l[i]).1.1),.x (.int .i64 (l[i]).1.2.1),.x (.int .i64 (l[i]).1.2.2)]:=rfl;rw[hcs] at k1;generalize ksI (aj (l.take i))=ks0 at k1⊢;generalize vsI (aj (l.take i))=vs0 at k1⊢;generalize hk1:ksI (aj (l.take (i+1)))=ks1 at k1⊢;generalize hv1:vsI (aj (l.take (i+1)))=vs1 at k1⊢;generalize (l[i]).1.1=ps at k1 q2;generalize (l[i]).1.2.1=pc at k1 q2;generalize (l[i]).1.2.2=pr at k1 q2;simp +decide (maxDischargeDepth:=200) only[go_sem,Nat.reduceBEq,eq,U3,lN,tN,aN,c1,c2,c4,q2,k1];refine⟨⟨i+1,hi⟩,?_,?_,?_⟩
   . simp +decide (maxDischargeDepth:=200) only[go_sem,Nat.reduceBEq,hk1,hv1]
   . simp +decide (maxDischargeDepth:=200) only[go_sem,Nat.reduceBEq]
   . simp only;omega
 . have c1:decide ((i:Int)<(l.length:Int))=false:=tl (by omega);have e:l.take i=l:=Vp (by omega);rw[e];simp +decide (maxDischargeDepth:=200) only[go_sem,Nat.reduceBEq,eq,c1]
variable {E:Env}
theorem uz {ops:List Oper} {st:St} {K:St->Prop} (ents:List (Nat×Nat×Nat×V)) (bs:List (Nat×List V)) (ps:List (Nat×Nat×Nat)) (full:Nat) (hf:2^ops.length-1=full) (h:iA ops ps=true) (h0:gY st (ii ents 0)∧gE st bs) (ht:ta E ops ents bs ps)
 (hk:K (aq (ii ents full) bs)):An E ops st K:=qM ents bs ps h h0 ht (hf▸hk)
theorem IC {L':List CI} (h1:ksI L=ksI L') (h2:vsI L=vsI L'):L=L':=by
 have h3:(L.map fun p=>p.1)=L'.map fun p=>p.1:=bu bZ h1
 have h4:(L.map fun p=>p.2)=L'.map fun p=>p.2:=by
  have:(L.map fun p=>p.2).map (fun i=>V.x (.int .i64 i))=(L'.map fun p=>p.2).map (fun i=>V.x (.int .i64 i)):=by rw[Wk,Wk];exact h2
  refine bu (fun a b e=>?_) this;cases e;rfl
 clear h1 h2
 induction L generalizing L' with
 | nil=>cases L' with
   |nil=>rfl
   |cons _ _=>cases h3
 | cons p L ih=>cases L' with
   |nil=>cases h3
   |cons q L'=>obtain⟨a1,a2⟩:=VZ (show p.1::(L.map fun p=>p.1)=q.1::L'.map fun p=>p.1 from h3);obtain⟨b1,b2⟩:=VZ (show p.2::(L.map fun p=>p.2)=q.2::L'.map fun p=>p.2 from h4);rw[ih a2 b2,Prod.ext a1 b1]
abbrev PL:=V×List CI×V×V
def Lj (p:PL):V:= .ip [p.1,.fm (ksI p.2.1) (vsI p.2.1),p.2.2.1,p.2.2.2]
theorem zx (p q:PL) (e:Lj p=Lj q):p=q:=by obtain⟨a,L,b,c⟩:=p;obtain⟨a',L',b',c'⟩:=q;simp only[Lj,V.ip.injEq,VE,V.fm.injEq,Wx] at e;obtain⟨rfl,⟨h1,h2⟩,rfl,rfl⟩:=e;rw[IC h1 h2]
def gi (p:PL×C3):List V:=[Lj p.1,aa p.2]
theorem BY (p q:PL×C3) (e:gi p=gi q):p=q:=by obtain⟨h1,h2⟩:=VZ e;exact Prod.ext (zx _ _ h1) (bZ _ _ (VZ h2).1)
open Classical in
noncomputable def lJ (p:PL×C3):Option V:=if rx p.1.2.1 then some (.tup [.x (.int .i64 (cz p.1.2.1 p.2)),.x (.bool (cB p.1.2.1 p.2))]) else none
theorem lK:bM 32 (FE gi lJ):=by
 refine av (E:=eQ [] [] [] (fun _=>false) (fun i=>i==3)) (k:=2) (kO _ _ _ _ _ trivial trivial trivial) (by kernel_rfl) Tryz.func32 rfl (fun a w=>Tryz.call32 a w) Tryz.ntmps32 (by kernel_rfl) (by decide) (by decide) ?_;intro us r hF hdat;obtain⟨⟨⟨c0,L,x0,y0⟩,ws,wc,wr⟩,hus,hG⟩:=aZ hF;clear hF;subst hus;unfold lJ at hG;split at hG
 case isFalse=>cases hG
 rename_i hok;cases hG;clear hdat;refine⟨rfl,?_⟩;have hcx:aa (ws,wc,wr)= .agg [.x (.string ws),.x (.int .i64 wc),.x (.int .i64 wr)]:=rfl;have k1:=ux (c:=(ws,wc,wr)) (I4 (ksI L) (vsI L)) hok;rw[hcx] at k1;simp only[gi,Lj,hcx];generalize ksI L=ks at k1⊢;generalize vsI L=vs at k1⊢;generalize cz L (ws,wc,wr)=z at k1⊢;generalize cB L (ws,wc,wr)=hb at k1⊢;simp +decide (maxDischargeDepth:=200) only[go_sem,Nat.reduceBEq];refine uz [(0,0,3,.ptr 3 0),(0,0,4,.x (.int .i64 0)),(0,0,5,.x (.bool false)),(0,0,0,.ip [c0,.fm ks vs,x0,y0]),(1,0,11,.ip [c0,.fm ks vs,x0,y0]),(2,0,12,.ip [c0,.fm ks vs,x0,y0]),(4,0,13,.ip [.fm ks vs,x0,y0]),(8,0,14,.fm ks vs),(16,0,15,.agg [.x (.string ws),.x (.int .i64 wc),.x (.int .i64 wr)]),(32,0,16,.tup [.x (.int .i64 z),.x (.bool hb)]),(64,0,10,.tup [.x (.int .i64 z),.x (.bool hb)]),(128,0,17,.x (.int .i64 z)),(256,0,18,.x (.bool hb)),(512,0,6,.x (.int .i64 z)),(1024,0,7,.x (.bool hb))] [(3,[.x (.string ws),.x (.int .i64 wc),.x (.int .i64 wr)])] [(0,0,1),(0,4,16),(1,1,3),(1,4,17),(16,0,17),(3,2,7),(3,4,19),(17,1,19),(7,3,15),(7,4,23),(19,2,23),(15,4,31),(23,3,31),(31,5,63),(63,6,127),(127,7,255),(127,8,383),(255,8,511),(255,9,767),(383,7,511),(511,9,1023),(767,8,1023),(1023,10,2047)] 2047 (by kernel_rfl) (by kernel_rfl) ?_ ?_ ?_
 . simp +decide (maxDischargeDepth:=200) only[go_sem,Nat.reduceBEq]
 . simp +decide (maxDischargeDepth:=200) only[go_sem,Nat.reduceBEq,k1]
 . simp +decide (maxDischargeDepth:=200) only[go_sem,Nat.reduceBEq]
abbrev PR:=Bool×Nat×List C3
def Qt (p:PR):V:= .sl p.1 p.2.1 (p.2.2.map aa) none
theorem ID (p q:PR) (e:Qt p=Qt q):p=q:=by obtain⟨a,b,c⟩:=p;obtain⟨d,f,g⟩:=q;simp only[Qt,V.sl.injEq,Wx] at e;obtain⟨rfl,rfl,h⟩:=e;rw[bu bZ h]
def la (p:PL×PR):List V:=[Lj p.1,Qt p.2]
theorem BZ (p q:PL×PR) (e:la p=la q):p=q:=by obtain⟨h1,h2⟩:=VZ e;exact Prod.ext (zx _ _ h1) (ID _ _ (VZ h2).1)
def gu (L:List CI) (l:List C3):List V:=(l.filter fun c=>cB L c).map fun c=> .x (.int .i64 (cz L c))
open Classical in
noncomputable def B0 (p:PL×PR):Option V:=if rx p.1.2.1∧(p.2.2.2≠[]->p.2.2.1=3)∧p.2.2.2.length<=1000000 then some (.sl (gu p.1.2.1 p.2.2.2).isEmpty 1 (gu p.1.2.1 p.2.2.2) none) else none
theorem Fx (L:List CI) (l:List C3) (c:C3):gu L (l++[c])=gu L l++(if cB L c=true then [.x (.int .i64 (cz L c))] else []):=by
 unfold gu;rw[XL,Vy];congr 1;by_cases h:cB L c=true
 . simp[h]
 . simp[h]
theorem IE (L:List CI) (l:List C3):(gu L l).length<=l.length:=by unfold gu;rw[eq];exact V6 _ _
theorem rh:bM 27 (FE la B0):=by
 refine av (E:=eQ [] [] [] (fun _=>false) (fun i=>i==5)) (k:=2) (kO _ _ _ _ _ trivial trivial trivial) (by kernel_rfl) Tryz.func27 rfl (fun a w=>Tryz.call27 a w) Tryz.ntmps27 (by kernel_rfl) (by decide) (by decide) ?_;intro us r hF hdat;obtain⟨⟨⟨c0,L,x0,y0⟩,nl,sz,l⟩,hus,hG⟩:=aZ hF;clear hF;subst hus;unfold B0 at hG;split at hG
 case isFalse=>cases hG
 rename_i hok;cases hG;clear hdat;refine⟨rfl,?_⟩;obtain⟨hok,hsz,hlen⟩:=hok;simp only at hok hsz hlen;simp only[la,Lj,Qt];simp +decide (maxDischargeDepth:=200) only[go_sem,Nat.reduceBEq,eq];refine iQ 5 1 99 (by simp only[go_sem,Nat.reduceBEq];rfl) ?_;refine aI (X:={p:Nat×Nat//p.1<=l.length}) (fun p=>[(0,.ip [c0,.fm (ksI L) (vsI L),x0,y0]),(10,.sl nl sz (l.map aa) none),(11,.x (.int .i64 (l.length:Int))),(12,.x (.int .i64 ((p.1.1:Nat):Int))),(5,.sl (gu L (l.take p.1.1)).isEmpty 1 (gu L (l.take p.1.1)) (some p.1.2))]) (fun _=>[]) (fun p=>l.length-p.1.1) ⟨(0,99),VJ _⟩ (by simp +decide only[go_sem,VO]<;>(repeat' first|rfl|constructor)) (by simp +decide only[go_sem]<;>(repeat' first|rfl|constructor)) (fun⟨⟨i,tk⟩,hi0⟩=>?_);simp only at hi0⊢;by_cases hi:i<l.length
 . have c1:decide ((i:Int)<(l.length:Int))=true:=iO (by omega);have c2:(0:Int)<=(i:Int):=by omega
   have c4:=aF (i:=i) (by omega);have q1:l[i]?=some l[i]:=io hi;have q2:(l.map aa)[((i:Nat):Int).toNat]?=some (aa l[i]):=ca q1;obtain rfl:=hsz (fun h=>by rw[h] at hi;simp at hi);have e3:gu L (l.take (i+1))=gu L (l.take i)++(if cB L l[i]=true then [V.x (.int .i64 (cz L l[i]))] else []):=by rw[aS q1,Fx]
   have k1:=ux (c:=l[i]) (I4 (ksI L) (vsI L)) hok;have hal:(gu L (l.take i)).length<=1000000:=VA (IE _ _) (by rw[Vj];omega);generalize gu L (l.take i)=al at e3 hal⊢;have hcx:aa l[i]= .agg [.x (.string (l[i]).1),.x (.int .i64 (l[i]).2.1),.x (.int .i64 (l[i]).2.2)]:=rfl;rw[hcx] at k1 q2;generalize ksI L=ks at k1⊢;generalize vsI L=vs at k1⊢;generalize cz L l[i]=z at k1 e3;generalize cB L l[i]=hb at k1 e3;generalize (l[i]).1=ps at k1 q2;generalize (l[i]).2.1=pc at k1 q2;generalize (l[i]).2.2=pr at k1 q2;simp +decide (maxDischargeDepth:=200) only[go_sem,Nat.reduceBEq,eq,U3,c1,c2,c4,q2];refine uz [(0,0,0,.ip [c0,.fm ks vs,x0,y0]),(0,0,10,.sl nl 3 (l.map aa) none),(0,0,11,.x (.int .i64 (l.length:Int))),(0,0,12,.x (.int .i64 ((i:Nat):Int))),(0,0,5,.sl al.isEmpty 1 al (some tk)),(0,0,7,.ptr 7 0),(1,0,17,.ip [c0,.fm ks vs,x0,y0]),(2,0,18,.ip [c0,.fm ks vs,x0,y0]),(4,0,19,.ip [.fm ks vs,x0,y0]),(8,0,20,.fm ks vs),(16,0,21,.agg [.x (.string ps),.x (.int .i64 pc),.x (.int .i64 pr)]),(32,0,22,.tup [.x (.int .i64 z),.x (.bool hb)]),(64,0,16,.tup [.x (.int .i64 z),.x (.bool hb)]),(128,0,23,.x (.int .i64 z)),(256,0,24,.x (.bool hb)),(512,0,8,.x (.int .i64 z)),(1024,0,9,.x (.bool hb))] [(7,[.x (.string ps),.x (.int .i64 pc),.x (.int .i64 pr)])] [(0,0,1),(0,4,16),(1,1,3),(1,4,17),(16,0,17),(3,2,7),(3,4,19),(17,1,19),(7,3,15),(7,4,23),(19,2,23),(15,4,31),(23,3,31),(31,5,63),(63,6,127),(127,7,255),(127,8,383),(255,8,511),(255,9,767),(383,7,511),(511,9,1023),(767,8,1023),(1023,10,2047)] 2047 (by kernel_rfl) (by kernel_rfl) ?_ ?_ ?_
   . simp +decide (maxDischargeDepth:=200) only[go_sem,Nat.reduceBEq]
   . simp +decide (maxDischargeDepth:=200) only[go_sem,Nat.reduceBEq,k1]
   . cases hb with
     | true=>
       rw[Va rfl] at e3;have g1:=cL (E:=eQ [] [] [] (fun _=>false) (fun i=>i==5)) (el:=3) (n:=1) LF L3 L4 (by decide) rfl (es:=al) (v:= .x (.int .i64 z)) rfl (by omega) (by omega);simp +decide (maxDischargeDepth:=200) only[go_sem,Nat.reduceBEq,eq,c1,c2,c4,g1];refine⟨⟨(i+1,29),hi⟩,?_,?_,?_⟩
       . simp +decide (maxDischargeDepth:=200) only[go_sem,Nat.reduceBEq,e3]
       . simp +decide (maxDischargeDepth:=200) only[go_sem,Nat.reduceBEq]
       . simp only;omega
     | false=>
       rw[Vh (by decide),Wq] at e3;simp +decide (maxDischargeDepth:=200) only[go_sem,Nat.reduceBEq,eq,c1,c2,c4];refine⟨⟨(i+1,tk),hi⟩,?_,?_,?_⟩
       . simp +decide (maxDischargeDepth:=200) only[go_sem,Nat.reduceBEq,e3]
       . simp +decide (maxDischargeDepth:=200) only[go_sem,Nat.reduceBEq]
       . simp only;omega
 . have c1:decide ((i:Int)<(l.length:Int))=false:=tl (by omega);have e:l.take i=l:=Vp (by omega);rw[e];simp +decide (maxDischargeDepth:=200) only[go_sem,Nat.reduceBEq,eq,c1]
def zC:List V:=[.x (.string ⟨#[]⟩),.x (.int .i64 0),.x (.int .i64 0)]
abbrev fc (i:Int):V:= .x (.int .i64 i)
def mu (C:List C3) (i:Int):C3:=(C[i.toNat]?).getD (⟨#[]⟩,0,0)
def Cz (L:List C3) (i:Nat):List V:=((L.take i).map aa).flatMap V.cells++(List.replicate (L.length-i) zC).flatten
theorem xG (c:C3):(aa c).cells.length=3:=rfl
theorem pR (L:List C3):((L.map aa).flatMap V.cells).length=L.length*3:=by
 induction L with
 |nil=>rfl
 |cons c L ih=>rw[VC,VS,U4,ih,xG,U3];omega
theorem B4 (k:Nat):(List.replicate k zC).flatten.length=k*3:=by
 induction k with
 |zero=>rfl
 |succ k ih=>rw[List.replicate_succ,List.flatten_cons,U4,ih];show 3+_=_;omega
theorem T6 (L:List C3):Cz L 0=(List.replicate L.length zC).flatten:=rfl
theorem Lk (L:List C3) {i:Nat} (hi:i<=L.length):(Cz L i).length=L.length*3:=by unfold Cz;rw[U4,pR,B4,Vj,WR hi];omega
theorem Ll {L:List C3} {i:Nat} (h:L[i]?=some c):(Cz L i).take (i*3)++[.x (.string c.1),.x (.int .i64 c.2.1),.x (.int .i64 c.2.2)]++(Cz L i).drop (i*3+(1+1+1))=Cz L (i+1):=by
 have hi:i<L.length:=(Io.1 h).1;have hl:(((L.take i).map aa).flatMap V.cells).length=i*3:=by rw[pR,Vj,WR (by omega)]
 obtain⟨k,hk⟩:∃k,L.length-i=k+1:=⟨L.length-i-1,by omega⟩;have hk2:L.length-(i+1)=k:=by omega
 unfold Cz;rw[hk,hk2,WJ (by omega),Vp (by omega),aS h,Vy,List.flatMap_append,WC,WC];congr 1;rw[List.drop_append,List.drop_of_length_le (by omega),hl,Wl,List.replicate_succ,List.flatten_cons];congr 1;have e:i*3+(1+1+1)-i*3=3:=by omega
 rw[e];rfl
theorem IG (L:List C3):Cz L L.length=(L.map aa).flatMap V.cells:=by unfold Cz;rw[Vp (Vb _),X9];simp
theorem Lm (L:List C3):((L.map aa).flatMap V.cells).all V.dat=true∧((L.map aa).flatMap V.cells).all V.cell=true:=by
 induction L with
 |nil=>exact⟨rfl,rfl⟩
 |cons c L ih=>rw[VC,VS,List.all_append,List.all_append,ih.1,ih.2];exact⟨rfl,rfl⟩
theorem IH (L:List C3):ql 3 L.length ((L.map aa).flatMap V.cells)=L.map aa:=by
 rw[o8]
 induction L with
 |nil=>rfl
 |cons c L ih=>rw[VC,VS,U3];unfold ed;rw[Vh (by decide)];have h1:((aa c).cells++(L.map aa).flatMap V.cells).take 3=(aa c).cells:=List.take_left' (xG c);have h2:((aa c).cells++(L.map aa).flatMap V.cells).drop 3=(L.map aa).flatMap V.cells:=List.drop_left' (xG c);rw[h1,h2,ih];rfl
theorem zy (a b:Int) (e:fc a=fc b):a=b:=by cases e;rfl
abbrev CA:=(List C3×V×V×V)×Bool×Nat×List Int
def fi (p:CA):List V:=[.ip [.sl false 3 (p.1.1.map aa) none,p.1.2.1,p.1.2.2.1,p.1.2.2.2],.sl p.2.1 p.2.2.1 (p.2.2.2.map fc) none]
theorem pS (p q:CA) (e:fi p=fi q):p=q:=by obtain⟨⟨a,b,c,d⟩,f,g,h⟩:=p;obtain⟨⟨a',b',c',d'⟩,f',g',h'⟩:=q;simp only[fi,VE,V.ip.injEq,V.sl.injEq,Wx,Xo] at e;obtain⟨⟨h1,rfl,rfl,rfl⟩,rfl,rfl,h2⟩:=e;rw[bu bZ h1,bu zy h2]
def T7 (p:CA):Prop:=(p.2.2.2≠[]->p.2.2.1=1)∧p.2.2.2.length<=100000000∧∀i∈p.2.2.2,0<=i∧i.toNat<p.1.1.length
open Classical in
noncomputable def xH (p:CA):Option V:=if T7 p then some (.sl false 3 ((p.2.2.2.map (mu p.1.1)).map aa) none) else none
theorem jc:bM 33 (FE fi xH):=by
 refine av (E:=fK [] [] [] (fun d=>d==10) (fun _=>false) (fun d=>d==29) (fun _=>false)) (k:=2) (yP _ _ _ _ _ _ _ trivial trivial trivial) (by kernel_rfl) Tryz.func33 rfl (fun a w=>Tryz.call33 a w) Tryz.ntmps33 (by kernel_rfl) (by decide) (by decide) ?_;intro us r hF hdat;obtain⟨⟨⟨C,m0,x0,y0⟩,nl,sz,is⟩,hus,hG⟩:=aZ hF;clear hF;subst hus;unfold xH at hG;split at hG
 case isFalse=>cases hG
 rename_i hok;cases hG;clear hdat;refine⟨rfl,?_⟩;obtain⟨hsz,hlen,hin⟩:=hok;simp only at hsz hlen hin;simp only[fi];obtain⟨L,hL⟩:∃L,L=is.map (mu C):=⟨_,rfl⟩;have hll:is.length=L.length:=by rw[hL,eq]
 rw[<-hL];have b0:(List.replicate L.length [V.x (.string ⟨#[]⟩),V.x (.int .i64 0),V.x (.int .i64 0)]).flatten=Cz L 0:=(T6 L).symm;have c0:(0:Int)<=(L.length:Int):=by omega
 have c5:(16*2:Int)*(L.length:Int)<=281474976710656:=by omega
 have c6:(L.length:Int)<=9223372036854775807:=by omega
 have c7:((32:Nat):Int)*(L.length:Int)<=281474976710656:=by omega
 simp +decide (maxDischargeDepth:=200) only[go_sem,Nat.reduceBEq,U2,eq,hll,c0,c6,c7,b0];refine aI (X:={i:Nat//i<=L.length}) (fun i=>[(0,.ip [.sl false 3 (C.map aa) none,m0,x0,y0]),(5,.row 10 3 L.length),(11,.sl nl sz (is.map fc) none),(12,.x (.int .i64 (L.length:Int))),(13,.x (.int .i64 ((i.1:Nat):Int)))]) (fun i=>[(10,Cz L i.1)]) (fun i=>L.length-i.1) ⟨0,VJ _⟩ (by simp +decide only[go_sem,VO]<;>(repeat' first|rfl|constructor)) (by simp +decide only[go_sem]<;>(repeat' first|rfl|constructor)) (fun⟨i,hi0⟩=>?_);simp only at hi0⊢;by_cases hi:i<L.length
 . have c1:decide ((i:Int)<(L.length:Int))=true:=iO (by omega);have c1':(i:Int)<(L.length:Int):=by omega
   have c2:(0:Int)<=(i:Int):=by omega
   have c4:=aF (i:=i) (by omega);have hi2:i<is.length:=by omega
   have q1:is[i]?=some is[i]:=io hi2;have q2:(is.map fc)[i]?=some (fc is[i]):=by rw[U5,q1];rfl
   obtain rfl:=hsz (fun h=>by rw[h] at hi2;simp at hi2);obtain⟨p1,p2⟩:=hin is[i] (V4 hi2);have q3:L[i]?=some (mu C is[i]):=by rw[hL,U5,q1];rfl
   have q4:(C.map aa)[(is[i]).toNat]?=some (aa (mu C is[i])):=by unfold mu;rw[U5,io p2];rfl
   have b1:=Ll q3;have b2:i*3+(1+1+1)<=(Cz L i).length:=by rw[Lk L (by omega)];omega
   generalize is[i]=j at q2 q4 b1 p1;generalize mu C j=c at q4 b1;obtain⟨cs,cc,cr⟩:=c;simp only[bg] at q4 b1;simp +decide (maxDischargeDepth:=200) only[go_sem,Nat.reduceBEq,U2,eq,c1,c1',c2,c4,q2,q4,p1,b1,b2];refine⟨⟨i+1,hi⟩,?_,?_,?_⟩
   . simp +decide (maxDischargeDepth:=200) only[go_sem,Nat.reduceBEq,U2]
   . simp +decide (maxDischargeDepth:=200) only[go_sem,Nat.reduceBEq,U2]
   . simp only;omega
 . have c1:decide ((i:Int)<(L.length:Int))=false:=tl (by omega);have e:i=L.length:=by omega
   subst e;obtain⟨d1,d2⟩:=Lm L;have d3:=IH L;have d4:=IG L;simp +decide (maxDischargeDepth:=200) only[go_sem,Nat.reduceBEq,U2,eq,c1,d4,d1,d2,d3]
abbrev PD:=List C3×List (List Int)×List (List Int)
def Ln (r:List Int):Nat:=if r.isEmpty then 0 else 1
def rI (r:List Int):V:= .sl r.isEmpty (Ln r) (r.map fc) none
def plI:Nat->List C3->List CI
 |_,[]=>[]
 |k,c::C=>(c,((k:Nat):Int))::plI (k+1) C
def jR (p:PD):V:= .ip [.sl false 3 (p.1.map aa) none,.fm (ksI (plI 0 p.1)) (vsI (plI 0 p.1)),.sl false 1 (p.2.1.map rI) none,.sl false 1 (p.2.2.map rI) none]
theorem Fy (a b:List Int) (e:rI a=rI b):a=b:=by simp only[rI,V.sl.injEq,Wx] at e;exact bu zy e.2.2
theorem zz (p q:PD) (e:jR p=jR q):p=q:=by obtain⟨a,b,c⟩:=p;obtain⟨a',b',c'⟩:=q;simp only[jR,V.ip.injEq,VE,V.sl.injEq,Wx,Xo] at e;obtain⟨h1,_,h2,h3⟩:=e;rw[bu bZ h1,bu Fy h2,bu Fy h3]
theorem mQ:∀(C:List C3) (k:Nat),(plI k C).map (fun p=>p.1)=C
 |[],_=>rfl
 |c::C,k=>by show c::(plI (k+1) C).map _=_;rw[mQ C (k+1)]
variable {C:List C3}
theorem xI (h:C.Nodup) (k:Nat):rx (plI k C):=by unfold rx;rw[mQ];exact h
theorem mR (C:List C3) (k:Nat) (c:C3):cB (plI k C) c=gN c C:=by unfold cB;rw[mQ]
theorem pT:∀{C:List C3} {c:C3} {i k:Nat},C.Nodup->C[i]?=some c->cz (plI k C) c=((k+i:Nat):Int)
 |[],c,i,k,_,h=>by simp at h
 |d::C,c,0,k,hn,h=>by simp only[WQ,Vu] at h;unfold plI cz;rw[Va (show dD c (d,((k:Nat):Int)).1=true from iO h.symm),Wj]
 |d::C,c,i+1,k,hn,h=>by simp only[Wu] at h;have hn:=VL.1 hn;unfold plI cz;rw[Vh (show¬dD c (d,((k:Nat):Int)).1=true from fun e=>hn.1 (by rw[<-show c=d from Vw e];exact Vd h)),pT (k:=k+1) hn.2 h];congr 1;omega
def xJ (p:PD):Prop:=p.1.Nodup∧p.1.length<=400∧p.2.1.length=p.1.length∧p.2.2.length=p.1.length∧(∀r∈p.2.1,r.length<=100000000∧∀i∈r,0<=i∧i.toNat<p.1.length)∧∀r∈p.2.2,r.length<=100000000∧∀i∈r,0<=i∧i.toNat<p.1.length
def iC (p:PD):List V:=[jR p]
theorem B6 (p q:PD) (e:iC p=iC q):p=q:=zz _ _ (VZ e).1
def dZ (p:PD×C3):List V:=[jR p.1,aa p.2]
theorem lL (p q:PD×C3) (e:dZ p=dZ q):p=q:=by obtain⟨h1,h2⟩:=VZ e;exact Prod.ext (zz _ _ h1) (bZ _ _ (VZ h2).1)
def uA (C:List C3) (R:List (List Int)) (c:C3):V:=if gN c C=true then .sl false 3 ((((R[(cz (plI 0 C) c).toNat]?).getD []).map (mu C)).map aa) none else .sl true 0 [] none
open Classical in
noncomputable def Lo (p:PD×C3):Option V:=if xJ p.1 then some (uA p.1.1 p.1.2.1 p.2) else none
open Classical in
noncomputable def Lp (p:PD×C3):Option V:=if xJ p.1 then some (uA p.1.1 p.1.2.2 p.2) else none
open Classical in
noncomputable def Fz (p:PD):Option V:=if xJ p then some (.sl false 3 (p.1.map aa) none) else none
theorem ou {p:PD} (h:xJ p) (c:C3):FE gi lJ [jR p,aa c]=some (.tup [.x (.int .i64 (cz (plI 0 p.1) c)),.x (.bool (gN c p.1))]):=by have e:=bC BY lJ ((.sl false 3 (p.1.map aa) none,plI 0 p.1,.sl false 1 (p.2.1.map rI) none,.sl false 1 (p.2.2.map rI) none),c);rw[<-mR p.1 0 c];exact e.trans (Va (xI h.1 0))
theorem lO (h:gN c C=true):∃i:Nat,C[i]?=some c:=by unfold gN at h;obtain⟨x,hx,e⟩:=Wp.1 h;obtain⟨i,hi⟩:=VU hx;exact⟨i,by rw[hi,Vw e]⟩
theorem FA {x y:V} {r:List Int} (h1:r.length<=100000000) (h2:∀i∈r,0<=i∧i.toNat<C.length):FE fi xH [.ip [.sl false 3 (C.map aa) none,m,x,y],rI r]=some (.sl false 3 ((r.map (mu C)).map aa) none):=by
 have e:=bC pS xH ((C,m,x,y),r.isEmpty,Ln r,r);refine e.trans (Va ⟨fun hn=>?_,h1,h2⟩);unfold Ln;cases r with
 |nil=>exact absurd rfl hn
 |cons a r=>rfl
theorem xK:bM 14 (FE dZ Lo):=by
 refine av (E:=au [(32,FE gi lJ),(33,FE fi xH)]) (k:=2) (aM _ ⟨lK,jc,trivial⟩) (by kernel_rfl) Tryz.func14 rfl (fun a w=>Tryz.call14 a w) Tryz.ntmps14 (by kernel_rfl) (by decide) (by decide) ?_;intro us r hF hdat;obtain⟨⟨⟨C,R,S⟩,ws,wc,wr⟩,hus,hG⟩:=aZ hF;clear hF;subst hus;unfold Lo at hG;split at hG
 case isFalse=>cases hG
 rename_i hok;cases hG;clear hdat;refine⟨rfl,?_⟩;have k1:=ou hok (ws,wc,wr);obtain⟨hn,h4,hR,hS,hrr,hss⟩:=hok;simp only at hn h4 hR hS hrr hss k1;have hcx:aa (ws,wc,wr)= .agg [.x (.string ws),.x (.int .i64 wc),.x (.int .i64 wr)]:=rfl;simp only[dZ,uA];rw[hcx] at k1⊢;cases hb:gN (ws,wc,wr) C with
 |false=>rw[hb] at k1;rw[Vh (by decide)];simp only[jR] at k1⊢;simp +decide (maxDischargeDepth:=200) only[go_sem,Nat.reduceBEq,U2,k1]
 | true=>
   rw[hb] at k1;rw[Va rfl];obtain⟨i,hi⟩:=lO hb;have hz:=pT (k:=0) hn hi;rw[Vt] at hz;rw[hz] at k1⊢;have hil:=(Io.1 hi).1;have hi2:i<R.length:=by omega
   have q1:R[i]?=some R[i]:=io hi2;have q2:(R.map rI)[i]?=some (rI R[i]):=by rw[U5,q1];rfl
   obtain⟨r1,r2⟩:=hrr R[i] (V4 hi2);have c2:(0:Int)<=(i:Int):=by omega
   have k2:=FA (m:= .fm (ksI (plI 0 C)) (vsI (plI 0 C))) (x:= .sl false 1 (R.map rI) none) (y:= .sl false 1 (S.map rI) none) r1 r2;rw[U2,q1,V8];generalize R[i]=r at q2 k2⊢;simp only[jR] at k1⊢;simp only[rI] at k2 q2;simp +decide (maxDischargeDepth:=200) only[go_sem,Nat.reduceBEq,U2,k1,c2,q2,k2]
theorem ri:bM 16 (FE dZ Lp):=by
 refine av (E:=au [(32,FE gi lJ),(33,FE fi xH)]) (k:=2) (aM _ ⟨lK,jc,trivial⟩) (by kernel_rfl) Tryz.func16 rfl (fun a w=>Tryz.call16 a w) Tryz.ntmps16 (by kernel_rfl) (by decide) (by decide) ?_;intro us r hF hdat;obtain⟨⟨⟨C,R,S⟩,ws,wc,wr⟩,hus,hG⟩:=aZ hF;clear hF;subst hus;unfold Lp at hG;split at hG
 case isFalse=>cases hG
 rename_i hok;cases hG;clear hdat;refine⟨rfl,?_⟩;have k1:=ou hok (ws,wc,wr);obtain⟨hn,h4,hR,hS,hrr,hss⟩:=hok;simp only at hn h4 hR hS hrr hss k1;have hcx:aa (ws,wc,wr)= .agg [.x (.string ws),.x (.int .i64 wc),.x (.int .i64 wr)]:=rfl;simp only[dZ,uA];rw[hcx] at k1⊢;cases hb:gN (ws,wc,wr) C with
 |false=>rw[hb] at k1;rw[Vh (by decide)];simp only[jR] at k1⊢;simp +decide (maxDischargeDepth:=200) only[go_sem,Nat.reduceBEq,U2,k1]
 | true=>
   rw[hb] at k1;rw[Va rfl];obtain⟨i,hi⟩:=lO hb;have hz:=pT (k:=0) hn hi;rw[Vt] at hz;rw[hz] at k1⊢;have hil:=(Io.1 hi).1;have hi2:i<S.length:=by omega
   have q1:S[i]?=some S[i]:=io hi2;have q2:(S.map rI)[i]?=some (rI S[i]):=by rw[U5,q1];rfl
   obtain⟨r1,r2⟩:=hss S[i] (V4 hi2);have c2:(0:Int)<=(i:Int):=by omega
   have k2:=FA (m:= .fm (ksI (plI 0 C)) (vsI (plI 0 C))) (x:= .sl false 1 (R.map rI) none) (y:= .sl false 1 (S.map rI) none) r1 r2;rw[U2,q1,V8];generalize S[i]=r at q2 k2⊢;simp only[jR] at k1⊢;simp only[rI] at k2 q2;simp +decide (maxDischargeDepth:=200) only[go_sem,Nat.reduceBEq,U2,k1,c2,q2,k2]
theorem zA {el n by':Nat} {z:List V} (h1:bq E.P el=some n) (hby:bV E.P el=some by') (hz:ay E.P el=some z) (h4:n≠0) (h5:z.length=n)
 {es es':List V} {m:Nat} (hm:es'≠[]->m=n) (hc:(es'.all fun u=>u.cells.all V.cell)=true) (hb:(es.length+es'.length)*by'<=140737488355328) (hl:es.length+es'.length<=9223372036854775807) (st:St) (d tok:Nat) (nl:Bool) (t':Option Nat):
 bi E st (some d) el (.sl false n es (some tok)) (.sl nl m es' t')=some ⟨aD (strip tok (strip d st.t)) d (.sl false n (es++es') (some d)),aB E tok (aB E d st.b)⟩:=by
 unfold bi;simp only[h1,hby,hz];rw[Va ⟨h4,h5,trivial,by
  by_cases h:es'=[]
  . exact .inr h
  . exact .inl (hm h),hc,hb,hl⟩]
theorem uB (C:List C3):((C.map aa).all fun u=>u.cells.all V.cell)=true:=U8.2 fun u hu=>by obtain⟨c,_,rfl⟩:=U7.1 hu;rfl
def ov (C:List C3):List V:=[.sl false 3 (C.map aa) none]
theorem B7 (p q:List C3) (e:ov p=ov q):p=q:=by simp only[ov,VE,V.sl.injEq,Wx,Xo] at e;exact bu bZ e
open Classical in
noncomputable def Qu (C:List C3):Option V:=if C.length<=1000000 then some (.sl false 3 (C.map aa) none) else none
theorem xL:bM 31 (FE ov Qu):=by
 refine av (E:=eQ [] [] [] (fun d=>d==5) (fun _=>false)) (k:=1) (kO _ _ _ _ _ trivial trivial trivial) (by kernel_rfl) Tryz.func31 rfl (fun a w=>Tryz.call31 a w) Tryz.ntmps31 (by kernel_rfl) (by decide) (by decide) ?_;intro us r hF hdat;obtain⟨C,hus,hG⟩:=aZ hF;clear hF;subst hus;unfold Qu at hG;split at hG
 case isFalse=>cases hG
 rename_i hok;cases hG;clear hdat;refine⟨rfl,?_⟩;simp only[ov];have gg:=zA (E:=eQ [] [] [] (fun d=>d==5) (fun _=>false)) (el:=24) (n:=3) kL kM kN (by decide) rfl (es:=[]) (es':=C.map aa) (m:=3) (fun _=>rfl) (uB C) (by simp only[eq,VB];omega) (by simp only[eq,VB];omega);simp only[Wl] at gg;simp +decide (maxDischargeDepth:=200) only[go_sem,Nat.reduceBEq,gg]
theorem ow:bM 12 (FE iC Fz):=by
 refine av (E:=au [(31,FE ov Qu)]) (k:=1) (aM _ ⟨xL,trivial⟩) (by kernel_rfl) Tryz.func12 rfl (fun a w=>Tryz.call12 a w) Tryz.ntmps12 (by kernel_rfl) (by decide) (by decide) ?_;intro us r hF hdat;obtain⟨⟨C,R,S⟩,hus,hG⟩:=aZ hF;clear hF;subst hus;unfold Fz at hG;split at hG
 case isFalse=>cases hG
 rename_i hok;cases hG;clear hdat;refine⟨rfl,?_⟩;obtain⟨_,h4,_⟩:=hok;simp only at h4;have k1:FE ov Qu [.sl false 3 (C.map aa) none]=some (.sl false 3 (C.map aa) none):=(bC B7 Qu C).trans (Va (by omega));simp only[iC,jR];simp +decide (maxDischargeDepth:=200) only[go_sem,Nat.reduceBEq,k1]
end Go.Proofs.YtalkmhjanlljhaaGreat
