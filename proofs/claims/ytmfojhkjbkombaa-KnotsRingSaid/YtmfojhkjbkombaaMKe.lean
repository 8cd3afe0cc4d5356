/- Chapter 13: the order: plainly, and the queue beside the rows. -/
import Derived.Test.YtmfojhkjbkombaaMKd
import Derived.Test.YtmfojhkjbkombaaMKc
namespace Go.Proofs.Ytmfojhkjbkombaa
set_option linter.unusedSimpArgs false
set_option maxHeartbeats 64000000
set_option maxRecDepth 100000
open Go Go.RowKit
attribute [go_sem] Try.results3 Try.results4 Try.results5
variable {hs ts:List Int} {R:List (List Int)} {n:Nat}
theorem KInv.perm {W es es':List Int} (h:KInv hs R n ts W es) (hp:es'.Perm es):KInv hs R n ts W es':=⟨h.len,h.w,h.z,hp.nodup_iff.2 h.nd,fun x=>hp.mem_iff.trans (h.es x),h.ord⟩
theorem OrdOK.nodup (h:OrdOK hs R n ts):ts.Nodup∧∀g∈ts,g∈hs:=by
 refine⟨?_,fun g hg=>?_⟩
 . unfold List.Nodup;rw[aa7];intro i j hi hj hij e;have:=(h j ts[j] (eq hj)).2.1;exact this (e▸aad.2 ⟨i,by rw[Z9,Zp hij];exact eq hi⟩)
 . obtain⟨i,hi⟩:=aad.1 hg;exact(h i g hi).1
theorem zW {m:Nat} {f:Nat->Nat} (h:∀i,i<n->f i<=m):dD n f<=n*m:=by
 induction n with
 |zero=>rw[qx];omega
 |succ n ih=>rw[bY,Nat.succ_mul];have:=ih (fun i hi=>h i A0c);have:=h n A0c;omega
theorem IY (hh:∀x∈hs,0<=x∧x.toNat<hs.length) (hR:bE hs.length R):T8 (aW R hs hs.length):=by
 intro x hx;obtain⟨j,hj⟩:=aad.1 hx;have hjl:j<hs.length:=by
  have:=(tl.1 hj).1;rcases abB hs.length with e|e
  . rw[e] at this;unfold aW at this;simp[abf.1 e] at this
  . rwa [(ja hh (h:=0) (aa5 _) e hs.length (Zt _)).1] at this
 have h1:=(ja (R:=R) hh (h:=(j:Int)) A0c (by rw[iO];exact hjl) hs.length (Zt _)).2;rw[eM hj,wv] at h1;have h2:dD hs.length (fun i=>if atI hs (i:Int)=(j:Int) then kM hs (j:Int) (fun _=>true) (rowZ R (i:Int)) else 0)<=hs.length*100000000:=zW fun i hi=>by
  split
  . refine ZL (List.countP_le_length ..) ?_;unfold rowZ;rw[iO,eq (by rw[hR.1];exact hi)];exact(hR.2.2 _ (Z1 _)).1
  . omega
 have h3:=hR.2.1;rw[h1];constructor
 . omega
 . have:hs.length*100000000<=400*100000000:=aaA _ h3;omega
variable {g:Int}
theorem oS {x:Int}:x∈cw hs n g↔(0<=x∧x.toNat<n)∧atI hs x=g:=by
 unfold cw;simp only[ZA,aaa,ZT,ZV];constructor
 . rintro⟨j,⟨h1,h2⟩,rfl⟩;exact⟨⟨aaM j,by rw[iO];exact h1⟩,h2⟩
 . rintro⟨⟨h0,h1⟩,h2⟩;exact⟨x.toNat,⟨h1,by rw[aal h0];exact h2⟩,aal h0⟩
theorem IZ (hs:List Int) (n:Nat) (g:Int):(cw hs n g).length<=n:=by unfold cw;rw[io];exact ZL (aa2 _ _) A0l
def so (C:List C3) (R:List (List Int)) (ps:List Int):V:=OX C ps (decide (1<(ps.length:Int))||decide (ps.headD 0∈rowZ R (ps.headD 0)))
abbrev KN:=List C3×List (List Int)×List (List Int)×List Int
def kN (p:KN):List V:=[gF p.1 p.2.1 p.2.2.1,.sl false 1 (p.2.2.2.map au) none]
theorem Ev (p q:KN) (e:kN p=kN q):p=q:=by obtain⟨a,b,c,d⟩:=p;obtain⟨a',b',c',d'⟩:=q;simp only[kN,gF,Z2,V.agg.injEq,V.sl.injEq,aaZ,abI] at e;obtain⟨⟨h1,h2,h3⟩,h4⟩:=e;rw[bm cA h1,bm rX h2,bm rX h3,bm rW h4]
def Yr (p:KN):Prop:=bE p.1.length p.2.1∧(∀x∈p.2.2.2,0<=x∧x.toNat<p.1.length)∧p.2.2.2.length<=400∧p.2.2.2≠[]
open Classical in
noncomputable def OY (p:KN):Option V:=if Yr p then some (so p.1 p.2.1 p.2.2.2) else none
theorem oT {E:Env} {f:FuncId} {C:List V->HH->Tr} {F:List V->Option V} (h:cn E f C) (hc:∀us r,F us=some r->C us (fun _=>none) (fun v _=>v=r)):Fun E f F:=by refine⟨h.1,fun m w vs us r hF hdat hr hj hg=>?_⟩;refine(h.2 m w vs us (fun _=>none) _ (hc us r hF) hdat hr (fun g ob e=>by cases e) hj hg).mono ?_;rintro e w' ⟨v,m',u,H',rfl,hv,rfl,hs,_⟩;exact⟨v,m',rfl,hv,hs.below (fun k _ hn=>hn rfl),fun blk hb=>(hs.same blk hb (fun hn=>hn rfl)).2⟩
theorem Ew:dA 13 (FE kN OY):=by
 refine oT IQ ?_;intro us r hF;obtain⟨⟨C,R,S,ps⟩,rfl,hG⟩:=bL hF;unfold OY at hG;split at hG
 case isFalse=>cases hG
 rename_i hok;cases hG;obtain⟨h1,h2,h3,h4⟩:=hok;obtain⟨p,pt,rfl⟩:=List.exists_cons_of_ne_nil h4;exact⟨C,R,S,p,pt,rfl,h1,h2,h3,rfl⟩
theorem I0 {H H':HH} {r:V} {T:V->HH->Prop} (hk:∀y ob,H y=some ob->H' y=some ob) (hT:T r H):HA r H' T:=by
 refine⟨fun y=>(H y).isNone,r,fun m w v _ _ h=>h,?_⟩;have e:(fun g=>if (H g).isNone=true then none else H' g)=H:=by
  funext g;cases hg:H g with
  |none=>simp
  |some ob=>simp[hk g ob hg]
 rw[e];exact hT
structure OI (H H':HH) (p gW:Nat) (ty:TypeId) (r:Value) (es W:List Int):Prop where
 q:QJ H' p r es
 hp:HeapN es es.length
 w:H' gW=some (rowO (W.map iv) ty)
 wp:gW≠p
 wr:blkOf r≠some gW
 k:∀y ob,H y=some ob->H' y=some ob∧y≠p∧y≠gW∧blkOf r≠some y
section
variable {H H' H2:HH} {p gW:Nat} {ty:TypeId} {r r':Value} {es es' W:List Int}
theorem OI.step (h:OI H H' p gW ty r es W) (hq:QJ H2 p r' es') (hp:HeapN es' es'.length) (ho:Oth H' H2 p r) (hf:Fr H' r r'):OI H H2 p gW ty r' es' W:=by
 have key:∀y ob,H' y=some ob->blkOf r≠some y->blkOf r'≠some y:=fun y ob h0 h1 e=>by
  rcases hf y e with e|e
  . exact h1 e
  . rw[h0] at e;cases e
 refine⟨hq,hp,ho gW _ h.w h.wp h.wr,h.wp,key gW _ h.w h.wr,fun y ob hy=>?_⟩;obtain⟨k1,k2,k3,k4⟩:=h.k y ob hy;exact⟨ho y ob k1 k2 k4,k2,k3,key y ob k1 k4⟩
theorem OI.waits (h:OI H H' p gW ty r es W) (W':List Int):OI H (upd H' gW (some (rowO (W'.map iv) ty))) p gW ty r es W':=by obtain⟨q1,q2,q3,q4,q5⟩:=h.q;refine⟨⟨by rw[ag _ _ (aaJ h.wp)];exact q1,q2.other h.wr,q3,q4,q5⟩,h.hp,ai _ _ _,h.wp,h.wr,fun y ob hy=>?_⟩;obtain⟨k1,k2,k3,k4⟩:=h.k y ob hy;exact⟨by rw[ag _ _ k3];exact k1,k2,k3,k4⟩
theorem OI.row (h:OI H H' p gW ty r es W):∃a c,r= .slice a es.length c:=by
 rcases h.q.2.1 with⟨rfl,rfl⟩|⟨g,cap,cur,ty,rfl,_⟩
 . exact⟨_,_,rfl⟩
 . exact⟨_,_,rfl⟩
theorem OI.zero (hp:H p=none) (hg:H gW=none) (hne:gW≠p):OI H (upd (upd H gW (some (rowO (W.map iv) ty))) p (some (rowO [.slice none 0 0] 50))) p gW ty (.slice none 0 0) [] W:=by
 refine⟨⟨ai _ _ _,.inl ⟨rfl,rfl⟩,fun h=>A07,rfl,A0l⟩,fun k _ h=>A07,by rw[ag _ _ hne,ai],hne,fun h=>A07,fun y ob hy=>?_⟩;have h1:y≠p:=fun e=>by rw[e,hp] at hy;cases hy
 have h2:y≠gW:=fun e=>by rw[e,hg] at hy;cases hy
 exact⟨by rw[ag _ _ h1,ag _ _ h2];exact hy,h1,h2,fun h=>A07 ⟩
end
noncomputable abbrev OE:Env:=bz [(13,FE kN OY)] [] [] (fun _=>false) (fun _=>false)
theorem TY:EnvOK OE:=bi _ _ _ _ _ ⟨Ew,trivial⟩ trivial trivial
def oZ:List (FuncId×(List V->HH->Tr)):=[(6,TW),(7,IW),(8,TL),(9,H9),(10,Tu),(12,Mz),(11,To),(14,IJ)]
def o0:Fx:={F:=vz oZ,D:=fun d=>d==24,any:=fun i=>i==16}
theorem OM:∀f C,o0.F f=some C->cn OE f C:=fD (l:=oZ) ⟨LW,Et,wn,DV,LE,Iq,vW,Ej,trivial⟩
variable {l:List Int}
theorem TZ (h:l≠[]):rI l= .sl false 1 (l.map au) none:=by
 cases l with
 |nil=>exact absurd rfl h
 |cons a l=>rfl
def zX (WB HSVV MEMV:V) (gW n:Nat) (g:Int) (ps fr:List Int) (b:Bool) (z:Nat):Nat->V
 |63=>WB|64=>MEMV|65=>au g|66=> .ip [.sl false 1 (ps.map au) none]|67=> .sl false 1 (ps.map au) none|68=>HSVV|69=> .x (.slice (some ⟨gW,0,none⟩) n n)|70=> .sl b z (fr.map au) none|71=>au (fr.length:Int)|72=>au 0|_=> .undef
variable {k:Nat}
theorem LX {WB HSVV MEMV:V} {gW:Nat} {ps fr:List Int} {b b':Bool} {z z':Nat} (h:k≠70):zX WB HSVV MEMV gW n g ps fr b z k=zX WB HSVV MEMV gW n g ps fr b' z' k:=by unfold zX;split<;>first|rfl|exact absurd rfl h
def T0 (us:List V) (H:HH) (T:V->HH->Prop):Prop:=∃nl sz l,us=iZ (nl,sz,l)∧Ei (nl,sz,l)∧DR (dw l)∧(∀r∈(dw l).2.1,r.Nodup)∧
 ∀hs S ts,IX (dw l).1.length (dw l).2.1 S->HeadsOK (dw l).2.1 (dw l).1.length hs->OrdOK hs (dw l).2.1 (dw l).1.length ts->(∀g∈hs,g∈ts)->T (.sl ts.isEmpty 2 (ts.map fun g=>so (dw l).1 (dw l).2.1 (cw hs (dw l).1.length g)) none) H
theorem qB:cn OE 5 T0:=by
 refine kC (F:=o0) (n:=81) (k:=1) TY A0a OM (fun t s C e=>by cases e) Try.func5 rfl (fun a w=>Try.call5 a w) Try.ntmps5 A0b A0b A0a ?_;rintro us H T ⟨nl,sz,l,rfl,hok,hpd,hnd,hT⟩ hdat;clear hdat;refine⟨rfl,?_⟩;simp only[iZ];simp +decide (maxDischargeDepth:=200) only[go_sem,Nat.reduceBEq,o0,oZ];refine⟨nl,sz,l,rfl,hok,hpd,hnd,fun S hS=>?_⟩;clear hok hnd hpd;generalize (dw l).1=C at hT hS⊢;generalize (dw l).2.1=R at hT hS⊢;have hW:=hS;obtain⟨hR,hSr,hrev,hRn,hSn⟩:=hS;have hC4:C.length<=400:=hR.2.1;simp only[gF];simp +decide (maxDischargeDepth:=200) only[go_sem,Nat.reduceBEq,o0,oZ];refine⟨C,R,S,rfl,hR,hSr,hrev,fun hs hh hfo=>?_⟩;obtain⟨out,hF⟩:=hfo;have hn:=hh.1;have hin:=hh.in;simp +decide (maxDischargeDepth:=200) only[go_sem,Nat.reduceBEq,o0,oZ];refine⟨hs,rfl,A0c,hin,?_⟩;simp +decide (maxDischargeDepth:=200) only[go_sem,Nat.reduceBEq,o0,oZ];refine⟨C,R,S,hs,rfl,by rw[hn];exact hR,hin,fun gW ty hgW=>?_⟩;simp +decide (maxDischargeDepth:=200) only[go_sem,Nat.reduceBEq,o0,oZ];intro p hp;obtain⟨hp0,hne⟩:=gN hp;replace hne:gW≠p:=aaJ hne;have hO0:=OI.zero (ty:=ty) (W:=aW R hs hs.length) hp0 hgW hne;have hW0:=IY hin (by rw[hn];exact hR);have hWl:(aW R hs hs.length).length=hs.length∨hs.length=0:=by
  rcases abB hs.length with e|e
  . exact .inr e
  . exact .inl (ja hin (h:=0) (aa5 _) e hs.length (Zt _)).1
 simp +decide (maxDischargeDepth:=200) only[go_sem,Nat.reduceBEq,o0,oZ,io];refine bf (X:={q:Nat×Value×List Int//q.1<=hs.length∧q.2.2.Nodup∧∀h:Int,h∈q.2.2↔(0<=h∧h.toNat<q.1)∧atI hs h=h∧atI (aW R hs hs.length) h=0}) (fun q=>[(3,.ptr 3 0),(4,.sl false 1 (hs.map au) none),(5,.sl false 1 ((dU hs hs.length).map rI) none),(6,.x (.slice (some ⟨gW,0,none⟩) hs.length hs.length)),(7,.x (.pointer (some ⟨p,0,none⟩))),(25,.sl false 1 (hs.map au) none),(26,au (hs.length:Int)),(27,au ((q.1.1:Nat):Int))]) (fun _=>[(3,[.sl false 3 (C.map aa) none,.sl false 1 (R.map rI) none,.sl false 1 (S.map rI) none])]) (fun q H'=>OI H H' p gW ty q.1.2.1 q.1.2.2 (aW R hs hs.length)) (fun q=>hs.length-q.1.1) ⟨(0,.slice none 0 0,[]),Z0 _,Z8,fun h=>⟨fun e=>(by cases e),fun e=>absurd e.1.2 (abv _)⟩⟩ A0e A0e hO0 ?_;clear hO0 hp hp0 hgW;rintro⟨⟨i,r,es⟩,hi,hes,hem⟩ H1 hO;simp only at hi hes hem hO⊢;by_cases hil:i<hs.length
 case pos=>
  have hWl:(aW R hs hs.length).length=hs.length:=hWl.resolve_right A0c;have d1:decide ((i:Int)<(hs.length:Int))=true:=Zk A0c;have d2:(0:Int)<=(i:Int):=A0c
  have d3:(i:Int)<(hs.length:Int):=A0c
  have d4:=aQ (i:=i) A0c;have q1:hs[i]?=some hs[i]:=eq hil;have q2:(hs.map au)[((i:Nat):Int).toNat]?=some (au hs[i]):=by rw[iO,Io,q1];rfl
  have qm:hs[i]∈hs:=Z1 hil;generalize hs[i]=a at q1 q2 qm;obtain⟨a0,al⟩:=hin a qm;have hai:atI hs (i:Int)=a:=eM q1;have a2:a<(hs.length:Int):=A0c
  have hel:es.length<=hs.length:=cK hes (fun z hz=>⟨((hem z).1 hz).1.1,by have:=((hem z).1 hz).1.2;omega⟩);rw[iO] at q2;have skip: ¬(a=(i:Int)∧atI (aW R hs hs.length) a=0)->es.Nodup∧∀h:Int,h∈es↔(0<=h∧h.toNat<i+1)∧atI hs h=h∧atI (aW R hs hs.length) h=0:=fun hno=>by
   refine⟨hes,fun h=>(hem h).trans ⟨fun⟨e1,e2⟩=>⟨⟨e1.1,A0c⟩,e2⟩,fun⟨e1,e2,e3⟩=>⟨⟨e1.1,?_⟩,e2,e3⟩⟩⟩;rcases aac h.toNat i with e|e
   . exact e
   . have he:h=(i:Int):=A0c
     rw[he,hai] at e2;exact absurd ⟨e2,by rw[e2,<-he];exact e3⟩ hno
  by_cases hpl:(i:Int)=a
  case neg=>
   have e5:decide ((i:Int)=a)=false:=Zl hpl;simp +decide (maxDischargeDepth:=200) only[go_sem,Nat.reduceBEq,o0,oZ,io,iO,d1,d2,d3,d4,q2,e5];obtain⟨s1,s2⟩:=skip (fun h=>hpl h.1.symm);refine⟨⟨(i+1,r,es),hil,s1,s2⟩,⟨?_,?_,hO⟩,by simp only;omega⟩
   . simp +decide (maxDischargeDepth:=200) only[go_sem,Nat.reduceBEq]
   . simp +decide (maxDischargeDepth:=200) only[go_sem,Nat.reduceBEq]
  have e5:decide ((i:Int)=a)=true:=Zk hpl;obtain⟨v,hv⟩:∃v,(aW R hs hs.length)[a.toNat]?=some v:=⟨_,eq A0c ⟩;have hav:atI (aW R hs hs.length) a=v:=eg hv;have c1:=aS hO.w;have z52:pj Try.prog 43=some 1:=A0a
  have p4:(((aW R hs hs.length).map iv).map V.x)[a.toNat]?=some (au v):=by rw[aat,Io,hv];rfl
  by_cases hv0:v=0
  case neg=>
   have e6:decide (v=0)=false:=Zl hv0;simp +decide (maxDischargeDepth:=200) only[go_sem,Nat.reduceBEq,o0,oZ,io,iO,Zx,Zm,d1,d2,d3,d4,q2,e5,e6,z52,c1,p4,a0,a2];obtain⟨s1,s2⟩:=skip (fun h=>hv0 (hav.symm.trans h.2));refine⟨⟨(i+1,r,es),hil,s1,s2⟩,⟨?_,?_,hO⟩,by simp only;omega⟩
   . simp +decide (maxDischargeDepth:=200) only[go_sem,Nat.reduceBEq]
   . simp +decide (maxDischargeDepth:=200) only[go_sem,Nat.reduceBEq]
  have e6:decide (v=0)=true:=Zk hv0;simp +decide (maxDischargeDepth:=200) only[go_sem,Nat.reduceBEq,o0,oZ,io,iO,Zx,Zm,d1,d2,d3,d4,q2,e5,e6,z52,c1,p4,a0,a2];refine⟨p,r,es,a,rfl,hO.q,A0c,hO.hp,fun r' es' H' hq hperm hheap ho hf=>?_⟩;simp +decide (maxDischargeDepth:=200) only[go_sem,Nat.reduceBEq,o0,oZ,d4];refine⟨⟨(i+1,r',es'),hil,hperm.nodup_iff.2 (aaI.2 ⟨hes,aaV _ _,fun x hx y hy e=>?_⟩),fun h=>?_⟩,⟨?_,?_,hO.step hq hheap ho hf⟩,by simp only;omega⟩
  . rw[Zn] at hy;have:=((hem x).1 hx).1.2;omega
  . rw[hperm.mem_iff,Zv,Zn,hem];constructor
    . rintro(⟨e1,e2⟩|rfl)
      . exact⟨⟨e1.1,by simp only;omega⟩,e2⟩
      . exact⟨⟨a0,by simp only;omega⟩,by rw[<-hpl,hai];exact hpl.symm▸rfl,by rw[hav];exact hv0⟩
    . rintro⟨e1,e2⟩;simp only at e1;rcases aac h.toNat i with e|e
      . exact .inl ⟨⟨e1.1,e⟩,e2⟩
      . exact .inr A0c
  . simp +decide (maxDischargeDepth:=200) only[go_sem,Nat.reduceBEq]
  . simp +decide (maxDischargeDepth:=200) only[go_sem,Nat.reduceBEq]
 obtain rfl:i=hs.length:=A0c
 have d1:decide ((hs.length:Int)<(hs.length:Int))=false:=Zl A0c;have hK0:KInv hs R hs.length [] (aW R hs hs.length) es:=KInv.zero hin hes (fun h=>(hem h).trans ⟨fun⟨e1,e2,e3⟩=>⟨hh.mem.2 ⟨by rw[<-hn];exact e1,e2⟩,e3⟩,fun⟨e1,e2⟩=>⟨by rw[hn];exact(hh.mem.1 e1).1,(hh.mem.1 e1).2,e2⟩⟩);simp +decide (maxDischargeDepth:=200) only[go_sem,Nat.reduceBEq,o0,oZ,io,d1];refine lC 10 2 99 A1k ?_;refine bf (X:={q:(List Int×List Int×List Int)×Value×Nat//KInv hs R hs.length q.1.1 q.1.2.2 q.1.2.1∧T8 q.1.2.2}) (fun q=>[(3,.ptr 3 0),(4,.sl false 1 (hs.map au) none),(5,.sl false 1 ((dU hs hs.length).map rI) none),(6,.x (.slice (some ⟨gW,0,none⟩) hs.length hs.length)),(7,.x (.pointer (some ⟨p,0,none⟩))),(10,.sl q.1.1.1.isEmpty 2 (q.1.1.1.map fun g=>so C R (cw hs hs.length g)) (some q.1.2.2))]) (fun _=>[(3,[.sl false 3 (C.map aa) none,.sl false 1 (R.map rI) none,.sl false 1 (S.map rI) none])]) (fun q H'=>OI H H' p gW ty q.1.2.1 q.1.1.2.1 q.1.1.2.2) (fun q=>hs.length+1-q.1.1.1.length) ⟨(([],es,aW R hs hs.length),r,99),hK0,hW0⟩ A0e A0e hO ?_;clear hO hK0 hW0 hWl hes hem hi hil d1;clear r es H1;rintro⟨⟨⟨ts,es,W⟩,r,tok⟩,hK,hWk⟩ H1 hO;simp only at hK hWk hO⊢;obtain⟨htn,hth⟩:=hK.ord.nodup;have htl:ts.length<=hs.length:=cK htn (fun x hx=>hin x (hth x hx));have hel:es.length<=hs.length:=cK hK.nd (fun x hx=>hin x ((hK.es x).1 hx).1);obtain⟨ra,rc,hrow⟩:=hO.row;subst hrow;have c1:=aS hO.q.1;have fq:Hq Try.prog 50 0=some 0:=A0a
 simp +decide (maxDischargeDepth:=200) only[go_sem,Nat.reduceBEq,o0,oZ,fq,c1];refine⟨ra,es.length,rc,rfl,?_⟩;rcases abZ es with he|⟨e0,eN,he⟩
 . subst he;have z0:decide (((([]:List Int).length:Nat):Int)>0)=false:=rfl;simp +decide (maxDischargeDepth:=200) only[go_sem,Nat.reduceBEq,o0,oZ,z0];refine I0 (fun y ob hy=>(hO.k y ob hy).1) ?_;rw[hn] at hK⊢;exact hT hs S ts hW hh hK.ord (hK.all hF hR hh)
 have hes:es≠[]:=by rw[he,ab0];simp
 clear he e0 eN;have z1:decide ((es.length:Int)>0)=true:=Zk (by have:=List.length_pos_iff.2 hes;omega);simp +decide (maxDischargeDepth:=200) only[go_sem,Nat.reduceBEq,o0,oZ,z1];refine⟨p,.slice ra es.length rc,es,rfl,hO.q,hes,hO.hp,fun r' g es' H' hq hperm hle hheap ho hf=>?_⟩;have hO1:=hO.step hq hheap ho hf;clear hO hq hheap ho hf c1;obtain⟨hgh,hgt,hgw⟩:=(hK.es g).1 (hperm.symm.subset (ZP ..));obtain⟨g0,gn⟩:=hin g hgh;obtain⟨hK2,hWk2⟩:=hK.step hin (by rw[hn];exact hR) (by rw[hn];exact hSr) (by rw[hn];exact hrev) hRn hSn hperm (fun x hx=>hle x (hperm.symm.subset (ZI _ hx)));replace hWk2:=hWk2 hWk;have hmem:=LS hin g0 gn hs.length (Zt _);have hpsl:(cw hs hs.length g).length<=400:=ZL (IZ _ _ _) A0c;have hpsr:∀x∈cw hs hs.length g,0<=x∧x.toNat<hs.length:=fun x hx=>(oS.1 hx).1
 have hpsn:cw hs hs.length g≠[]:=List.ne_nil_of_mem (oS.2 ⟨⟨g0,gn⟩,(hh.mem.1 hgh).2⟩);have hkv:so C R (cw hs hs.length g)=so C R (cw hs hs.length g):=rfl;generalize hps:cw hs hs.length g=ps at hmem hpsl hpsr hpsn hK2 hWk2 hkv;obtain⟨kb,hkb⟩:∃kb,so C R ps= .agg [.sl false 3 ((ps.map (iE C)).map aa) none,.x (.bool kb)]:=⟨_,rfl⟩;have k1:FE kN OY (kN (C,R,S,ps))=some (so C R ps):=(cL Ev OY (C,R,S,ps)).trans (Zp ⟨hR,fun x hx=>by rw[<-hn];exact hpsr x hx,hpsl,hpsn⟩);simp only[kN,gF] at k1;have g2:g<(hs.length:Int):=A0c
 have g3:g<((dU hs hs.length).length:Int):=by rw[fG];exact g2
 have arr:((dU hs hs.length).map rI)[g.toNat]?=some (.sl false 1 (ps.map au) none):=by rw[Io,hmem,aah,TZ hpsn]
 have gr:=ff (E:=iC [(13,FE kN OY)] (fun _=>false)) (el:=37) (n:=2) Pv Pw Px A0b rfl (es:=ts.map fun g=>so C R (cw hs hs.length g)) (v:= .agg [.sl false 3 ((ps.map (iE C)).map aa) none,.x (.bool kb)]) (by rfl) A0z A0z;rw[hkb] at k1;simp only[List.isEmpty_map] at gr;simp +decide (maxDischargeDepth:=200) only[go_sem,Nat.reduceBEq,o0,oZ,io,fG,g0,g2,arr,k1,gr];generalize hfr:(co S hs W ps).2=fr at hK2;generalize hW2:(co S hs W ps).1=W2 at hK2 hWk2;refine jp (fun k=>match k with|3=>[64,65]|4=>[66]|7=>[63,67,68,69]|8=>[70]|_=>[]) (fun L H2 val=>∃b z,val=zX (.agg [.sl false 3 (C.map aa) none,.sl false 1 (R.map rI) none,.sl false 1 (S.map rI) none]) (.sl false 1 (hs.map au) none) (.sl false 1 ((dU hs hs.length).map rI) none) gW hs.length g ps fr b z∧(fr≠[]->b=false∧z=1)∧H2=if L.testBit 7=true then upd H' gW (some (rowO (W2.map iv) ty)) else H') (zX (.agg [.sl false 3 (C.map aa) none,.sl false 1 (R.map rI) none,.sl false 1 (S.map rI) none]) (.sl false 1 (hs.map au) none) (.sl false 1 ((dU hs hs.length).map rI) none) gW hs.length g ps fr false 1) A0a A0a ⟨false,1,rfl,fun _=>⟨rfl,rfl⟩,A0l⟩ ?_ ?_
 . intro L k o H2 val st ho hb hdd hcl hI hn0 hbase hbb;have b3:st.t 3= .ptr 3 0:=(hbase 3 A0a).trans A0n;have b4:st.t 4= .sl false 1 (hs.map au) none:=(hbase 4 A0a).trans A0n;have b5:st.t 5= .sl false 1 ((dU hs hs.length).map rI) none:=(hbase 5 A0a).trans A0n;have b6:st.t 6= .x (.slice (some ⟨gW,0,none⟩) hs.length hs.length):=(hbase 6 A0a).trans A0n;have b11:st.t 11=au g:=(hbase 11 A0a).trans A0n;have x3:st.b 3=some [.sl false 3 (C.map aa) none,.sl false 1 (R.map rI) none,.sl false 1 (S.map rI) none]:=by rw[hbb];simp +decide (maxDischargeDepth:=200) only[go_sem,Nat.reduceBEq]
   obtain⟨b,z,hval,hbz,hH2⟩:=hI;have nx:∀k,k≠7->∃b z,val=zX (.agg [.sl false 3 (C.map aa) none,.sl false 1 (R.map rI) none,.sl false 1 (S.map rI) none]) (.sl false 1 (hs.map au) none) (.sl false 1 ((dU hs hs.length).map rI) none) gW hs.length g ps fr b z∧(fr≠[]->b=false∧z=1)∧H2=if (L|||2^k).testBit 7=true then upd H' gW (some (rowO (W2.map iv) ty)) else H':=fun k hk=>⟨b,z,hval,hbz,by rw[ar L hk];exact hH2⟩
   clear hbase hbb hdd hcl;rcases k with _|_|_|_|_|_|_|_|_|_|k
   . cases ho;simp +decide (maxDischargeDepth:=200) only[go_sem,Nat.reduceBEq,b3,x3];exact⟨val,fun _ _=>rfl,nx _ A0b,by rw[hval];exact Le.refl _⟩
   . cases ho;simp +decide (maxDischargeDepth:=200) only[go_sem,Nat.reduceBEq,b5];exact⟨val,fun _ _=>rfl,nx _ A0b,by rw[hval];exact Le.refl _⟩
   . cases ho;simp +decide (maxDischargeDepth:=200) only[go_sem,Nat.reduceBEq,b11];exact⟨val,fun _ _=>rfl,nx _ A0b,by rw[hval];exact Le.refl _⟩
   . cases ho;have h64:st.t 64= .sl false 1 ((dU hs hs.length).map rI) none:=(hn0 64 A0b).trans A0q;have h65:st.t 65=au g:=(hn0 65 A0b).trans A0q;simp +decide (maxDischargeDepth:=200) only[go_sem,Nat.reduceBEq,h64,h65,io,fG,g0,g2,arr];exact⟨val,fun _ _=>rfl,nx _ A0b,by rw[hval];exact Le.refl _⟩
   . cases ho;have h66:st.t 66= .ip [.sl false 1 (ps.map au) none]:=(hn0 66 A0b).trans A0q;simp +decide (maxDischargeDepth:=200) only[go_sem,Nat.reduceBEq,h66];exact⟨val,fun _ _=>rfl,nx _ A0b,by rw[hval];exact Le.refl _⟩
   . cases ho;simp +decide (maxDischargeDepth:=200) only[go_sem,Nat.reduceBEq,b4];exact⟨val,fun _ _=>rfl,nx _ A0b,by rw[hval];exact Le.refl _⟩
   . cases ho;simp +decide (maxDischargeDepth:=200) only[go_sem,Nat.reduceBEq,b6];exact⟨val,fun _ _=>rfl,nx _ A0b,by rw[hval];exact Le.refl _⟩
   . cases ho;have h63:st.t 63= .agg [.sl false 3 (C.map aa) none,.sl false 1 (R.map rI) none,.sl false 1 (S.map rI) none]:=(hn0 63 A0b).trans A0q;have h67:st.t 67= .sl false 1 (ps.map au) none:=(hn0 67 A0b).trans A0q;have h68:st.t 68= .sl false 1 (hs.map au) none:=(hn0 68 A0b).trans A0q;have h69:st.t 69= .x (.slice (some ⟨gW,0,none⟩) hs.length hs.length):=(hn0 69 A0b).trans A0q;rw[hb] at hH2;simp only[ZK,Zz] at hH2;subst hH2;simp +decide (maxDischargeDepth:=200) only[go_sem,Nat.reduceBEq,h63,h67,h68,h69,o0,oZ];refine⟨C,R,S,hs,ps,W,gW,ty,rfl,by rw[hn];exact hSr,hin,hpsr,hpsl,hK.len,hWk,hO1.w,fun b' z' hbz'=>?_⟩;rw[hfr] at hbz'⊢;rw[hW2];simp +decide (maxDischargeDepth:=200) only[go_sem,Nat.reduceBEq];exact⟨zX (.agg [.sl false 3 (C.map aa) none,.sl false 1 (R.map rI) none,.sl false 1 (S.map rI) none]) (.sl false 1 (hs.map au) none) (.sl false 1 ((dU hs hs.length).map rI) none) gW hs.length g ps fr b' z',fun k hk=>by rw[hval];exact LX (fun e=>hk A0Z),⟨b',z',rfl,hbz',by rw[Zp (bR L 7)]⟩,Le.refl _⟩
   . cases ho;have h70:st.t 70= .sl b z (fr.map au) none:=(hn0 70 A0b).trans A0q;simp +decide (maxDischargeDepth:=200) only[go_sem,Nat.reduceBEq,h70,io];exact⟨val,fun _ _=>rfl,nx _ A0b,by rw[hval];exact Le.refl _⟩
   . cases ho;simp +decide (maxDischargeDepth:=200) only[go_sem,Nat.reduceBEq];exact⟨val,fun _ _=>rfl,nx _ A0b,by rw[hval];exact Le.refl _⟩
   . cases ho
 rintro H2 val ⟨b,z,rfl,hbz,rfl⟩;rw[Zp A0b];have hel2:(es'++fr).length<=hs.length:=cK hK2.nd (fun x hx=>hin x ((hK2.es x).1 hx).1);rw[Zr] at hel2;have hO2:=hO1.waits W2;refine⟨[(3,.ptr 3 0),(4,.sl false 1 (hs.map au) none),(5,.sl false 1 ((dU hs hs.length).map rI) none),(6,.x (.slice (some ⟨gW,0,none⟩) hs.length hs.length)),(7,.x (.pointer (some ⟨p,0,none⟩))),(10,.sl false 2 ((ts.map fun g=>so C R (cw hs hs.length g))++[.agg [.sl false 3 ((ps.map (iE C)).map aa) none,.x (.bool kb)]]) (some 62)),(70,.sl b z (fr.map au) none),(71,au (fr.length:Int)),(72,au 0)],[(3,[.sl false 3 (C.map aa) none,.sl false 1 (R.map rI) none,.sl false 1 (S.map rI) none])],⟨(aq A0a).trans A0n,(aq A0a).trans A0n,(aq A0a).trans A0n,(aq A0a).trans A0n,(aq A0a).trans A0n,(aq A0a).trans A0n,eF A0a,eF A0a,eF A0a,trivial⟩,⟨by simp +decide (maxDischargeDepth:=200) only[go_sem,Nat.reduceBEq,fh],trivial⟩,?_⟩;simp +decide (maxDischargeDepth:=200) only[go_sem,Nat.reduceBEq,o0,oZ,io];refine bf (X:={q:Nat×Value×List Int//q.1<=fr.length∧q.2.2.Perm (es'++fr.take q.1)}) (fun q=>[(3,.ptr 3 0),(4,.sl false 1 (hs.map au) none),(5,.sl false 1 ((dU hs hs.length).map rI) none),(6,.x (.slice (some ⟨gW,0,none⟩) hs.length hs.length)),(7,.x (.pointer (some ⟨p,0,none⟩))),(10,.sl false 2 ((ts.map fun g=>so C R (cw hs hs.length g))++[.agg [.sl false 3 ((ps.map (iE C)).map aa) none,.x (.bool kb)]]) (some 62)),(70,.sl b z (fr.map au) none),(71,au (fr.length:Int)),(72,au ((q.1.1:Nat):Int))]) (fun _=>[(3,[.sl false 3 (C.map aa) none,.sl false 1 (R.map rI) none,.sl false 1 (S.map rI) none])]) (fun q H3=>OI H H3 p gW ty q.1.2.1 q.1.2.2 W2) (fun q=>fr.length-q.1.1) ⟨(0,r',es'),Z0 _,A0l⟩ A0e A0e hO2 ?_;clear hO2 hO1;rintro⟨⟨k,r2,e2⟩,hk,hp2⟩ H2 hO;simp only at hk hp2 hO⊢;by_cases hkl:k<fr.length
 case neg=>
  obtain rfl:k=fr.length:=A0c
  have d1:decide ((fr.length:Int)<(fr.length:Int))=false:=Zl A0c;rw[aak] at hp2;have iso:(ts++[g]).isEmpty=false:=by cases ts<;>rfl
  have mapf:(ts++[g]).map (fun g=>so C R (cw hs hs.length g))=(ts.map fun g=>so C R (cw hs hs.length g))++[.agg [.sl false 3 ((ps.map (iE C)).map aa) none,.x (.bool kb)]]:=by rw[ZY,ZN,aba,hps,hkb]
  simp +decide (maxDischargeDepth:=200) only[go_sem,Nat.reduceBEq,o0,oZ,io,d1];refine⟨⟨((ts++[g],e2,W2),r2,62),hK2.perm hp2,hWk2⟩,⟨?_,?_,hO⟩,by simp only[Zr,aai];omega⟩
  . simp +decide (maxDischargeDepth:=200) only[go_sem,Nat.reduceBEq,iso,mapf]
  . simp +decide (maxDischargeDepth:=200) only[go_sem,Nat.reduceBEq]
 have d1:decide ((k:Int)<(fr.length:Int))=true:=Zk A0c;have d2:(0:Int)<=(k:Int):=A0c
 have d3:(k:Int)<(fr.length:Int):=A0c
 have d4:=aQ (i:=k) A0c;have q1:fr[k]?=some fr[k]:=eq hkl;have q2:(fr.map au)[((k:Nat):Int).toNat]?=some (au fr[k]):=by rw[iO,Io,q1];rfl
 have qm:fr[k]∈fr:=Z1 hkl;generalize fr[k]=a at q1 q2 qm;obtain⟨rfl,rfl⟩:=hbz (fun h=>by rw[h] at hkl;cases hkl);rw[iO] at q2;have hl2:=hp2.length_eq;rw[Zr,ZS,aaW A0c] at hl2;simp +decide (maxDischargeDepth:=200) only[go_sem,Nat.reduceBEq,o0,oZ,io,iO,d1,d2,d3,d4,q2];refine⟨p,r2,e2,a,rfl,hO.q,A0c,hO.hp,fun r3 e3 H3 hq hperm3 hheap ho hf=>?_⟩;simp +decide (maxDischargeDepth:=200) only[go_sem,Nat.reduceBEq,o0,oZ,d4];refine⟨⟨(k+1,r3,e3),hkl,hperm3.trans ?_⟩,⟨?_,?_,hO.step hq hheap ho hf⟩,by simp only;omega⟩
 . simp only;rw[aO q1,<-aam];exact hp2.append_right _
 . simp +decide (maxDischargeDepth:=200) only[go_sem,Nat.reduceBEq]
 . simp +decide (maxDischargeDepth:=200) only[go_sem,Nat.reduceBEq]
theorem wF {α:Type} {f:α->Bool}:∀{l:List α},(∀x∈l,f x=true)->l.takeWhile f=l∧l.dropWhile f=[]
 |[],_=>⟨rfl,rfl⟩
 |a::l,h=>by obtain⟨h1,h2⟩:=wF (l:=l) (fun x hx=>h x (ZI _ hx));have ha:=h a (ZP ..);simp only[List.takeWhile,List.dropWhile,ha,h1,h2,and_self]
theorem lO:∀(n:Nat) (l:List En),l.length=n->iF ab (bo l)->cC l=l
 |0,l,hl,_=>by rw[abf.1 hl];rfl
 | n+1,l,hl,hs=>by
   rcases abZ l with e|⟨m,e,rfl⟩
   . rw[e] at hl;cases hl
   . rw[ab0] at hl hs⊢;unfold bo at hs;rw[ZY] at hs;obtain⟨h1,_,h3⟩:=aaC.1 hs;rw[qg,lO n m (by simpa using hl) h1];obtain⟨t1,t2⟩:=wF (l:=m) (f:=fun x=>ab x.1 e.1) (fun x hx=>h3 x.1 (ZA.2 ⟨x,hx,rfl⟩) e.1 A0l);unfold ou;rw[t1,t2]
theorem oU (l:List En):(dw l).2.1.length=(dw l).1.length:=(lM l (bG (ak l)) (bG (ak l)).length).1
theorem wG (l:List En):(dw l).1.Nodup:=dl _
theorem sr (L:List En) (c:C3):(ox L c).Nodup:=by
 unfold ox;split
 . refine(zw L _).imp fun {a b} h e=>?_
   subst e;rw[bQ.irr] at h;cases h
 . exact Z8
theorem lP (l:List En):∀r∈(dw l).2.1,r.Nodup:=fun r hr=>by
 obtain⟨i,hi⟩:=aad.1 hr;have hil:i<(dw l).1.length:=by rw[<-oU];exact(tl.1 hi).1
 obtain⟨es,h1,_,h3⟩:=jv (l:=l) (eq hil);rw[hi] at h1;cases h1;have:=sr (cC l) (dw l).1[i];rw[<-h3] at this;exact(abN.1 this).imp fun h e=>h A0Z
theorem gO (l:List En):(dw l).1=bo (cC l):=oL l
variable {e:En}
theorem wH {l:List En} {i:Nat} (hi:(cC l)[i]?=some e) (h:eb (cC l) e=[]):(dw l).2.1[i]?=some []:=by
 have hc:(dw l).1[i]?=some e.1:=by rw[gO];unfold bo;rw[Io,hi];rfl
 obtain⟨es,h1,_,h3⟩:=jv hc;rw[lI (fE l) (Zo hi),h] at h3;rw[h1,List.map_eq_nil_iff.1 h3]
theorem LY {l:List En} {i:Nat} {q:C3} (hi:(cC l)[i]?=some e) (h:eb (cC l) e=[q]) (hk:(dw l).1[k]?=some q):(dw l).2.1[i]?=some [(k:Int)]:=by
 have hc:(dw l).1[i]?=some e.1:=by rw[gO];unfold bo;rw[Io,hi];rfl
 obtain⟨es,h1,h2,h3⟩:=jv hc;rw[lI (fE l) (Zo hi),h] at h3;rw[h1]
 match es,h3,h2 with
 |[],h3,_=>cases h3
 | [z],h3,h2=>
   obtain⟨z0,zl⟩:=h2 z (Zn.2 rfl);have hz:(dw l).1[z.toNat]?=some (dw l).1[z.toNat]:=eq zl;have hq:iE (bG (ak l)) z=q:=by simpa using h3
   unfold iE at hq;have hq2:(dw l).1[z.toNat]=q:=by rw[show(bG (ak l))[z.toNat]?=some (dw l).1[z.toNat] from hz] at hq;exact hq
   obtain⟨hkl,hk2⟩:=tl.1 hk;have:=(acr (wG l)).1 (hq2.trans hk2.symm);rw[show z=(k:Int) by omega]
 |_::_::_,h3,_=>simp at h3
theorem wI (hn:l.Nodup) (h:∀x,x∈l↔x=g):l=[g]:=by
 match l,hn,h with
 |[],_,h=>exact absurd ((h g).2 rfl) A0l
 |[a],_,h=>rw[(h a).1 (Zn.2 rfl)]
 |a::b::t,hn,h=>have ha:=(h a).1 A0l;have hb:=(h b).1 A0l;rw[ha,hb] at hn;simp at hn
theorem zY (hs:List Int) (n:Nat) (g:Int):(cw hs n g).Nodup:=by unfold cw List.Nodup;rw[abN];exact(List.Pairwise.filter _ List.nodup_range).imp fun h e=>h A0c
section
variable {R:List (List Int)} {n:Nat} {hs:List Int}
theorem oV {d:Int->Nat} (hd:∀x y,y∈rowS R x->d y<d x) {x y:Int} (h:ReachI R x y):d y<d x:=by
 induction h with
 |one h=>exact hd _ _ h
 |step _ h ih=>exact Nat.lt_trans (hd _ _ h) ih
theorem my (hH:HeadsOK R n hs) (d:Int->Nat) (hd:∀x y,y∈rowS R x->d y<d x) {x:Int} (hx:0<=x∧x.toNat<n):atI hs x=x:=by
 rcases(hH.at hx).1 with h|⟨h1,h2⟩
 . exact h.symm
 . have:=oV hd h1;have:=oV hd h2;omega
theorem oW (ha:∀x:Int,0<=x∧x.toNat<n->atI hs x=x) {g:Int} (hg:0<=g∧g.toNat<n):cw hs n g=[g]:=
 wI (zY _ _ _) fun x=>by rw[oS];exact⟨fun⟨h1,h2⟩=>by rw[ha x h1] at h2;exact h2,fun e=>by subst e;exact⟨hg,ha _ hg⟩⟩
theorem wJ (ha:∀x:Int,0<=x∧x.toNat<n->atI hs x=x) {g:Int} (hg:0<=g∧g.toNat<n) (p:Int->Bool):wt hs R n p g=(kM hs g p (rowZ R g):Nat):=by
 rw[wv];congr 1;refine(dp (g:=fun i=>if i=g.toNat then kM hs g p (rowZ R g) else 0) fun i hi=>?_).trans (wu _ hg.2);rw[ha (i:Int) ⟨A0c,by rw[iO];exact hi⟩];by_cases e:i=g.toNat
 . subst e;rw[aal hg.1,Zp rfl,Zp rfl]
 . rw[Zs e,Zs A0c]
theorem lQ (hH:HeadsOK R n hs) (ha:∀x:Int,0<=x∧x.toNat<n->atI hs x=x) {g:Int}:g∈hs↔0<=g∧g.toNat<n:=hH.mem.trans ⟨fun h=>h.1,fun h=>⟨h,ha g h⟩⟩
theorem fi {f:Nat->Int} {i:Nat} (hi:i<=n) {x:Int}:x∈((List.range n).map f).take i↔∃j,j<i∧x=f j:=by
 rw[<-List.map_take,List.take_range,aaW hi,ZA];constructor
 . rintro⟨j,hj,rfl⟩;exact⟨j,ZT.1 hj,rfl⟩
 . rintro⟨j,hj,rfl⟩;exact⟨j,ZT.2 hj,rfl⟩
theorem Ex (hR:∀j,j<n->R[j]?=some []) (hl:R.length=n) (hH:HeadsOK R n hs) {ts:List Int} (hO:OrdOK hs R n ts) (hA:∀g∈hs,g∈ts):ts=(List.range n).map (fun(i:Nat)=>(i:Int))∧∀g:Int,0<=g∧g.toNat<n->cw hs n g=[g]:=by
 have hrow:∀x:Int,rowZ R x=[]:=fun x=>by
  unfold rowZ;by_cases h:x.toNat<n
  . rw[hR _ h];rfl
  . rw[ZM A0c];rfl
 have ha:∀x:Int,0<=x∧x.toNat<n->atI hs x=x:=fun x hx=>my hH (fun _=>0) (fun x y h=>by have h:y∈rowZ R x:=h;rw[hrow] at h;cases h) hx
 refine⟨Bw hO (fun i g hi=>?_) hA (fun g hg=>?_),fun g hg=>oW ha hg⟩
 . rw[Io,Zu] at hi;obtain⟨j,hj,rfl⟩:=hi;obtain⟨hin,e⟩:=tl.1 hj;rw[List.getElem_range] at e;subst e;rw[abK] at hin;have hir:0<=(i:Int)∧(i:Int).toNat<n:=⟨A0c,by rw[iO];exact hin⟩;refine⟨(lQ hH ha).2 hir,fun h=>?_,?_,fun h h1 h2 _=>?_⟩
   . obtain⟨j,hj,e⟩:=(fi A0c).1 h;omega
   . rw[wJ ha hir,hrow];rfl
   . obtain⟨h0,hn⟩:=(lQ hH ha).1 h1;rcases Int.lt_or_le h (i:Int) with e|e
     . exact absurd ((fi A0c).2 ⟨h.toNat,A0c,(aal h0).symm⟩) h2
     . exact e
 . obtain⟨h0,hn⟩:=(lQ hH ha).1 hg;exact ZA.2 ⟨g.toNat,ZT.2 hn,aal h0⟩
def gQ (n j:Nat):Nat:=if j+1=n then 0 else j+1
def dC (n cut j:Nat):Nat:=if j<=cut then cut-j else cut+n-j
theorem LZ {j:Nat} (hj:j<n):(j+1)%n=gQ n j:=by
 unfold gQ;split
 . rename_i e;rw[e,Nat.mod_self]
 . exact abx A0c
theorem ON {cut i:Nat} (hc:cut<n) (hi:i<n):(cut+n-i)%n=dC n cut i:=by
 unfold dC;split
 . rw[show cut+n-i=cut-i+n by omega,Nat.add_mod_right,abx A0c]
 . exact abx A0c
theorem Ey {cut:Nat} (hc:cut<n) (hR:∀j,j<n->R[j]?=some (if j=cut then [] else [((gQ n j:Nat):Int)])) (hl:R.length=n) (hH:HeadsOK R n hs) {ts:List Int} (hO:OrdOK hs R n ts) (hA:∀g∈hs,g∈ts):
 ts=(List.range n).map (fun(i:Nat)=>((dC n cut i:Nat):Int))∧(∀g:Int,0<=g∧g.toNat<n->cw hs n g=[g])∧∀g:Int,0<=g∧g.toNat<n->g∉rowZ R g:=by
 have hrow:∀j:Nat,j<n->rowZ R (j:Int)=if j=cut then [] else [((gQ n j:Nat):Int)]:=fun j hj=>by unfold rowZ;rw[iO,hR j hj];rfl
 have hrw:∀x y:Int,y∈rowZ R x->x.toNat<n∧x.toNat≠cut∧y=((gQ n x.toNat:Nat):Int):=fun x y h=>by
  unfold rowZ at h;by_cases hx:x.toNat<n
  . rw[hR _ hx] at h;by_cases e:x.toNat=cut
    . rw[Zp e] at h;cases h
    . rw[Zs e] at h;exact⟨hx,e,by simpa using h⟩
  . rw[ZM A0c] at h;cases h
 have ha:∀x:Int,0<=x∧x.toNat<n->atI hs x=x:=fun x hx=>my hH (fun x=>dC n cut x.toNat) (fun x y h=>by obtain⟨h1,h2,rfl⟩:=hrw x y h;simp only[iO];unfold dC gQ;split<;>split<;>split<;>omega) hx
 have hcnt:∀(j:Nat) (p:Int->Bool),j<n->wt hs R n p (j:Int)=if j≠cut∧p ((gQ n j:Nat):Int)=true then 1 else 0:=fun j p hj=>by
  have hnj:gQ n j<n:=by unfold gQ;split<;>omega
  have hnx:j≠cut->((gQ n j:Nat):Int)≠(j:Int):=fun e=>by unfold gQ;split<;>omega
  rw[wJ ha ⟨A0c,by rw[iO];exact hj⟩,hrow j hj];by_cases e:j=cut
  . rw[Zp e,Zs (fun h=>h.1 e)];rfl
  . rw[Zs e];unfold kM;rw[abz,List.countP_nil,ha _ ⟨A0c,by rw[iO];exact hnj⟩];cases hp:p ((gQ n j:Nat):Int) with
    |true=>simp[hnx e,e]
    |false=>simp
 refine⟨Bw hO (fun i g hi=>?_) hA (fun g hg=>?_),fun g hg=>oW ha hg,fun g hg h=>?_⟩
 . rw [Io,Zu] at hi;obtain⟨j,hj,rfl⟩:=hi;obtain⟨hin,e⟩:=tl.1 hj;rw[List.getElem_range] at e;subst e;rw[abK] at hin;have hdn:∀j,j<n->dC n cut j<n:=fun j hj=>by unfold dC;split<;>omega
   have hir:0<=((dC n cut i:Nat):Int)∧((dC n cut i:Nat):Int).toNat<n:=⟨A0c,by rw[iO];exact hdn i hin⟩;refine⟨(lQ hH ha).2 hir,fun h=>?_,?_,fun h h1 h2 h3=>?_⟩
   . obtain⟨j,hj,e⟩:=(fi A0c).1 h;have e:dC n cut i=dC n cut j:=A0c
     unfold dC at e;split at e<;>split at e<;>omega
   . rw[hcnt _ _ (hdn i hin),Zs];rintro⟨h1,h2⟩;unfold untold at h2;refine ZO h2 ((fi A0c).2 ⟨i-1,?_,?_⟩)
     . unfold dC at h1;split at h1<;>omega
     . congr 1;unfold dC at h1⊢;unfold gQ;split at h1<;>(repeat' split)<;>omega
   . obtain⟨h0,hn⟩:=(lQ hH ha).1 h1;obtain⟨j,rfl⟩:=aaf h0;rw[iO] at hn;have hjj:j=dC n cut (dC n cut j):=by unfold dC;(repeat' split)<;>omega
     have hge:i<=dC n cut j:=by
      rcases aac (dC n cut j) i with e|e
      . exact absurd ((fi A0c).2 ⟨dC n cut j,e,by rw[<-hjj]⟩) h2
      . exact e
     rcases Nat.eq_or_lt_of_le hge with e|e
     . rw[e,<-hjj];exact aa5 _
     . have h3:wt hs R n (untold (((List.range n).map (fun(i:Nat)=>((dC n cut i:Nat):Int))).take i)) (j:Int)=0:=h3;rw[hcnt j _ hn] at h3;have hjc:j≠cut:=by rintro rfl;unfold dC at e;rw[Zp (Zt _)] at e;omega
       have hp:untold (((List.range n).map (fun(i:Nat)=>((dC n cut i:Nat):Int))).take i) ((gQ n j:Nat):Int)=true:=by
        unfold untold;refine Zk fun hm=>?_
        obtain⟨j',hj',e'⟩:=(fi A0c).1 hm;have e':gQ n j=dC n cut j':=A0c
        unfold dC at e e';unfold gQ at e';split at e<;>split at e'<;>split at e'<;>omega
       exact absurd h3 (by rw[Zp ⟨hjc,hp⟩];decide)
 . obtain⟨h0,hn⟩:=(lQ hH ha).1 hg;refine ZA.2 ⟨dC n cut g.toNat,ZT.2 (by unfold dC;split<;>omega),?_⟩;have:dC n cut (dC n cut g.toNat)=g.toNat:=by unfold dC;(repeat' split)<;>omega
   rw[this];exact aal h0
 . obtain⟨h1,h2,h3⟩:=hrw g g h;unfold gQ at h3;split at h3<;>omega
theorem wK (hn:0<n) (hR:∀j,j<n->R[j]?=some [((gQ n j:Nat):Int)]) (hH:HeadsOK R n hs) {ts:List Int} (hO:OrdOK hs R n ts) (hA:∀g∈hs,g∈ts):
 ts=[0]∧(cw hs n 0).length=n∧(cw hs n 0).headD 0=0∧rowZ R 0=[((gQ n 0:Nat):Int)]:=by
 have hrow:∀j:Nat,j<n->rowZ R (j:Int)=[((gQ n j:Nat):Int)]:=fun j hj=>by unfold rowZ;rw[iO,hR j hj];rfl
 have hup:∀k j:Nat,j+k+1<n->ReachI R (j:Int) ((j+k+1:Nat):Int):=fun k=>by
  induction k with
  |zero=>intro j hj;exact .one (show _∈rowZ R _ by rw[hrow j A0c];unfold gQ;rw[Zs A0c];exact Zn.2 rfl)
  |succ k ih=>intro j hj;exact .step (ih j A0c) (show _∈rowZ R _ by rw[hrow _ A0c];unfold gQ;rw[Zs A0c];exact Zn.2 rfl)
 have hlast:ReachI R ((n-1:Nat):Int) ((0:Nat):Int):= .one (show _∈rowZ R _ by rw[hrow _ A0c];unfold gQ;rw[Zp A0c];exact Zn.2 rfl);have h0:∀j:Nat,j<n->ReachI R (j:Int) ((0:Nat):Int):=fun j hj=>by
  rcases aac (j+1) n with e|e
  . have:=hup (n-1-(j+1)) j A0c;rw[show j+(n-1-(j+1))+1=n-1 by omega] at this;exact this.trans hlast
  . rw[show j=n-1 by omega];exact hlast
 have h1:∀j:Nat,j<n->ReachI R ((0:Nat):Int) (j:Int):=fun j hj=>by
  rcases abB j with e|e
  . subst e;exact h0 0 hn
  . have:=hup (j-1) 0 A0c
    rwa [show 0+(j-1)+1=j by omega] at this
 have ha:∀x:Int,0<=x∧x.toNat<n->atI hs x=0:=fun x hx=>by
  obtain⟨_,⟨q1,_⟩,q3⟩:=hH.at hx
  have:=q3 0 (aa5 _) hn (.inr (by have a:=h0 x.toNat hx.2;have b:=h1 x.toNat hx.2;rw[aal hx.1] at a b;exact⟨a,b⟩))
  omega
 have hz:∀g:Int,g∈hs↔g=0:=fun g=>hH.mem.trans ⟨fun⟨a,b⟩=>by rw[ha g a] at b;exact b.symm,fun e=>by subst e;exact⟨⟨aa5 _,hn⟩,ha 0 ⟨aa5 _,hn⟩⟩⟩
 obtain⟨o1,o2⟩:=hO.nodup;have hK:cw hs n 0=(List.range n).map (fun(i:Nat)=>(i:Int)):=by unfold cw;rw[ab9.2 fun(i:Nat) hi=>Zk (ha (i:Int) ⟨A0c,by rw[iO];exact ZT.1 hi⟩)]
 refine⟨wI o1 fun x=>⟨fun h=>(hz x).1 (o2 x h),fun e=>hA x ((hz x).2 e)⟩,by rw[hK];simp,?_,hrow 0 hn⟩;rw[hK];obtain⟨m,rfl⟩:∃m,n=m+1:=⟨n-1,A0c⟩;rw[List.range_succ_eq_map];rfl
end
def wN:En:=((⟨#[115]⟩,1,1),false,.leaf ⟨0,⟨#[]⟩,⟨#[]⟩,0,0,⟨#[]⟩,⟨#[]⟩,0,0,⟨#[]⟩,0,0⟩,(0,0,⟨#[]⟩))
theorem OO:Ei (true,0,([]:List En)):=⟨⟨fun h=>absurd rfl h,Z0 _,fun e he=>by cases he⟩,fun e he=>by cases he⟩
theorem OP:Ei (false,20,[wN]):=⟨⟨fun _=>rfl,A0b,fun e he=>by rw[Zn.1 he];decide⟩,fun e he=>by rw[Zn.1 he];decide⟩
theorem I1 (hH:HeadsOK (dw []).2.1 (dw []).1.length hs) (hO:OrdOK hs (dw []).2.1 (dw []).1.length ts):ts=[]:=by
 have h0:(dw []).1=[]:=by rw[gO];rfl
 rw[h0] at hH;have hh:hs=[]:=abf.1 hH.1;subst hh
 match ts,hO.nodup.2 with
 |[],_=>rfl
 |a::_,h=>cases h a (ZP ..)
theorem L3 (hH:HeadsOK (dw [wN]).2.1 (dw [wN]).1.length hs) (hO:OrdOK hs (dw [wN]).2.1 (dw [wN]).1.length ts) (hA:∀g∈hs,g∈ts):ts=[0]∧so (dw [wN]).1 (dw [wN]).2.1 (cw hs (dw [wN]).1.length 0)= .agg [.sl false 3 [.agg [.x (.string ⟨#[115]⟩),.x (.int .i64 1),.x (.int .i64 1)]] none,.x (.bool false)]:=by
 have hl:cC [wN]=[wN]:=lO 1 _ rfl (aaV _ _);have h0:(dw [wN]).1=[(⟨#[115]⟩,1,1)]:=by rw[gO,hl];rfl
 have h1:(dw [wN]).2.1[0]?=some []:=wH (e:=wN) (by rw[hl];rfl) rfl;have h2:=oU [wN];rw[h0] at h2 hH hO⊢;obtain⟨q1,q2⟩:=Ex (n:=1) (fun j hj=>by rw[show j=0 by omega];exact h1) h2 hH hO hA;refine⟨q1,?_⟩;have q3:cw hs [((⟨#[115]⟩,1,1):C3)].length 0=[0]:=q2 0 ⟨aa5 _,A0b⟩;have q4:rowZ (dw [wN]).2.1 0=[]:=by unfold rowZ;rw[show(0:Int).toNat=0 from rfl,h1];rfl
 rw[q3];unfold so OX;rw[show List.headD [(0:Int)] 0=0 from rfl,q4];rfl
def dV:List V->Option V
 |[]=>some (.x (.bool true))
 |_=>none
def T1 (us:List V) (H:HH) (T:V->HH->Prop):Prop:=us=[]∧T (.x (.bool true)) H
def qC:List (FuncId×(List V->HH->Tr)):=[(5,T0)]
theorem Ez:cn (bz [] [] [] (fun _=>false) (fun _=>false)) 4 T1:=by refine cf (F:={F:=vz qC,D:=fun _=>false}) (n:=29) (k:=0) (bi [] [] [] _ _ trivial trivial trivial) A0a (fD (l:=qC) ⟨qB,trivial⟩) (fun t s C e=>by cases e) Try.func4 rfl (fun a w=>Try.call4 a w) Try.ntmps4 A0b A0b A0a ?_;rintro us H T ⟨rfl,hT⟩ hdat;clear hdat;refine⟨rfl,?_⟩;simp +decide (maxDischargeDepth:=200) only[go_sem,Nat.reduceBEq,qC];refine⟨false,20,[wN],rfl,OP,zU OP.1.2.1 OP.1.2.2,lP _,fun hs S ts _ hH hO hA=>?_⟩;obtain⟨rfl,hk⟩:=L3 hH hO hA;rw[ZN,aba,hk];clear hk hH hO hA;simp +decide (maxDischargeDepth:=200) only[go_sem,Nat.reduceBEq,qC];refine⟨true,0,[],rfl,OO,zU OO.1.2.1 OO.1.2.2,lP _,fun hs S ts _ hH hO hA=>?_⟩;obtain rfl:=I1 hH hO;simp +decide (maxDischargeDepth:=200) only[go_sem,Nat.reduceBEq,qC,aba];exact hT
theorem wL:dA 4 dV:=by
 refine oT Ez ?_;intro us r hF;unfold dV at hF;split at hF
 case h_2=>cases hF
 cases hF;exact⟨rfl,rfl⟩
def eR (m c:Nat) (op:Bool) (i:Nat):En:=((⟨#[115]⟩,((1+i:Nat):Int),1),!(op&&decide (i=c)),.leaf ⟨2,⟨#[]⟩,⟨#[]⟩,0,0,⟨#[]⟩,⟨#[115]⟩,((1+gQ m i:Nat):Int),1,⟨#[]⟩,0,0⟩,(0,0,⟨#[]⟩))
def cq (m c:Nat) (op:Bool) (i:Nat):List En:=(List.range i).map (eR m c op)
theorem oX (m c:Nat) (op:Bool) (i:Nat):cq m c op (i+1)=cq m c op i++[eR m c op i]:=by unfold cq;rw[abg,ZY];rfl
theorem I2 (a b:Int):ab (⟨#[115]⟩,a,1) (⟨#[115]⟩,b,1)=decide (a<b):=by show gC _ _ _ _ _ _=_;unfold gC;rw[Zp rfl,Zp rfl]
theorem L4 {c:Int} (h1:1<=c) (h2:c<=702):bV ⟨#[115]⟩ c 1=true:=fv.2 ⟨by decide +kernel,h1,h2,A0c,A0c⟩
section
variable {m c:Nat} {op:Bool}
theorem L5 (hm:m<=20) (b:Bool):Ei (b,20,cq m c op m):=by
 refine⟨⟨fun _=>rfl,by simp only[cq,io,abK];omega,fun e he=>?_⟩,fun e he=>?_⟩
 . obtain⟨i,_,rfl⟩:=ZA.1 he;exact(by decide :(1:Nat)<=400)
 . obtain⟨i,_,rfl⟩:=ZA.1 he;show(⟨#[115]⟩:ByteArray).size<=_;decide
theorem qD:cC (cq m c op m)=cq m c op m:=by refine lO _ _ rfl ?_;unfold bo cq;rw[aat];refine abN.2 (ach.imp fun {a b} h=>?_);show ab (⟨#[115]⟩,_,1) (⟨#[115]⟩,_,1)=true;rw[I2];exact Zk A0c
theorem oY:(dw (cq m c op m)).1=(List.range m).map fun i=>(⟨#[115]⟩,((1+i:Nat):Int),1):=by rw[gO,qD];unfold bo cq;rw[aat];rfl
theorem EA (hm:m<=20) {j:Nat} (hj:j<m):(dw (cq m c op m)).2.1[j]?=some (if op=true∧j=c then [] else [((gQ m j:Nat):Int)]):=by
 have hi:(cC (cq m c op m))[j]?=some (eR m c op j):=by rw[qD];unfold cq;rw[Io,aav hj];rfl
 by_cases h:op=true∧j=c
 . rw[Zp h];refine wH hi ?_;unfold eb;rw[Zs];show¬(!(op&&decide (j=c)))=true;rw[h.1,Zk h.2];decide
 . rw[Zs h];have hnj:gQ m j<m:=by unfold gQ;split<;>omega
   have hc:(dw (cq m c op m)).1[gQ m j]?=some (⟨#[115]⟩,((1+gQ m j:Nat):Int),1):=by rw[oY,Io,aav hnj];rfl
   refine LY hi ?_ hc;have hf:(eR m c op j).2.1=true:=by
    show(!(op&&decide (j=c)))=true;cases op with
    |false=>rfl
    |true=>rw[Zl (fun e=>h ⟨rfl,e⟩)];rfl
   unfold eb;rw[Zp hf];have hr:aJ (eR m c op j).2.2.1=[(⟨#[115]⟩,((1+gQ m j:Nat):Int),1)]:=by show iV _=_;unfold iV;simp only[L4 (show(1:Int)<=((1+gQ m j:Nat):Int) by omega) A0c,decide_true,Bool.and_self,cond_true];rfl
   have hin:Ml (bo (cC (cq m c op m))) (⟨#[115]⟩,((1+gQ m j:Nat):Int),1)=true:=by unfold Ml;rw[<-gO];exact aaF.2 ⟨_,Zo hc,Zk rfl⟩
   rw[hr,aby,hin];rfl
end
def T2 (us:List V) (H:HH) (T:V->HH->Prop):Prop:=∃n cut op,us=[au n,au cut,.x (.bool op)]∧T (.x (.bool true)) H
theorem L6 (m c:Nat) (op:Bool) (i:Nat) {b:Bool} (h:(!(op&&decide (i=c)))=b):dv (eR m c op i)= .agg [.x (.string ⟨#[115]⟩),.x (.int .i64 ((1+i:Nat):Int)),.x (.int .i64 1),.x (.bool b),.x (.int .i64 2),.x (.string ⟨#[]⟩),.x (.string ⟨#[]⟩),.x (.int .i64 0),.x (.int .i64 0),.x (.string ⟨#[]⟩),.x (.string ⟨#[115]⟩),.x (.int .i64 ((1+gQ m i:Nat):Int)),.x (.int .i64 1),.x (.string ⟨#[]⟩),.x (.int .i64 0),.x (.int .i64 0),.sl true 0 [] none,.x (.int .i64 0),.x (.int .i64 0),.x (.string ⟨#[]⟩)]:=by subst h;rfl
def Ys (i c k:Nat):V:= .agg [.sl false 3 [.agg [.x (.string ⟨#[115]⟩),.x (.int .i64 ((1+dC i c k:Nat):Int)),.x (.int .i64 1)]] none,.x (.bool false)]
theorem OQ:cn (bz [(4,dV)] [] [] (fun _=>false) (fun _=>false)) 3 T2:=by
 refine cf (E:=(bz [(4,dV)] [] [] (fun _=>false) (fun _=>false))) (F:={F:=vz qC,D:=fun _=>false}) (n:=126) (k:=3) (bi _ _ _ _ _ ⟨wL,trivial⟩ trivial trivial) A0a (fD (l:=qC) ⟨qB,trivial⟩) (fun t s C e=>by cases e) Try.func3 rfl (fun a w=>Try.call3 a w) Try.ntmps3 A0b A0b A0a ?_;rintro us H T ⟨n,cut,op,rfl,hT⟩ hdat;clear hdat;refine⟨rfl,?_⟩;have e1:dV []=some (.x (.bool true)):=rfl;by_cases a1:n<1
 . have b1:decide (n<1)=true:=Zk a1;simp +decide (maxDischargeDepth:=200) only[go_sem,Nat.reduceBEq,qC,e1,b1];exact hT
 have b1:decide (n<1)=false:=Zl a1;by_cases a2:n>20
 . have b2:decide (n>20)=true:=Zk a2;simp +decide (maxDischargeDepth:=200) only[go_sem,Nat.reduceBEq,qC,e1,b1,b2];exact hT
 have b2:decide (n>20)=false:=Zl a2;by_cases a3:cut<0
 . have b3:decide (cut<0)=true:=Zk a3;simp +decide (maxDischargeDepth:=200) only[go_sem,Nat.reduceBEq,qC,e1,b1,b2,b3];exact hT
 have b3:decide (cut<0)=false:=Zl a3;by_cases a4:cut≥n
 . have b4:decide (cut≥n)=true:=Zk a4;simp +decide (maxDischargeDepth:=200) only[go_sem,Nat.reduceBEq,qC,e1,b1,b2,b3,b4];exact hT
 have b4:decide (cut≥n)=false:=Zl a4;obtain⟨m,rfl⟩:=aaf (show 0<=n by omega);obtain⟨c,rfl⟩:=aaf (show 0<=cut by omega);have hm1:1<=m:=A0c
 have hm:m<=20:=A0c
 have hc:c<m:=A0c
 clear a1 a2 a3 a4;have hm0: ¬(m:Int)=0:=A0c
 simp +decide (maxDischargeDepth:=200) only[go_sem,Nat.reduceBEq,qC,e1,b1,b2,b3,b4];clear b1 b2 b3 b4;refine lC 8 20 99 A1k ?_;refine bf (X:={q:Nat×Nat//q.1<=m}) (fun q=>[(0,au (m:Int)),(1,au (c:Int)),(2,.x (.bool op)),(8,.sl (cq m c op q.1.1).isEmpty 20 ((cq m c op q.1.1).map dv) (some q.1.2)),(9,au ((q.1.1:Nat):Int))]) (fun _=>[]) (fun _ H'=>H'=H) (fun q=>m-q.1.1) ⟨(0,99),Z0 _⟩ A0e A0e rfl ?_;rintro⟨⟨i,tok⟩,hi⟩ H1 rfl;simp only at hi⊢;by_cases hil:i<m
 case pos=>
  have d1:decide ((i:Int)<(m:Int))=true:=Zk A0c;have d4:=aQ (i:=i) A0c;have w1:aw .i64 (1+(i:Int))=((1+i:Nat):Int):=by rw[aj A0j];omega
  have w2:(((i+1:Nat):Int)).tmod (m:Int)=((gQ m i:Nat):Int):=by rw[<-LZ hil];exact(Int.ofNat_tmod _ _).symm
  have hnx:gQ m i<m:=by unfold gQ;split<;>omega
  have w3:aw .i64 (1+((gQ m i:Nat):Int))=((1+gQ m i:Nat):Int):=by rw[aj A0j];omega
  have iso:(cq m c op (i+1)).isEmpty=false:=by rw[oX];cases cq m c op i<;>rfl
  have hll:(cq m c op i).length=i:=by simp[cq]
  have key:∀(b:Bool),(!(op&&decide (i=c)))=b->∀st d tok nl t',cS (bz [(4,dV)] [] [] (fun _=>false) (fun _=>false)) st (some d) 32 (.sl (cq m c op i).isEmpty 20 ((cq m c op i).map dv) (some tok)) (.sl nl 20 [.agg [.x (.string ⟨#[115]⟩),.x (.int .i64 ((1+i:Nat):Int)),.x (.int .i64 1),.x (.bool b),.x (.int .i64 2),.x (.string ⟨#[]⟩),.x (.string ⟨#[]⟩),.x (.int .i64 0),.x (.int .i64 0),.x (.string ⟨#[]⟩),.x (.string ⟨#[115]⟩),.x (.int .i64 ((1+gQ m i:Nat):Int)),.x (.int .i64 1),.x (.string ⟨#[]⟩),.x (.int .i64 0),.x (.int .i64 0),.sl true 0 [] none,.x (.int .i64 0),.x (.int .i64 0),.x (.string ⟨#[]⟩)]] t')=some ⟨upd (strip tok (strip d st.t)) d (.sl false 20 ((cq m c op (i+1)).map dv) (some d)),aC (bz [(4,dV)] [] [] (fun _=>false) (fun _=>false)) tok (aC (bz [(4,dV)] [] [] (fun _=>false) (fun _=>false)) d st.b)⟩:=fun b hb st d tok nl t'=>by have:=ff (E:=(bz [(4,dV)] [] [] (fun _=>false) (fun _=>false))) (el:=32) (n:=20) Ps Pt Pu A0b rfl (es:=(cq m c op i).map dv) (v:= .agg [.x (.string ⟨#[115]⟩),.x (.int .i64 ((1+i:Nat):Int)),.x (.int .i64 1),.x (.bool b),.x (.int .i64 2),.x (.string ⟨#[]⟩),.x (.string ⟨#[]⟩),.x (.int .i64 0),.x (.int .i64 0),.x (.string ⟨#[]⟩),.x (.string ⟨#[115]⟩),.x (.int .i64 ((1+gQ m i:Nat):Int)),.x (.int .i64 1),.x (.string ⟨#[]⟩),.x (.int .i64 0),.x (.int .i64 0),.sl true 0 [] none,.x (.int .i64 0),.x (.int .i64 0),.x (.string ⟨#[]⟩)]) (by rfl) A0z A0z st d tok nl t';rw[List.isEmpty_map] at this;rw[this,oX,ZY,ZN,aba,L6 m c op i hb]
  cases op with
  | false=>
    have g1:=key true rfl;simp +decide (maxDischargeDepth:=200) only[go_sem,Nat.reduceBEq,qC,d1,d4,w1,w2,w3,hm0,g1];refine⟨⟨(i+1,61),hil⟩,⟨?_,?_,rfl⟩,by simp only;omega⟩
    . simp +decide (maxDischargeDepth:=200) only[go_sem,Nat.reduceBEq,iso]
    . simp +decide (maxDischargeDepth:=200) only[go_sem,Nat.reduceBEq]
  | true=>
    by_cases hic:i=c
    . have e5:decide ((i:Int)=(c:Int))=true:=Zk A0c;have g1:=key false (by rw[Zk hic];rfl);simp +decide (maxDischargeDepth:=200) only[go_sem,Nat.reduceBEq,qC,d1,d4,w1,w2,w3,hm0,e5,g1];refine⟨⟨(i+1,61),hil⟩,⟨?_,?_,rfl⟩,by simp only;omega⟩
      . simp +decide (maxDischargeDepth:=200) only[go_sem,Nat.reduceBEq,iso]
      . simp +decide (maxDischargeDepth:=200) only[go_sem,Nat.reduceBEq]
    . have e5:decide ((i:Int)=(c:Int))=false:=Zl A0c;have g1:=key true (by rw[Zl hic];rfl);simp +decide (maxDischargeDepth:=200) only[go_sem,Nat.reduceBEq,qC,d1,d4,w1,w2,w3,hm0,e5,g1];refine⟨⟨(i+1,61),hil⟩,⟨?_,?_,rfl⟩,by simp only;omega⟩
      . simp +decide (maxDischargeDepth:=200) only[go_sem,Nat.reduceBEq,iso]
      . simp +decide (maxDischargeDepth:=200) only[go_sem,Nat.reduceBEq]
 obtain rfl:i=m:=A0c
 have d1:decide ((i:Int)<(i:Int))=false:=Zl A0c;simp +decide (maxDischargeDepth:=200) only[go_sem,Nat.reduceBEq,qC,d1];have hokr:=L5 (m:=i) (c:=c) (op:=op) hm (cq i c op i).isEmpty;refine⟨(cq i c op i).isEmpty,20,cq i c op i,rfl,hokr,zU hokr.1.2.1 hokr.1.2.2,lP _,fun hs S ts _ hH hO hA=>?_⟩;have hC:=oY (m:=i) (c:=c) (op:=op);have hRl:=oU (cq i c op i);have hRr:=fun j hj=>EA (m:=i) (c:=c) (op:=op) hm (j:=j) hj
 generalize (dw (cq i c op i)).2.1=R at*;generalize (dw (cq i c op i)).1=C at*;have hCl:C.length=i:=by rw[hC];simp
 rw[hCl] at hRl hH hO⊢;cases op with
 | false=>
   obtain⟨rfl,hlen,hhd,hr0⟩:=wK (n:=i) hm1 (fun j hj=>by rw[hRr j hj,Zs (fun h=>by cases h.1)]) hH hO hA;have hk:so C R (cw hs i 0)= .agg [.sl false 3 (((cw hs i 0).map (iE C)).map aa) none,.x (.bool true)]:=by
    unfold so OX;rw[hhd,hlen,hr0];congr 4;by_cases h1:(1:Int)<(i:Int)
    . rw[Zk h1,Bool.true_or]
    . rw[show i=1 by omega];rfl
   rw[ZN,aba,hk];generalize cw hs i 0=ps at hlen;simp +decide (maxDischargeDepth:=200) only[go_sem,Nat.reduceBEq,qC,io,hlen];exact hT
 | true=>
   obtain⟨rfl,hK,hnr⟩:=Ey (n:=i) (cut:=c) hc (fun j hj=>by rw[hRr j hj];simp) hRl hH hO hA;have hmap:((List.range i).map fun(j:Nat)=>((dC i c j:Nat):Int)).map (fun g=>so C R (cw hs i g))=(List.range i).map (Ys i c):=by
    rw[aat];refine aaN fun j hj=>?_
    have hj:=ZT.1 hj;have hd:dC i c j<i:=by unfold dC;split<;>omega
    have hg:0<=((dC i c j:Nat):Int)∧((dC i c j:Nat):Int).toNat<i:=⟨A0c,by rw[iO];exact hd⟩;show so C R (cw hs i ((dC i c j:Nat):Int))=_;rw[hK _ hg];unfold so OX;rw[show List.headD [((dC i c j:Nat):Int)] 0=((dC i c j:Nat):Int) from rfl,Zl (hnr _ hg),show decide ((1:Int)<(([((dC i c j:Nat):Int)].length:Nat):Int))=false from rfl];have hat:iE C ((dC i c j:Nat):Int)=(⟨#[115]⟩,((1+dC i c j:Nat):Int),1):=by unfold iE;rw[iO,hC,Io,aav hd];rfl
    rw[ZN,aba,hat];rfl
   have hie:((List.range i).map fun(j:Nat)=>((dC i c j:Nat):Int)).isEmpty=false:=by
    rw[List.isEmpty_map];cases i with
    |zero=>omega
    |succ i=>rw[List.range_succ_eq_map];rfl
   rw[hmap,hie];clear hmap hie hK hnr hRr hC hokr hH hO hA;simp +decide (maxDischargeDepth:=200) only[go_sem,Nat.reduceBEq,qC,io,abK];refine bf (X:={k:Nat//k<=i}) (fun k=>[(0,au (i:Int)),(1,au (c:Int)),(11,.sl false 2 ((List.range i).map (Ys i c)) none),(12,au ((k.1:Nat):Int))]) (fun _=>[]) (fun _ H'=>H'=H1) (fun k=>i-k.1) ⟨0,Z0 _⟩ A0e A0e rfl ?_;rintro⟨k,hk⟩ H2 rfl;simp only at hk⊢;by_cases hkl:k<i
   case neg=>have f1:decide ((k:Int)<(i:Int))=false:=Zl A0c;simp +decide (maxDischargeDepth:=200) only[go_sem,Nat.reduceBEq,qC,f1];exact hT
   have f1:decide ((k:Int)<(i:Int))=true:=Zk A0c;have f2:(0:Int)<=(k:Int):=A0c
   have f3:(k:Int)<(i:Int):=A0c
   have f4:=aQ (i:=k) A0c;have arr:((List.range i).map (Ys i c))[k]?=some (.agg [.sl false 3 [.agg [.x (.string ⟨#[115]⟩),.x (.int .i64 ((1+dC i c k:Nat):Int)),.x (.int .i64 1)]] none,.x (.bool false)]):=by rw[Io,aav hkl];rfl
   have hd:dC i c k<i:=by unfold dC;split<;>omega
   have w1:aw .i64 ((c:Int)-(k:Int))=(c:Int)-(k:Int):=aj A0j;have w2:aw .i64 ((c:Int)-(k:Int)+(i:Int))=((c+i-k:Nat):Int):=by rw[aj A0j];omega
   have w3:((c+i-k:Nat):Int).tmod (i:Int)=((dC i c k:Nat):Int):=by rw[<-ON hc hkl];exact(Int.ofNat_tmod _ _).symm
   have w4:aw .i64 (1+((dC i c k:Nat):Int))=((1+dC i c k:Nat):Int):=by rw[aj A0j];omega
   simp +decide (maxDischargeDepth:=200) only[go_sem,Nat.reduceBEq,qC,io,abK,iO,f1,f2,f3,f4,arr,w1,w2,w3,w4,hm0];refine⟨⟨k+1,hkl⟩,⟨?_,?_,rfl⟩,by simp only;omega⟩
   . simp +decide (maxDischargeDepth:=200) only[go_sem,Nat.reduceBEq]
   . simp +decide (maxDischargeDepth:=200) only[go_sem,Nat.reduceBEq]
def MG:List V->Option V
 |[.x (.int .i64 _),.x (.int .i64 _),.x (.bool _)]=>some (.x (.bool true))
 |_=>none
theorem I3:dA 3 MG:=by
 refine oT OQ ?_;intro us r hF;unfold MG at hF;split at hF
 case h_2=>cases hF
 cases hF;exact⟨_,_,_,rfl,rfl⟩
end Go.Proofs.Ytmfojhkjbkombaa
