/- Chapter 13: the order: plainly, and the queue beside the rows. -/
import Derived.Test.YtmfojhkjbkombaaGreatMKd
import Derived.Test.YtmfojhkjbkombaaGreatMKc
import Derived.Test.YtmfojhkjbkombaaGreatMX
namespace Go.Proofs.YtmfojhkjbkombaaGreat
set_option linter.unusedSimpArgs false
set_option maxHeartbeats 64000000
set_option maxRecDepth 100000
open Go Go.RowKit
attribute [go_sem] Tryz.results5 Tryz.results6 Tryz.results8
variable {hs ts:List Int} {R:List (List Int)} {n:Nat}
theorem KInv.perm {W es es':List Int} (h:KInv hs R n ts W es) (hp:es'.Perm es):KInv hs R n ts W es':=⟨h.len,h.w,h.z,hp.nodup_iff.2 h.nd,fun x=>hp.mem_iff.trans (h.es x),h.ord⟩
theorem OrdOK.nodup (h:OrdOK hs R n ts):ts.Nodup∧∀g∈ts,g∈hs:=by
 refine⟨?_,fun g hg=>?_⟩
 . unfold List.Nodup;rw[aal];intro i j hi hj hij e;have:=(h j ts[j] (io hj)).2.1;exact this (e▸Zo.2 ⟨i,by rw[Zm,YG hij];exact io hi⟩)
 . obtain⟨i,hi⟩:=Zo.1 hg;exact(h i g hi).1
theorem zA {m:Nat} {f:Nat->Nat} (h:∀i,i<n->f i<=m):dy n f<=n*m:=by
 induction n with
 |zero=>rw[qn];omega
 |succ n ih=>rw[ca,Nat.succ_mul];have:=ih (fun i hi=>h i A0b);have:=h n A0b;omega
theorem IA (hh:∀x∈hs,0<=x∧x.toNat<hs.length) (hR:bK hs.length R):TC (bf R hs hs.length):=by
 intro x hx;obtain⟨j,hj⟩:=Zo.1 hx;have hjl:j<hs.length:=by
  have:=(iO.1 hj).1;rcases aa3 hs.length with e|e
  . rw[e] at this;unfold bf at this;simp[ZJ.1 e] at this
  . rwa [(iX hh (h:=0) (aa4 _) e hs.length (YJ _)).1] at this
 have h1:=(iX (R:=R) hh (h:=(j:Int)) A0b (by rw[tl];exact hjl) hs.length (YJ _)).2;rw[eS hj,vK] at h1;have h2:dy hs.length (fun i=>if atI hs (i:Int)=(j:Int) then ly hs (j:Int) (fun _=>true) (rowZ R (i:Int)) else 0)<=hs.length*100000000:=zA fun i hi=>by
  split
  . refine Y6 (List.countP_le_length ..) ?_;unfold rowZ;rw[tl,io (by rw[hR.1];exact hi)];exact(hR.2.2 _ (Y5 _)).1
  . omega
 have h3:=hR.2.1;rw[h1];constructor
 . omega
 . have:hs.length*100000000<=400*100000000:=Zr _ h3;omega
variable {g:Int}
theorem oM {x:Int}:x∈dc hs n g↔(0<=x∧x.toNat<n)∧atI hs x=g:=by
 unfold dc;simp only[YR,Zq,Ze,Zh];constructor
 . rintro⟨j,⟨h1,h2⟩,rfl⟩;exact⟨⟨aar j,by rw[tl];exact h1⟩,h2⟩
 . rintro⟨⟨h0,h1⟩,h2⟩;exact⟨x.toNat,⟨h1,by rw[ZI h0];exact h2⟩,ZI h0⟩
theorem IB (hs:List Int) (n:Nat) (g:Int):(dc hs n g).length<=n:=by unfold dc;rw[eq];exact Y6 (Z5 _ _) A0j
def we (C:List C3) (R:List (List Int)) (ps:List Int):V:=Tk C ps (decide (1<(ps.length:Int))||decide (ps.headD 0∈rowZ R (ps.headD 0)))
abbrev KN:=List C3×List (List Int)×List (List Int)×List Int
def kI (p:KN):List V:=[gD p.1 p.2.1 p.2.2.1,.sl false 1 (p.2.2.2.map aq) none]
theorem D3 (p q:KN) (e:kI p=kI q):p=q:=by obtain⟨a,b,c,d⟩:=p;obtain⟨a',b',c',d'⟩:=q;simp only[kI,gD,Zb,V.agg.injEq,V.sl.injEq,Z7,aaU] at e;obtain⟨⟨h1,h2,h3⟩,h4⟩:=e;rw[aZ cF h1,aZ rH h2,aZ rH h3,aZ mF h4]
def XA (p:KN):Prop:=bK p.1.length p.2.1∧(∀x∈p.2.2.2,0<=x∧x.toNat<p.1.length)∧p.2.2.2.length<=400∧p.2.2.2≠[]
open Classical in
noncomputable def OA (p:KN):Option V:=if XA p then some (we p.1 p.2.1 p.2.2.2) else none
theorem oN {E:Env} {f:FuncId} {C:List V->HH->Tr} {F:List V->Option V} (h:cn E f C) (hc:∀us r,F us=some r->C us (fun _=>none) (fun v _=>v=r)):Fun E f F:=by refine⟨h.1,fun m w vs us r hF hdat hr hj hg=>?_⟩;refine(h.2 m w vs us (fun _=>none) _ (hc us r hF) hdat hr (fun g ob e=>by cases e) hj hg).mono ?_;rintro e w' ⟨v,m',u,H',rfl,hv,rfl,hs,_⟩;exact⟨v,m',rfl,hv,hs.below (fun k _ hn=>hn rfl),fun blk hb=>(hs.same blk hb (fun hn=>hn rfl)).2⟩
theorem D4:cM 24 (FE kI OA):=by
 refine oN Ij ?_;intro us r hF;obtain⟨⟨C,R,S,ps⟩,rfl,hG⟩:=bE hF;unfold OA at hG;split at hG
 case isFalse=>cases hG
 rename_i hok;cases hG;obtain⟨h1,h2,h3,h4⟩:=hok;obtain⟨p,pt,rfl⟩:=List.exists_cons_of_ne_nil h4;exact⟨C,R,S,p,pt,rfl,h1,h2,h3,rfl⟩
theorem IC {H H':HH} {r:V} {T:V->HH->Prop} (hk:∀y ob,H y=some ob->H' y=some ob) (hT:T r H):G4 r H' T:=by
 refine⟨fun y=>(H y).isNone,r,fun m w v _ _ h=>h,?_⟩;have e:(fun g=>if (H g).isNone=true then none else H' g)=H:=by
  funext g;cases hg:H g with
  |none=>simp
  |some ob=>simp[hk g ob hg]
 rw[e];exact hT
structure OI (H H':HH) (p gW:Nat) (ty:TypeId) (r:Value) (es W:List Int):Prop where
 q:QJ H' p r es
 hp:HeapN es es.length
 w:H' gW=some (rowO (W.map iv) ty)
 wp:gW≠p
 wr:blkOf r≠some gW
 k:∀y ob,H y=some ob->H' y=some ob∧y≠p∧y≠gW∧blkOf r≠some y
section
variable {H H' H2:HH} {p gW:Nat} {ty:TypeId} {r r':Value} {es es' W:List Int}
theorem OI.step (h:OI H H' p gW ty r es W) (hq:QJ H2 p r' es') (hp:HeapN es' es'.length) (ho:Oth H' H2 p r) (hf:Fr H' r r'):OI H H2 p gW ty r' es' W:=by
 have key:∀y ob,H' y=some ob->blkOf r≠some y->blkOf r'≠some y:=fun y ob h0 h1 e=>by
  rcases hf y e with e|e
  . exact h1 e
  . rw[h0] at e;cases e
 refine⟨hq,hp,ho gW _ h.w h.wp h.wr,h.wp,key gW _ h.w h.wr,fun y ob hy=>?_⟩;obtain⟨k1,k2,k3,k4⟩:=h.k y ob hy;exact⟨ho y ob k1 k2 k4,k2,k3,key y ob k1 k4⟩
theorem OI.waits (h:OI H H' p gW ty r es W) (W':List Int):OI H (upd H' gW (some (rowO (W'.map iv) ty))) p gW ty r es W':=by obtain⟨q1,q2,q3,q4,q5⟩:=h.q;refine⟨⟨by rw[ag _ _ (ZY h.wp)];exact q1,q2.other h.wr,q3,q4,q5⟩,h.hp,aj _ _ _,h.wp,h.wr,fun y ob hy=>?_⟩;obtain⟨k1,k2,k3,k4⟩:=h.k y ob hy;exact⟨by rw[ag _ _ k3];exact k1,k2,k3,k4⟩
theorem OI.row (h:OI H H' p gW ty r es W):∃a c,r= .slice a es.length c:=by
 rcases h.q.2.1 with⟨rfl,rfl⟩|⟨g,cap,cur,ty,rfl,_⟩
 . exact⟨_,_,rfl⟩
 . exact⟨_,_,rfl⟩
theorem OI.zero (hp:H p=none) (hg:H gW=none) (hne:gW≠p):OI H (upd (upd H gW (some (rowO (W.map iv) ty))) p (some (rowO [.slice none 0 0] 62))) p gW ty (.slice none 0 0) [] W:=by
 refine⟨⟨aj _ _ _,.inl ⟨rfl,rfl⟩,fun h=>A0S,rfl,A0j⟩,fun k _ h=>A0S,by rw[ag _ _ hne,aj],hne,fun h=>A0S,fun y ob hy=>?_⟩;have h1:y≠p:=fun e=>by rw[e,hp] at hy;cases hy
 have h2:y≠gW:=fun e=>by rw[e,hg] at hy;cases hy
 exact⟨by rw[ag _ _ h1,ag _ _ h2];exact hy,h1,h2,fun h=>A0S ⟩
end
noncomputable abbrev OE:Env:=bP [(24,FE kI OA)] [] [] (fun _=>false) (fun _=>false)
theorem Tt:EnvOK OE:=bw _ _ _ _ _ ⟨D4,trivial⟩ trivial trivial
def oQ:List (FuncId×(List V->HH->Tr)):=[(17,Ts),(18,Iq),(19,Tf),(20,HA),(21,SY),(23,Mh),(22,SS),(25,Ie)]
def oR:Fx:={F:=uX oQ,D:=fun d=>d==24,any:=fun i=>i==16}
theorem Oo:∀f C,oR.F f=some C->cn OE f C:=fA (l:=oQ) ⟨LG,DW,vG,Dt,Lm,HS,vu,DN,trivial⟩
variable {l:List Int}
theorem Tu (h:l≠[]):rI l= .sl false 1 (l.map aq) none:=by
 cases l with
 |nil=>exact absurd rfl h
 |cons a l=>rfl
def zB (WB HSVV MEMV:V) (gW n:Nat) (g:Int) (ps fr:List Int) (b:Bool) (z:Nat):Nat->V
 |63=>WB|64=>MEMV|65=>aq g|66=> .ip [.sl false 1 (ps.map aq) none]|67=> .sl false 1 (ps.map aq) none|68=>HSVV|69=> .x (.slice (some ⟨gW,0,none⟩) n n)|70=> .sl b z (fr.map aq) none|71=>aq (fr.length:Int)|72=>aq 0|_=> .undef
theorem LP {WB HSVV MEMV:V} {gW:Nat} {ps fr:List Int} {b b':Bool} {z z':Nat} {k:Nat} (h:k≠70):zB WB HSVV MEMV gW n g ps fr b z k=zB WB HSVV MEMV gW n g ps fr b' z' k:=by unfold zB;split<;>first|rfl|exact absurd rfl h
def Tv (us:List V) (H:HH) (T:V->HH->Prop):Prop:=∃nl sz l,us=ct (nl,sz,l)∧DM (nl,sz,l)∧Dp (dO l)∧(∀r∈(dO l).2.1,r.Nodup)∧
 ∀hs S ts,Ir (dO l).1.length (dO l).2.1 S->HeadsOK (dO l).2.1 (dO l).1.length hs->OrdOK hs (dO l).2.1 (dO l).1.length ts->(∀g∈hs,g∈ts)->T (.sl ts.isEmpty 2 (ts.map fun g=>we (dO l).1 (dO l).2.1 (dc hs (dO l).1.length g)) none) H
theorem qu:cn OE 8 Tv:=by
 refine kA (F:=oR) (n:=81) (k:=1) Tt A0a Oo (fun t s C e=>by cases e) Tryz.func8 rfl (fun a w=>Tryz.call8 a w) Tryz.ntmps8 A0c A0c A0a ?_;rintro us H T ⟨nl,sz,l,rfl,hok,hpd,hnd,hT⟩ hdat;clear hdat;refine⟨rfl,?_⟩;simp only[ct];simp +decide (maxDischargeDepth:=200) only[go_sem,Nat.reduceBEq,oR,oQ];refine⟨nl,sz,l,rfl,hok,hpd,hnd,fun S hS=>?_⟩;clear hok hnd hpd;generalize (dO l).1=C at hT hS⊢;generalize (dO l).2.1=R at hT hS⊢;have hW:=hS;obtain⟨hR,hSr,hrev,hRn,hSn⟩:=hS;have hC4:C.length<=400:=hR.2.1;simp only[gD];simp +decide (maxDischargeDepth:=200) only[go_sem,Nat.reduceBEq,oR,oQ];refine⟨C,R,S,rfl,hR,hSr,hrev,fun hs hh hfo=>?_⟩;obtain⟨out,hF⟩:=hfo;have hn:=hh.1;have hin:=hh.in;simp +decide (maxDischargeDepth:=200) only[go_sem,Nat.reduceBEq,oR,oQ];refine⟨hs,rfl,A0b,hin,?_⟩;simp +decide (maxDischargeDepth:=200) only[go_sem,Nat.reduceBEq,oR,oQ];refine⟨C,R,S,hs,rfl,by rw[hn];exact hR,hin,fun gW ty hgW=>?_⟩;simp +decide (maxDischargeDepth:=200) only[go_sem,Nat.reduceBEq,oR,oQ];intro p hp;obtain⟨hp0,hne⟩:=gJ hp;replace hne:gW≠p:=ZY hne;have hO0:=OI.zero (ty:=ty) (W:=bf R hs hs.length) hp0 hgW hne;have hW0:=IA hin (by rw[hn];exact hR);have hWl:(bf R hs hs.length).length=hs.length∨hs.length=0:=by
  rcases aa3 hs.length with e|e
  . exact .inr e
  . exact .inl (iX hin (h:=0) (aa4 _) e hs.length (YJ _)).1
 simp +decide (maxDischargeDepth:=200) only[go_sem,Nat.reduceBEq,oR,oQ,eq];refine bp (X:={q:Nat×Value×List Int//q.1<=hs.length∧q.2.2.Nodup∧∀h:Int,h∈q.2.2↔(0<=h∧h.toNat<q.1)∧atI hs h=h∧atI (bf R hs hs.length) h=0}) (fun q=>[(3,.ptr 3 0),(4,.sl false 1 (hs.map aq) none),(5,.sl false 1 ((dX hs hs.length).map rI) none),(6,.x (.slice (some ⟨gW,0,none⟩) hs.length hs.length)),(7,.x (.pointer (some ⟨p,0,none⟩))),(25,.sl false 1 (hs.map aq) none),(26,aq (hs.length:Int)),(27,aq ((q.1.1:Nat):Int))]) (fun _=>[(3,[.sl false 3 (C.map aa) none,.sl false 1 (R.map rI) none,.sl false 1 (S.map rI) none])]) (fun q H'=>OI H H' p gW ty q.1.2.1 q.1.2.2 (bf R hs hs.length)) (fun q=>hs.length-q.1.1) ⟨(0,.slice none 0 0,[]),Zf _,ZD,fun h=>⟨fun e=>(by cases e),fun e=>absurd e.1.2 (aaB _)⟩⟩ A0d A0d hO0 ?_;clear hO0 hp hp0 hgW;rintro⟨⟨i,r,es⟩,hi,hes,hem⟩ H1 hO;simp only at hi hes hem hO⊢;by_cases hil:i<hs.length
 case pos=>
  have hWl:(bf R hs hs.length).length=hs.length:=hWl.resolve_right A0b;have d1:decide ((i:Int)<(hs.length:Int))=true:=Yz A0b;have d2:(0:Int)<=(i:Int):=A0b
  have d3:(i:Int)<(hs.length:Int):=A0b
  have d4:=aD (i:=i) A0b;have q1:hs[i]?=some hs[i]:=io hil;have q2:(hs.map aq)[((i:Nat):Int).toNat]?=some (aq hs[i]):=by rw[tl,Io,q1];rfl
  have qm:hs[i]∈hs:=Y5 hil;generalize hs[i]=a at q1 q2 qm;obtain⟨a0,al⟩:=hin a qm;have hai:atI hs (i:Int)=a:=eS q1;have a2:a<(hs.length:Int):=A0b
  have hel:es.length<=hs.length:=cO hes (fun z hz=>⟨((hem z).1 hz).1.1,by have:=((hem z).1 hz).1.2;omega⟩);rw[tl] at q2;have skip: ¬(a=(i:Int)∧atI (bf R hs hs.length) a=0)->es.Nodup∧∀h:Int,h∈es↔(0<=h∧h.toNat<i+1)∧atI hs h=h∧atI (bf R hs hs.length) h=0:=fun hno=>by
   refine⟨hes,fun h=>(hem h).trans ⟨fun⟨e1,e2⟩=>⟨⟨e1.1,A0b⟩,e2⟩,fun⟨e1,e2,e3⟩=>⟨⟨e1.1,?_⟩,e2,e3⟩⟩⟩;rcases Zu h.toNat i with e|e
   . exact e
   . have he:h=(i:Int):=A0b
     rw[he,hai] at e2;exact absurd ⟨e2,by rw[e2,<-he];exact e3⟩ hno
  by_cases hpl:(i:Int)=a
  case neg=>
   have e5:decide ((i:Int)=a)=false:=YA hpl;simp +decide (maxDischargeDepth:=200) only[go_sem,Nat.reduceBEq,oR,oQ,eq,tl,d1,d2,d3,d4,q2,e5];obtain⟨s1,s2⟩:=skip (fun h=>hpl h.1.symm);refine⟨⟨(i+1,r,es),hil,s1,s2⟩,⟨?_,?_,hO⟩,by simp only;omega⟩
   . simp +decide (maxDischargeDepth:=200) only[go_sem,Nat.reduceBEq]
   . simp +decide (maxDischargeDepth:=200) only[go_sem,Nat.reduceBEq]
  have e5:decide ((i:Int)=a)=true:=Yz hpl;obtain⟨v,hv⟩:∃v,(bf R hs hs.length)[a.toNat]?=some v:=⟨_,io A0b ⟩;have hav:atI (bf R hs hs.length) a=v:=eu hv;have c1:=aU hO.w;have z52:o5 Tryz.prog 41=some 1:=A0a
  have p4:(((bf R hs hs.length).map iv).map V.x)[a.toNat]?=some (aq v):=by rw[ZT,Io,hv];rfl
  by_cases hv0:v=0
  case neg=>
   have e6:decide (v=0)=false:=YA hv0;simp +decide (maxDischargeDepth:=200) only[go_sem,Nat.reduceBEq,oR,oQ,eq,tl,YP,YC,d1,d2,d3,d4,q2,e5,e6,z52,c1,p4,a0,a2];obtain⟨s1,s2⟩:=skip (fun h=>hv0 (hav.symm.trans h.2));refine⟨⟨(i+1,r,es),hil,s1,s2⟩,⟨?_,?_,hO⟩,by simp only;omega⟩
   . simp +decide (maxDischargeDepth:=200) only[go_sem,Nat.reduceBEq]
   . simp +decide (maxDischargeDepth:=200) only[go_sem,Nat.reduceBEq]
  have e6:decide (v=0)=true:=Yz hv0;simp +decide (maxDischargeDepth:=200) only[go_sem,Nat.reduceBEq,oR,oQ,eq,tl,YP,YC,d1,d2,d3,d4,q2,e5,e6,z52,c1,p4,a0,a2];refine⟨p,r,es,a,rfl,hO.q,A0b,hO.hp,fun r' es' H' hq hperm hheap ho hf=>?_⟩;simp +decide (maxDischargeDepth:=200) only[go_sem,Nat.reduceBEq,oR,oQ,d4];refine⟨⟨(i+1,r',es'),hil,hperm.nodup_iff.2 (aaa.2 ⟨hes,Z8 _ _,fun x hx y hy e=>?_⟩),fun h=>?_⟩,⟨?_,?_,hO.step hq hheap ho hf⟩,by simp only;omega⟩
  . rw[YF] at hy;have:=((hem x).1 hx).1.2;omega
  . rw[hperm.mem_iff,YM,YF,hem];constructor
    . rintro(⟨e1,e2⟩|rfl)
      . exact⟨⟨e1.1,by simp only;omega⟩,e2⟩
      . exact⟨⟨a0,by simp only;omega⟩,by rw[<-hpl,hai];exact hpl.symm▸rfl,by rw[hav];exact hv0⟩
    . rintro⟨e1,e2⟩;simp only at e1;rcases Zu h.toNat i with e|e
      . exact .inl ⟨⟨e1.1,e⟩,e2⟩
      . exact .inr A0b
  . simp +decide (maxDischargeDepth:=200) only[go_sem,Nat.reduceBEq]
  . simp +decide (maxDischargeDepth:=200) only[go_sem,Nat.reduceBEq]
 obtain rfl:i=hs.length:=A0b
 have d1:decide ((hs.length:Int)<(hs.length:Int))=false:=YA A0b;have hK0:KInv hs R hs.length [] (bf R hs hs.length) es:=KInv.zero hin hes (fun h=>(hem h).trans ⟨fun⟨e1,e2,e3⟩=>⟨hh.mem.2 ⟨by rw[<-hn];exact e1,e2⟩,e3⟩,fun⟨e1,e2⟩=>⟨by rw[hn];exact(hh.mem.1 e1).1,(hh.mem.1 e1).2,e2⟩⟩);simp +decide (maxDischargeDepth:=200) only[go_sem,Nat.reduceBEq,oR,oQ,eq,d1];refine k9 10 2 99 A0H ?_;refine bp (X:={q:(List Int×List Int×List Int)×Value×Nat//KInv hs R hs.length q.1.1 q.1.2.2 q.1.2.1∧TC q.1.2.2}) (fun q=>[(3,.ptr 3 0),(4,.sl false 1 (hs.map aq) none),(5,.sl false 1 ((dX hs hs.length).map rI) none),(6,.x (.slice (some ⟨gW,0,none⟩) hs.length hs.length)),(7,.x (.pointer (some ⟨p,0,none⟩))),(10,.sl q.1.1.1.isEmpty 2 (q.1.1.1.map fun g=>we C R (dc hs hs.length g)) (some q.1.2.2))]) (fun _=>[(3,[.sl false 3 (C.map aa) none,.sl false 1 (R.map rI) none,.sl false 1 (S.map rI) none])]) (fun q H'=>OI H H' p gW ty q.1.2.1 q.1.1.2.1 q.1.1.2.2) (fun q=>hs.length+1-q.1.1.1.length) ⟨(([],es,bf R hs hs.length),r,99),hK0,hW0⟩ A0d A0d hO ?_;clear hO hK0 hW0 hWl hes hem hi hil d1;clear r es H1;rintro⟨⟨⟨ts,es,W⟩,r,tok⟩,hK,hWk⟩ H1 hO;simp only at hK hWk hO⊢;obtain⟨htn,hth⟩:=hK.ord.nodup;have htl:ts.length<=hs.length:=cO htn (fun x hx=>hin x (hth x hx));have hel:es.length<=hs.length:=cO hK.nd (fun x hx=>hin x ((hK.es x).1 hx).1);obtain⟨ra,rc,hrow⟩:=hO.row;subst hrow;have c1:=aU hO.q.1;have fq:GU Tryz.prog 62 0=some 0:=A0a
 simp +decide (maxDischargeDepth:=200) only[go_sem,Nat.reduceBEq,oR,oQ,fq,c1];refine⟨ra,es.length,rc,rfl,?_⟩;rcases aa6 es with he|⟨e0,eN,he⟩
 . subst he;have z0:decide (((([]:List Int).length:Nat):Int)>0)=false:=rfl;simp +decide (maxDischargeDepth:=200) only[go_sem,Nat.reduceBEq,oR,oQ,z0];refine IC (fun y ob hy=>(hO.k y ob hy).1) ?_;rw[hn] at hK⊢;exact hT hs S ts hW hh hK.ord (hK.all hF hR hh)
 have hes:es≠[]:=by rw[he,aa7];simp
 clear he e0 eN;have z1:decide ((es.length:Int)>0)=true:=Yz (by have:=List.length_pos_iff.2 hes;omega);simp +decide (maxDischargeDepth:=200) only[go_sem,Nat.reduceBEq,oR,oQ,z1];refine⟨p,.slice ra es.length rc,es,rfl,hO.q,hes,hO.hp,fun r' g es' H' hq hperm hle hheap ho hf=>?_⟩;have hO1:=hO.step hq hheap ho hf;clear hO hq hheap ho hf c1;obtain⟨hgh,hgt,hgw⟩:=(hK.es g).1 (hperm.symm.subset (Zc ..));obtain⟨g0,gn⟩:=hin g hgh;obtain⟨hK2,hWk2⟩:=hK.step hin (by rw[hn];exact hR) (by rw[hn];exact hSr) (by rw[hn];exact hrev) hRn hSn hperm (fun x hx=>hle x (hperm.symm.subset (YY _ hx)));replace hWk2:=hWk2 hWk;have hmem:=LA hin g0 gn hs.length (YJ _);have hpsl:(dc hs hs.length g).length<=400:=Y6 (IB _ _ _) A0b;have hpsr:∀x∈dc hs hs.length g,0<=x∧x.toNat<hs.length:=fun x hx=>(oM.1 hx).1
 have hpsn:dc hs hs.length g≠[]:=List.ne_nil_of_mem (oM.2 ⟨⟨g0,gn⟩,(hh.mem.1 hgh).2⟩);have hkv:we C R (dc hs hs.length g)=we C R (dc hs hs.length g):=rfl;generalize hps:dc hs hs.length g=ps at hmem hpsl hpsr hpsn hK2 hWk2 hkv;obtain⟨kb,hkb⟩:∃kb,we C R ps= .agg [.sl false 3 ((ps.map (ji C)).map aa) none,.x (.bool kb)]:=⟨_,rfl⟩;have k1:FE kI OA (kI (C,R,S,ps))=some (we C R ps):=(cq D3 OA (C,R,S,ps)).trans (YG ⟨hR,fun x hx=>by rw[<-hn];exact hpsr x hx,hpsl,hpsn⟩);simp only[kI,gD] at k1;have g2:g<(hs.length:Int):=A0b
 have g3:g<((dX hs hs.length).length:Int):=by rw[fC];exact g2
 have arr:((dX hs hs.length).map rI)[g.toNat]?=some (.sl false 1 (ps.map aq) none):=by rw[Io,hmem,Zk,Tu hpsn]
 have gr:=cZ (E:=fF [(24,FE kI OA)] (fun _=>false)) (el:=32) (n:=2) OZ O0 O6 A0c rfl (es:=ts.map fun g=>we C R (dc hs hs.length g)) (v:= .agg [.sl false 3 ((ps.map (ji C)).map aa) none,.x (.bool kb)]) (by rfl) A0v A0v;rw[hkb] at k1;simp only[abn] at gr;simp +decide (maxDischargeDepth:=200) only[go_sem,Nat.reduceBEq,oR,oQ,eq,fC,g0,g2,arr,k1,gr];generalize hfr:(co S hs W ps).2=fr at hK2;generalize hW2:(co S hs W ps).1=W2 at hK2 hWk2;refine jg (fun k=>match k with|3=>[64,65]|4=>[66]|7=>[63,67,68,69]|8=>[70]|_=>[]) (fun L H2 val=>∃b z,val=zB (.agg [.sl false 3 (C.map aa) none,.sl false 1 (R.map rI) none,.sl false 1 (S.map rI) none]) (.sl false 1 (hs.map aq) none) (.sl false 1 ((dX hs hs.length).map rI) none) gW hs.length g ps fr b z∧(fr≠[]->b=false∧z=1)∧H2=if L.testBit 7=true then upd H' gW (some (rowO (W2.map iv) ty)) else H') (zB (.agg [.sl false 3 (C.map aa) none,.sl false 1 (R.map rI) none,.sl false 1 (S.map rI) none]) (.sl false 1 (hs.map aq) none) (.sl false 1 ((dX hs hs.length).map rI) none) gW hs.length g ps fr false 1) A0a A0a ⟨false,1,rfl,fun _=>⟨rfl,rfl⟩,A0j⟩ ?_ ?_
 . intro L k o H2 val st ho hb hdd hcl hI hn0 hbase hbb;have b3:st.t 3= .ptr 3 0:=(hbase 3 A0a).trans A0l;have b4:st.t 4= .sl false 1 (hs.map aq) none:=(hbase 4 A0a).trans A0l;have b5:st.t 5= .sl false 1 ((dX hs hs.length).map rI) none:=(hbase 5 A0a).trans A0l;have b6:st.t 6= .x (.slice (some ⟨gW,0,none⟩) hs.length hs.length):=(hbase 6 A0a).trans A0l;have b11:st.t 11=aq g:=(hbase 11 A0a).trans A0l;have x3:st.b 3=some [.sl false 3 (C.map aa) none,.sl false 1 (R.map rI) none,.sl false 1 (S.map rI) none]:=by rw[hbb];simp +decide (maxDischargeDepth:=200) only[go_sem,Nat.reduceBEq]
   obtain⟨b,z,hval,hbz,hH2⟩:=hI;have nx:∀k,k≠7->∃b z,val=zB (.agg [.sl false 3 (C.map aa) none,.sl false 1 (R.map rI) none,.sl false 1 (S.map rI) none]) (.sl false 1 (hs.map aq) none) (.sl false 1 ((dX hs hs.length).map rI) none) gW hs.length g ps fr b z∧(fr≠[]->b=false∧z=1)∧H2=if (L|||2^k).testBit 7=true then upd H' gW (some (rowO (W2.map iv) ty)) else H':=fun k hk=>⟨b,z,hval,hbz,by rw[av L hk];exact hH2⟩
   clear hbase hbb hdd hcl;rcases k with _|_|_|_|_|_|_|_|_|_|k
   . cases ho;simp +decide (maxDischargeDepth:=200) only[go_sem,Nat.reduceBEq,b3,x3];exact⟨val,fun _ _=>rfl,nx _ A0c,by rw[hval];exact Le.refl _⟩
   . cases ho;simp +decide (maxDischargeDepth:=200) only[go_sem,Nat.reduceBEq,b5];exact⟨val,fun _ _=>rfl,nx _ A0c,by rw[hval];exact Le.refl _⟩
   . cases ho;simp +decide (maxDischargeDepth:=200) only[go_sem,Nat.reduceBEq,b11];exact⟨val,fun _ _=>rfl,nx _ A0c,by rw[hval];exact Le.refl _⟩
   . cases ho;have h64:st.t 64= .sl false 1 ((dX hs hs.length).map rI) none:=(hn0 64 A0c).trans A0p;have h65:st.t 65=aq g:=(hn0 65 A0c).trans A0p;simp +decide (maxDischargeDepth:=200) only[go_sem,Nat.reduceBEq,h64,h65,eq,fC,g0,g2,arr];exact⟨val,fun _ _=>rfl,nx _ A0c,by rw[hval];exact Le.refl _⟩
   . cases ho;have h66:st.t 66= .ip [.sl false 1 (ps.map aq) none]:=(hn0 66 A0c).trans A0p;simp +decide (maxDischargeDepth:=200) only[go_sem,Nat.reduceBEq,h66];exact⟨val,fun _ _=>rfl,nx _ A0c,by rw[hval];exact Le.refl _⟩
   . cases ho;simp +decide (maxDischargeDepth:=200) only[go_sem,Nat.reduceBEq,b4];exact⟨val,fun _ _=>rfl,nx _ A0c,by rw[hval];exact Le.refl _⟩
   . cases ho;simp +decide (maxDischargeDepth:=200) only[go_sem,Nat.reduceBEq,b6];exact⟨val,fun _ _=>rfl,nx _ A0c,by rw[hval];exact Le.refl _⟩
   . cases ho;have h63:st.t 63= .agg [.sl false 3 (C.map aa) none,.sl false 1 (R.map rI) none,.sl false 1 (S.map rI) none]:=(hn0 63 A0c).trans A0p;have h67:st.t 67= .sl false 1 (ps.map aq) none:=(hn0 67 A0c).trans A0p;have h68:st.t 68= .sl false 1 (hs.map aq) none:=(hn0 68 A0c).trans A0p;have h69:st.t 69= .x (.slice (some ⟨gW,0,none⟩) hs.length hs.length):=(hn0 69 A0c).trans A0p;rw[hb] at hH2;simp only[Y2,YU] at hH2;subst hH2;simp +decide (maxDischargeDepth:=200) only[go_sem,Nat.reduceBEq,h63,h67,h68,h69,oR,oQ];refine⟨C,R,S,hs,ps,W,gW,ty,rfl,by rw[hn];exact hSr,hin,hpsr,hpsl,hK.len,hWk,hO1.w,fun b' z' hbz'=>?_⟩;rw[hfr] at hbz'⊢;rw[hW2];simp +decide (maxDischargeDepth:=200) only[go_sem,Nat.reduceBEq];exact⟨zB (.agg [.sl false 3 (C.map aa) none,.sl false 1 (R.map rI) none,.sl false 1 (S.map rI) none]) (.sl false 1 (hs.map aq) none) (.sl false 1 ((dX hs hs.length).map rI) none) gW hs.length g ps fr b' z',fun k hk=>by rw[hval];exact LP (fun e=>hk A0U),⟨b',z',rfl,hbz',by rw[YG (cD L 7)]⟩,Le.refl _⟩
   . cases ho;have h70:st.t 70= .sl b z (fr.map aq) none:=(hn0 70 A0c).trans A0p;simp +decide (maxDischargeDepth:=200) only[go_sem,Nat.reduceBEq,h70,eq];exact⟨val,fun _ _=>rfl,nx _ A0c,by rw[hval];exact Le.refl _⟩
   . cases ho;simp +decide (maxDischargeDepth:=200) only[go_sem,Nat.reduceBEq];exact⟨val,fun _ _=>rfl,nx _ A0c,by rw[hval];exact Le.refl _⟩
   . cases ho
 rintro H2 val ⟨b,z,rfl,hbz,rfl⟩;rw[YG A0c];have hel2:(es'++fr).length<=hs.length:=cO hK2.nd (fun x hx=>hin x ((hK2.es x).1 hx).1);rw[YD] at hel2;have hO2:=hO1.waits W2;refine⟨[(3,.ptr 3 0),(4,.sl false 1 (hs.map aq) none),(5,.sl false 1 ((dX hs hs.length).map rI) none),(6,.x (.slice (some ⟨gW,0,none⟩) hs.length hs.length)),(7,.x (.pointer (some ⟨p,0,none⟩))),(10,.sl false 2 ((ts.map fun g=>we C R (dc hs hs.length g))++[.agg [.sl false 3 ((ps.map (ji C)).map aa) none,.x (.bool kb)]]) (some 62)),(70,.sl b z (fr.map aq) none),(71,aq (fr.length:Int)),(72,aq 0)],[(3,[.sl false 3 (C.map aa) none,.sl false 1 (R.map rI) none,.sl false 1 (S.map rI) none])],⟨(ar A0a).trans A0l,(ar A0a).trans A0l,(ar A0a).trans A0l,(ar A0a).trans A0l,(ar A0a).trans A0l,(ar A0a).trans A0l,eL A0a,eL A0a,eL A0a,trivial⟩,⟨by simp +decide (maxDischargeDepth:=200) only[go_sem,Nat.reduceBEq,iB],trivial⟩,?_⟩;simp +decide (maxDischargeDepth:=200) only[go_sem,Nat.reduceBEq,oR,oQ,eq];refine bp (X:={q:Nat×Value×List Int//q.1<=fr.length∧q.2.2.Perm (es'++fr.take q.1)}) (fun q=>[(3,.ptr 3 0),(4,.sl false 1 (hs.map aq) none),(5,.sl false 1 ((dX hs hs.length).map rI) none),(6,.x (.slice (some ⟨gW,0,none⟩) hs.length hs.length)),(7,.x (.pointer (some ⟨p,0,none⟩))),(10,.sl false 2 ((ts.map fun g=>we C R (dc hs hs.length g))++[.agg [.sl false 3 ((ps.map (ji C)).map aa) none,.x (.bool kb)]]) (some 62)),(70,.sl b z (fr.map aq) none),(71,aq (fr.length:Int)),(72,aq ((q.1.1:Nat):Int))]) (fun _=>[(3,[.sl false 3 (C.map aa) none,.sl false 1 (R.map rI) none,.sl false 1 (S.map rI) none])]) (fun q H3=>OI H H3 p gW ty q.1.2.1 q.1.2.2 W2) (fun q=>fr.length-q.1.1) ⟨(0,r',es'),Zf _,A0j⟩ A0d A0d hO2 ?_;clear hO2 hO1;rintro⟨⟨k,r2,e2⟩,hk,hp2⟩ H2 hO;simp only at hk hp2 hO⊢;by_cases hkl:k<fr.length
 case neg=>
  obtain rfl:k=fr.length:=A0b
  have d1:decide ((fr.length:Int)<(fr.length:Int))=false:=YA A0b;rw[Zy] at hp2;have iso:(ts++[g]).isEmpty=false:=by cases ts<;>rfl
  have mapf:(ts++[g]).map (fun g=>we C R (dc hs hs.length g))=(ts.map fun g=>we C R (dc hs hs.length g))++[.agg [.sl false 3 ((ps.map (ji C)).map aa) none,.x (.bool kb)]]:=by rw[Y4,Y0,aah,hps,hkb]
  simp +decide (maxDischargeDepth:=200) only[go_sem,Nat.reduceBEq,oR,oQ,eq,d1];refine⟨⟨((ts++[g],e2,W2),r2,62),hK2.perm hp2,hWk2⟩,⟨?_,?_,hO⟩,by simp only[YD,Zv];omega⟩
  . simp +decide (maxDischargeDepth:=200) only[go_sem,Nat.reduceBEq,iso,mapf]
  . simp +decide (maxDischargeDepth:=200) only[go_sem,Nat.reduceBEq]
 have d1:decide ((k:Int)<(fr.length:Int))=true:=Yz A0b;have d2:(0:Int)<=(k:Int):=A0b
 have d3:(k:Int)<(fr.length:Int):=A0b
 have d4:=aD (i:=k) A0b;have q1:fr[k]?=some fr[k]:=io hkl;have q2:(fr.map aq)[((k:Nat):Int).toNat]?=some (aq fr[k]):=by rw[tl,Io,q1];rfl
 have qm:fr[k]∈fr:=Y5 hkl;generalize fr[k]=a at q1 q2 qm;obtain⟨rfl,rfl⟩:=hbz (fun h=>by rw[h] at hkl;cases hkl);rw[tl] at q2;have hl2:=hp2.length_eq;rw[YD,YQ,aae A0b] at hl2;simp +decide (maxDischargeDepth:=200) only[go_sem,Nat.reduceBEq,oR,oQ,eq,tl,d1,d2,d3,d4,q2];refine⟨p,r2,e2,a,rfl,hO.q,A0b,hO.hp,fun r3 e3 H3 hq hperm3 hheap ho hf=>?_⟩;simp +decide (maxDischargeDepth:=200) only[go_sem,Nat.reduceBEq,oR,oQ,d4];refine⟨⟨(k+1,r3,e3),hkl,hperm3.trans ?_⟩,⟨?_,?_,hO.step hq hheap ho hf⟩,by simp only;omega⟩
 . simp only;rw[aF q1,<-Zw];exact hp2.append_right _
 . simp +decide (maxDischargeDepth:=200) only[go_sem,Nat.reduceBEq]
 . simp +decide (maxDischargeDepth:=200) only[go_sem,Nat.reduceBEq]
theorem vY {α:Type} {f:α->Bool}:∀{l:List α},(∀x∈l,f x=true)->l.takeWhile f=l∧l.dropWhile f=[]
 |[],_=>⟨rfl,rfl⟩
 |a::l,h=>by obtain⟨h1,h2⟩:=vY (l:=l) (fun x hx=>h x (YY _ hx));have ha:=h a (Zc ..);simp only[List.takeWhile,List.dropWhile,ha,h1,h2,and_self]
theorem qw:∀(n:Nat) (l:List En),l.length=n->iD ae (az l)->be l=l
 |0,l,hl,_=>by rw[ZJ.1 hl];rfl
 | n+1,l,hl,hs=>by
   rcases aa6 l with e|⟨m,e,rfl⟩
   . rw[e] at hl;cases hl
   . rw[aa7] at hl hs⊢;unfold az at hs;rw[Y4] at hs;obtain⟨h1,_,h3⟩:=ZS.1 hs;rw[qc,qw n m (by simpa using hl) h1];obtain⟨t1,t2⟩:=vY (l:=m) (f:=fun x=>ae x.1 e.1) (fun x hx=>h3 x.1 (YR.2 ⟨x,hx,rfl⟩) e.1 A0j);unfold kC;rw[t1,t2]
theorem oO (l:List En):(dO l).2.1.length=(dO l).1.length:=(lA l (bR (am l)) (bR (am l)).length).1
theorem sa (L:List En) (c:C3):(oj L c).Nodup:=by
 unfold oj;split
 . refine(yX L _).imp fun {a b} h e=>?_
   subst e;rw[bQ.irr] at h;cases h
 . exact ZD
theorem lB (l:List En):∀r∈(dO l).2.1,r.Nodup:=fun r hr=>by
 obtain⟨i,hi⟩:=Zo.1 hr;have hil:i<(dO l).1.length:=by rw[<-oO];exact(iO.1 hi).1
 obtain⟨es,h1,_,h3⟩:=lz (l:=l) (io hil);rw[hi] at h1;cases h1;have:=sa (be l) (dO l).1[i];rw[<-h3] at this;exact(abc.1 this).imp fun h e=>h A0U
theorem iY (l:List En):(dO l).1=az (be l):=oE l
theorem vZ {l:List En} {i:Nat} {e:En} (hi:(be l)[i]?=some e) (h:dl (be l) e=[]):(dO l).2.1[i]?=some []:=by
 have hc:(dO l).1[i]?=some e.1:=by rw[iY];unfold az;rw[Io,hi];rfl
 obtain⟨es,h1,_,h3⟩:=lz hc;rw[qe (eM l) (YB hi),h] at h3;rw[h1,List.map_eq_nil_iff.1 h3]
theorem ID (hn:l.Nodup) (h:∀x,x∈l↔x=g):l=[g]:=by
 match l,hn,h with
 |[],_,h=>exact absurd ((h g).2 rfl) A0j
 |[a],_,h=>rw[(h a).1 (YF.2 rfl)]
 |a::b::t,hn,h=>have ha:=(h a).1 A0j;have hb:=(h b).1 A0j;rw[ha,hb] at hn;simp at hn
theorem zD (hs:List Int) (n:Nat) (g:Int):(dc hs n g).Nodup:=by unfold dc List.Nodup;rw[abc];exact(List.Pairwise.filter _ List.nodup_range).imp fun h e=>h A0b
section
variable {R:List (List Int)} {n:Nat} {hs:List Int}
theorem oP {d:Int->Nat} (hd:∀x y,y∈rowS R x->d y<d x) {x y:Int} (h:ReachI R x y):d y<d x:=by
 induction h with
 |one h=>exact hd _ _ h
 |step _ h ih=>exact Nat.lt_trans (hd _ _ h) ih
theorem v6 (hH:HeadsOK R n hs) (d:Int->Nat) (hd:∀x y,y∈rowS R x->d y<d x) {x:Int} (hx:0<=x∧x.toNat<n):atI hs x=x:=by
 rcases(hH.at hx).1 with h|⟨h1,h2⟩
 . exact h.symm
 . have:=oP hd h1;have:=oP hd h2;omega
theorem zE (ha:∀x:Int,0<=x∧x.toNat<n->atI hs x=x) {g:Int} (hg:0<=g∧g.toNat<n):dc hs n g=[g]:=
 ID (zD _ _ _) fun x=>by rw[oM];exact⟨fun⟨h1,h2⟩=>by rw[ha x h1] at h2;exact h2,fun e=>by subst e;exact⟨hg,ha _ hg⟩⟩
theorem IE (ha:∀x:Int,0<=x∧x.toNat<n->atI hs x=x) {g:Int} (hg:0<=g∧g.toNat<n) (p:Int->Bool):wt hs R n p g=(ly hs g p (rowZ R g):Nat):=by
 rw[vK];congr 1;refine(dq (g:=fun i=>if i=g.toNat then ly hs g p (rowZ R g) else 0) fun i hi=>?_).trans (vJ _ hg.2);rw[ha (i:Int) ⟨A0b,by rw[tl];exact hi⟩];by_cases e:i=g.toNat
 . subst e;rw[ZI hg.1,YG rfl,YG rfl]
 . rw[YL e,YL A0b]
theorem zF (hH:HeadsOK R n hs) (ha:∀x:Int,0<=x∧x.toNat<n->atI hs x=x) {g:Int}:g∈hs↔0<=g∧g.toNat<n:=hH.mem.trans ⟨fun h=>h.1,fun h=>⟨h,ha g h⟩⟩
theorem qx {f:Nat->Int} {i:Nat} (hi:i<=n) {x:Int}:x∈((List.range n).map f).take i↔∃j,j<i∧x=f j:=by
 rw[<-List.map_take,List.take_range,aae hi,YR];constructor
 . rintro⟨j,hj,rfl⟩;exact⟨j,Ze.1 hj,rfl⟩
 . rintro⟨j,hj,rfl⟩;exact⟨j,Ze.2 hj,rfl⟩
theorem qy (hR:∀j,j<n->R[j]?=some []) (hl:R.length=n) (hH:HeadsOK R n hs) {ts:List Int} (hO:OrdOK hs R n ts) (hA:∀g∈hs,g∈ts):ts=(List.range n).map (fun(i:Nat)=>(i:Int))∧∀g:Int,0<=g∧g.toNat<n->dc hs n g=[g]:=by
 have hrow:∀x:Int,rowZ R x=[]:=fun x=>by
  unfold rowZ;by_cases h:x.toNat<n
  . rw[hR _ h];rfl
  . rw[Y1 A0b];rfl
 have ha:∀x:Int,0<=x∧x.toNat<n->atI hs x=x:=fun x hx=>v6 hH (fun _=>0) (fun x y h=>by have h:y∈rowZ R x:=h;rw[hrow] at h;cases h) hx
 refine⟨LD hO (fun i g hi=>?_) hA (fun g hg=>?_),fun g hg=>zE ha hg⟩
 . rw[Io,YE] at hi;obtain⟨j,hj,rfl⟩:=hi;obtain⟨hin,e⟩:=iO.1 hj;rw[List.getElem_range] at e;subst e;rw[aaV] at hin;have hir:0<=(i:Int)∧(i:Int).toNat<n:=⟨A0b,by rw[tl];exact hin⟩;refine⟨(zF hH ha).2 hir,fun h=>?_,?_,fun h h1 h2 _=>?_⟩
   . obtain⟨j,hj,e⟩:=(qx A0b).1 h;omega
   . rw[IE ha hir,hrow];rfl
   . obtain⟨h0,hn⟩:=(zF hH ha).1 h1;rcases Int.lt_or_le h (i:Int) with e|e
     . exact absurd ((qx A0b).2 ⟨h.toNat,A0b,(ZI h0).symm⟩) h2
     . exact e
 . obtain⟨h0,hn⟩:=(zF hH ha).1 hg;exact YR.2 ⟨g.toNat,Ze.2 hn,ZI h0⟩
end
def wf:En:=((⟨#[115]⟩,1,1),false,.leaf ⟨0,⟨#[]⟩,⟨#[]⟩,0,0,⟨#[]⟩,⟨#[]⟩,0,0,⟨#[]⟩,0,0⟩,(0,0,⟨#[]⟩))
theorem Oq:DM (true,0,([]:List En)):=⟨⟨fun h=>absurd rfl h,Zf _,fun e he=>by cases he⟩,fun e he=>by cases he⟩
theorem Ot:DM (false,20,[wf]):=⟨⟨fun _=>rfl,A0c,fun e he=>by rw[YF.1 he];decide⟩,fun e he=>by rw[YF.1 he];decide⟩
theorem IG (hH:HeadsOK (dO []).2.1 (dO []).1.length hs) (hO:OrdOK hs (dO []).2.1 (dO []).1.length ts):ts=[]:=by
 have h0:(dO []).1=[]:=by rw[iY];rfl
 rw[h0] at hH;have hh:hs=[]:=ZJ.1 hH.1;subst hh
 match ts,hO.nodup.2 with
 |[],_=>rfl
 |a::_,h=>cases h a (Zc ..)
theorem LQ (hH:HeadsOK (dO [wf]).2.1 (dO [wf]).1.length hs) (hO:OrdOK hs (dO [wf]).2.1 (dO [wf]).1.length ts) (hA:∀g∈hs,g∈ts):ts=[0]∧we (dO [wf]).1 (dO [wf]).2.1 (dc hs (dO [wf]).1.length 0)= .agg [.sl false 3 [.agg [.x (.string ⟨#[115]⟩),.x (.int .i64 1),.x (.int .i64 1)]] none,.x (.bool false)]:=by
 have hl:be [wf]=[wf]:=qw 1 _ rfl (Z8 _ _);have h0:(dO [wf]).1=[(⟨#[115]⟩,1,1)]:=by rw[iY,hl];rfl
 have h1:(dO [wf]).2.1[0]?=some []:=vZ (e:=wf) (by rw[hl];rfl) rfl;have h2:=oO [wf];rw[h0] at h2 hH hO⊢;obtain⟨q1,q2⟩:=qy (n:=1) (fun j hj=>by rw[show j=0 by omega];exact h1) h2 hH hO hA;refine⟨q1,?_⟩;have q3:dc hs [((⟨#[115]⟩,1,1):C3)].length 0=[0]:=q2 0 ⟨aa4 _,A0c⟩;have q4:rowZ (dO [wf]).2.1 0=[]:=by unfold rowZ;rw[show(0:Int).toNat=0 from rfl,h1];rfl
 rw[q3];unfold we Tk;rw[show List.headD [(0:Int)] 0=0 from rfl,q4];rfl
def dY:List V->Option V
 |[]=>some (.x (.bool true))
 |_=>none
def Tw (us:List V) (H:HH) (T:V->HH->Prop):Prop:=us=[]∧T (.x (.bool true)) H
def Bb:List (FuncId×(List V->HH->Tr)):=[(8,Tv)]
theorem D5:cn (bP [] [] [] (fun _=>false) (fun _=>false)) 6 Tw:=by refine cg (F:={F:=uX Bb,D:=fun _=>false}) (n:=29) (k:=0) (bw [] [] [] _ _ trivial trivial trivial) A0a (fA (l:=Bb) ⟨qu,trivial⟩) (fun t s C e=>by cases e) Tryz.func6 rfl (fun a w=>Tryz.call6 a w) Tryz.ntmps6 A0c A0c A0a ?_;rintro us H T ⟨rfl,hT⟩ hdat;clear hdat;refine⟨rfl,?_⟩;simp +decide (maxDischargeDepth:=200) only[go_sem,Nat.reduceBEq,Bb];refine⟨false,20,[wf],rfl,Ot,rW Ot.1.2.1 Ot.1.2.2,lB _,fun hs S ts _ hH hO hA=>?_⟩;obtain⟨rfl,hk⟩:=LQ hH hO hA;rw[Y0,aah,hk];clear hk hH hO hA;simp +decide (maxDischargeDepth:=200) only[go_sem,Nat.reduceBEq,Bb];refine⟨true,0,[],rfl,Oq,rW Oq.1.2.1 Oq.1.2.2,lB _,fun hs S ts _ hH hO hA=>?_⟩;obtain rfl:=IG hH hO;simp +decide (maxDischargeDepth:=200) only[go_sem,Nat.reduceBEq,Bb,aah];exact hT
theorem v7:cM 6 dY:=by
 refine oN D5 ?_;intro us r hF;unfold dY at hF;split at hF
 case h_2=>cases hF
 cases hF;exact⟨rfl,rfl⟩
section
variable {m c:Nat} {op:Bool}
end
noncomputable def cA (x:Int):C3:=(⟨#[115]⟩,(aw .i64 (1+oS .i64 x 7)),(aw .i64 (1+oS .i64 (si .i64 x 3) 7)))
noncomputable def eA (x:Int):En:=(cA x,false,.leaf ⟨0,⟨#[]⟩,⟨#[]⟩,0,0,⟨#[]⟩,⟨#[]⟩,0,0,⟨#[]⟩,0,0⟩,(0,0,⟨#[]⟩))
theorem IH (x:Int):cj (eA x)= .agg [.x (.string ⟨#[115]⟩),.x (.int .i64 (aw .i64 (1+oS .i64 x 7))),.x (.int .i64 (aw .i64 (1+oS .i64 (si .i64 x 3) 7))),.x (.bool false),.x (.int .i64 0),.x (.string ⟨#[]⟩),.x (.string ⟨#[]⟩),.x (.int .i64 0),.x (.int .i64 0),.x (.string ⟨#[]⟩),.x (.string ⟨#[]⟩),.x (.int .i64 0),.x (.int .i64 0),.x (.string ⟨#[]⟩),.x (.int .i64 0),.x (.int .i64 0),.sl true 0 [] none,.x (.int .i64 0),.x (.int .i64 0),.x (.string ⟨#[]⟩)]:=rfl
theorem zG {l:List En} (h:∀e∈l,e.2.1=false) {j:Nat} (hj:j<(dO l).1.length):(dO l).2.1[j]?=some []:=by
 have hj':=hj;rw[iY] at hj';unfold az at hj';rw[eq] at hj';have hi:(be l)[j]?=some (be l)[j]:=io hj';refine vZ hi ?_;obtain⟨l1,l2,e,_⟩:=(oi l _).1 (Y5 hj');unfold dl;rw[YL];have hm:(be l)[j]∈l:=by
  have:(be l)[j]∈l1++(be l)[j]::l2:=A0j
  rwa [<-e] at this
 rw[h _ hm];decide
theorem II (hl:l.length<=20) (b:Bool):DM (b,20,l.map eA):=by
 refine⟨⟨fun _=>rfl,by simp only[eq];omega,fun e he=>?_⟩,fun e he=>?_⟩
 . obtain⟨i,_,rfl⟩:=YR.1 he;exact(by decide :(1:Nat)<=400)
 . obtain⟨i,_,rfl⟩:=YR.1 he;exact⟨(by show(⟨#[115]⟩:ByteArray).size<=_;decide),rfl⟩
def XB (c:C3):V:= .agg [.sl false 3 [.agg [.x (.string c.1),.x (.int .i64 c.2.1),.x (.int .i64 c.2.2)]] none,.x (.bool false)]
def Ou (us:List V) (H:HH) (T:V->HH->Prop):Prop:=∃nl sz l,us=[.sl nl sz (l.map aq) none]∧(l≠[]->sz=1)∧T (.x (.bool true)) H
theorem LR:cn (bP [(6,dY),(11,FE ct ol),(15,FE gC IN)] [] [] (fun _=>false) (fun _=>false)) 5 Ou:=by
 refine cg (E:=(bP [(6,dY),(11,FE ct ol),(15,FE gC IN)] [] [] (fun _=>false) (fun _=>false))) (F:={F:=uX Bb,D:=fun _=>false}) (n:=86) (k:=1) (bw _ _ _ _ _ ⟨v7,LO,yY,trivial⟩ trivial trivial) A0a (fA (l:=Bb) ⟨qu,trivial⟩) (fun t s C e=>by cases e) Tryz.func5 rfl (fun a w=>Tryz.call5 a w) Tryz.ntmps5 A0c A0c A0a ?_;rintro us H T ⟨nl,sz,cs,rfl,hsz,hT⟩ hdat;clear hdat;refine⟨rfl,?_⟩;have e1:dY []=some (.x (.bool true)):=rfl;by_cases a1:(cs.length:Int)>20
 . have b1:decide ((cs.length:Int)>20)=true:=Yz a1;simp +decide (maxDischargeDepth:=200) only[go_sem,Nat.reduceBEq,Bb,e1,eq,b1];exact hT
 have b1:decide ((cs.length:Int)>20)=false:=YA a1;have hcl:cs.length<=20:=A0b
 clear a1;simp +decide (maxDischargeDepth:=200) only[go_sem,Nat.reduceBEq,Bb,e1,eq,b1];clear b1;refine k9 4 20 99 A0H ?_;refine bp (X:={q:Nat×Nat//q.1<=cs.length}) (fun q=>[(0,.sl nl sz (cs.map aq) none),(4,.sl (cs.take q.1.1).isEmpty 20 (((cs.take q.1.1).map eA).map cj) (some q.1.2)),(5,aq ((q.1.1:Nat):Int))]) (fun _=>[]) (fun _ H'=>H'=H) (fun q=>cs.length-q.1.1) ⟨(0,99),Zf _⟩ A0d A0d rfl ?_;rintro⟨⟨i,tok⟩,hi⟩ H1 rfl;simp only at hi⊢;by_cases hil:i<cs.length
 case pos=>
  obtain rfl:=hsz (fun h=>by rw[h] at hil;cases hil);have d1:decide ((i:Int)<(cs.length:Int))=true:=Yz A0b;have d2:(0:Int)<=(i:Int):=A0b
  have d3:(i:Int)<(cs.length:Int):=A0b
  have d4:=aD (i:=i) A0b;have q1:cs[i]?=some cs[i]:=io hil;have q2:(cs.map aq)[((i:Nat):Int).toNat]?=some (aq cs[i]):=by rw[tl,Io,q1];rfl
  have qm:cs[i]∈cs:=Y5 hil;generalize cs[i]=x at q1 q2 qm;rw[tl] at q2;have hcond:∀a:Int,(if (3:Int)<0 then none else some (Value.int IntKind.i64 (si .i64 a 3)))=some (.int .i64 (si .i64 a 3)):=fun a=>rfl
  have htk:=aF q1;have iso:(cs.take (i+1)).isEmpty=false:=by rw[htk];cases cs.take i<;>rfl
  have hll:(cs.take i).length<=20:=A0A
  have g1:∀st d tok nl t',bq (fF [(6,dY),(11,FE ct ol),(15,FE gC IN)] (fun _=>false)) st (some d) 49 (.sl (cs.take i).isEmpty 20 (((cs.take i).map eA).map cj) (some tok)) (.sl nl 20 [.agg [.x (.string ⟨#[115]⟩),.x (.int .i64 (aw .i64 (1+oS .i64 x 7))),.x (.int .i64 (aw .i64 (1+oS .i64 (si .i64 x 3) 7))),.x (.bool false),.x (.int .i64 0),.x (.string ⟨#[]⟩),.x (.string ⟨#[]⟩),.x (.int .i64 0),.x (.int .i64 0),.x (.string ⟨#[]⟩),.x (.string ⟨#[]⟩),.x (.int .i64 0),.x (.int .i64 0),.x (.string ⟨#[]⟩),.x (.int .i64 0),.x (.int .i64 0),.sl true 0 [] none,.x (.int .i64 0),.x (.int .i64 0),.x (.string ⟨#[]⟩)]] t')=some ⟨upd (strip tok (strip d st.t)) d (.sl false 20 (((cs.take (i+1)).map eA).map cj) (some d)),aB (fF [(6,dY),(11,FE ct ol),(15,FE gC IN)] (fun _=>false)) tok (aB (fF [(6,dY),(11,FE ct ol),(15,FE gC IN)] (fun _=>false)) d st.b)⟩:=fun st d tok nl t'=>by have:=cZ (E:=(fF [(6,dY),(11,FE ct ol),(15,FE gC IN)] (fun _=>false))) (el:=49) (n:=20) xj EP EQ A0c rfl (es:=((cs.take i).map eA).map cj) (v:= .agg [.x (.string ⟨#[115]⟩),.x (.int .i64 (aw .i64 (1+oS .i64 x 7))),.x (.int .i64 (aw .i64 (1+oS .i64 (si .i64 x 3) 7))),.x (.bool false),.x (.int .i64 0),.x (.string ⟨#[]⟩),.x (.string ⟨#[]⟩),.x (.int .i64 0),.x (.int .i64 0),.x (.string ⟨#[]⟩),.x (.string ⟨#[]⟩),.x (.int .i64 0),.x (.int .i64 0),.x (.string ⟨#[]⟩),.x (.int .i64 0),.x (.int .i64 0),.sl true 0 [] none,.x (.int .i64 0),.x (.int .i64 0),.x (.string ⟨#[]⟩)]) (by rfl) (by rw[eq,eq];omega) (by rw[eq,eq];omega) st d tok nl t';rw[abn,abn] at this;rw[this,htk,Y4,Y4,Y0,Y0,aah,aah,IH]
  simp +decide (maxDischargeDepth:=200) only[go_sem,Nat.reduceBEq,Bb,eq,tl,d1,d2,d3,d4,q2,g1];refine⟨⟨(i+1,41),hil⟩,⟨?_,?_,rfl⟩,by simp only;omega⟩
  . simp +decide (maxDischargeDepth:=200) only[go_sem,Nat.reduceBEq,iso]
  . simp +decide (maxDischargeDepth:=200) only[go_sem,Nat.reduceBEq]
 obtain rfl:i=cs.length:=A0b
 have d1:decide ((cs.length:Int)<(cs.length:Int))=false:=YA A0b;rw[Zy];simp +decide (maxDischargeDepth:=200) only[go_sem,Nat.reduceBEq,Bb,eq,d1];have hokr:=II (l:=cs) hcl cs.isEmpty;refine⟨cs.isEmpty,20,cs.map eA,rfl,hokr,rW hokr.1.2.1 hokr.1.2.2,lB _,fun hs S ts _ hH hO hA=>?_⟩;have n2:FE ct ol (ct (cs.isEmpty,20,cs.map eA))=some (Mb (yZ (cs.map eA))):=(cq lq ol (cs.isEmpty,20,cs.map eA)).trans (YG hokr.1);have c2:FE gC IN (gC (yZ (cs.map eA)))=some (Mc (az (be (cs.map eA)))):=(cq Dj IN (yZ (cs.map eA))).trans (YG (K6 hokr.1));rw[<-iY] at c2;have hrow:∀j,j<(dO (cs.map eA)).1.length->(dO (cs.map eA)).2.1[j]?=some []:=fun j hj=>zG (fun e he=>by obtain⟨z,_,rfl⟩:=YR.1 he;rfl) hj
 obtain⟨rfl,hK⟩:=qy hrow (oO _) hH hO hA;have hCl:(dO (cs.map eA)).1.length<=400:=(rW hokr.1.2.1 hokr.1.2.2).2.1;obtain⟨A,hA⟩:∃A,Mb (yZ (cs.map eA))= .ip A:=⟨_,rfl⟩;simp only[ct,gC,Mc,hA,abn] at n2 c2;generalize (dO (cs.map eA)).2.1=R at*;generalize (dO (cs.map eA)).1=C at*;have hmap:((List.range C.length).map fun(j:Nat)=>(j:Int)).map (fun g=>we C R (dc hs C.length g))=C.map XB:=by
  apply ZO;intro j;rw[Io,Io,Io];by_cases hj:j<C.length
  . rw[ZP hj,io hj,Zk,Zk,Zk];congr 1;have hat:ji C (j:Int)=C[j]:=by unfold ji;rw[tl,io hj];rfl
    have hr0:rowZ R (j:Int)=[]:=by unfold rowZ;rw[tl,hrow j hj];rfl
    rw[hK (j:Int) ⟨A0b,by rw[tl];exact hj⟩];unfold we Tk;rw[show List.headD [(j:Int)] 0=(j:Int) from rfl,hr0,Y0,aah,hat];rfl
  . rw[Y1 (by rw[aaV];omega),Y1 A0b];rfl
 have hie:((List.range C.length).map fun(j:Nat)=>(j:Int)).isEmpty=C.isEmpty:=by
  rw[abn];cases C with
  |nil=>rfl
  |cons a C=>rw[YI,List.range_succ_eq_map];rfl
 rw[hmap,hie];clear hmap hie hK hrow hokr hH hO hA;simp +decide (maxDischargeDepth:=200) only[go_sem,Nat.reduceBEq,Bb,eq,n2,c2];refine bp (X:={k:Nat//k<=C.length}) (fun k=>[(6,.sl C.isEmpty 2 (C.map XB) none),(7,.sl C.isEmpty 3 (C.map aa) none),(8,aq ((k.1:Nat):Int))]) (fun _=>[]) (fun _ H'=>H'=H1) (fun k=>C.length-k.1) ⟨0,Zf _⟩ A0d A0d rfl ?_;rintro⟨k,hk⟩ H2 rfl;simp only at hk⊢;by_cases hkl:k<C.length
 case neg=>have f1:decide ((k:Int)<(C.length:Int))=false:=YA A0b;simp +decide (maxDischargeDepth:=200) only[go_sem,Nat.reduceBEq,Bb,eq,f1];exact hT
 have f1:decide ((k:Int)<(C.length:Int))=true:=Yz A0b;have f2:(0:Int)<=(k:Int):=A0b
 have f3:(k:Int)<(C.length:Int):=A0b
 have f4:=aD (i:=k) A0b;have q1:C[k]?=some C[k]:=io hkl;generalize C[k]=c at q1;obtain⟨ws,wc,wr⟩:=c;have arr:(C.map XB)[k]?=some (.agg [.sl false 3 [.agg [.x (.string ws),.x (.int .i64 wc),.x (.int .i64 wr)]] none,.x (.bool false)]):=by rw[Io,q1];rfl
 have arc:(C.map aa)[k]?=some (.agg [.x (.string ws),.x (.int .i64 wc),.x (.int .i64 wr)]):=by rw[Io,q1];rfl
 simp +decide (maxDischargeDepth:=200) only[go_sem,Nat.reduceBEq,Bb,eq,tl,f1,f2,f3,f4,arr,arc];refine⟨⟨k+1,hkl⟩,⟨?_,?_,rfl⟩,by simp only;omega⟩
 . simp +decide (maxDischargeDepth:=200) only[go_sem,Nat.reduceBEq]
 . simp +decide (maxDischargeDepth:=200) only[go_sem,Nat.reduceBEq]
def mJ (p:Bool×Nat×List Int):List V:=[.sl p.1 p.2.1 (p.2.2.map aq) none]
theorem v8 (p q:Bool×Nat×List Int) (e:mJ p=mJ q):p=q:=by obtain⟨a,b,c⟩:=p;obtain⟨d,f,g⟩:=q;simp only[mJ,Zb,V.sl.injEq,Z7] at e;obtain⟨rfl,rfl,h⟩:=e;rw[aZ mF h]
open Classical in
noncomputable def zH (p:Bool×Nat×List Int):Option V:=if p.2.2≠[]->p.2.1=1 then some (.x (.bool true)) else none
theorem D6:cM 5 (FE mJ zH):=by
 refine oN LR ?_;intro us r hF;obtain⟨⟨nl,sz,l⟩,rfl,hG⟩:=bE hF;unfold zH at hG;split at hG
 case isFalse=>cases hG
 rename_i h;cases hG;exact⟨nl,sz,l,rfl,h,rfl⟩
end Go.Proofs.YtmfojhkjbkombaaGreat
