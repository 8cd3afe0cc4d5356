/- MKe -/
import Derived.Test.YtiepfeebmnfbdaaGreatMKd
import Derived.Test.YtiepfeebmnfbdaaGreatMX
namespace Go.Proofs.YtiepfeebmnfbdaaGreat
open Tryz
set_option linter.unusedSimpArgs false
set_option maxHeartbeats 64000000
set_option maxRecDepth 100000
open Go Go.RowKit
attribute [go_sem] results3 results4 results7
theorem WD{P:Prop}(h:P:=by exact⟨val,fun _ _=>rfl,nx _ A0c,by rw[hval];exact Le.refl _⟩):P:=h
theorem WC{P:Prop}(h:P:=by simp +decide only[go_sem,Nat.reduceBEq]):P:=h
theorem WA{P:Prop}(h:P:=by simp +decide only[go_sem]):P:=h
variable{hs ts:List Int}{R:List (List Int)}{n:Nat}
theorem KInv.perm{W es es':List Int}(h:KInv hs R n ts W es)(hp:es'.Perm es):KInv hs R n ts W es':=⟨h.len,h.w,h.z,hp.nodup_iff.2 h.nd,fun x=>hp.mem_iff.trans (h.es x),h.ord⟩
theorem OrdOK.nodup(h:OrdOK hs R n ts):ts.Nodup∧∀g∈ts,g∈hs:=by
 refine⟨?_,fun g hg=>?_⟩
 . unfold List.Nodup;rw[ae9];intro i j hi hj hij e;have:=(h j ts[j] (io hj)).2.1;exact this (e▸ad8.2 ⟨i,by rw[ad6,adl hij];exact io hi⟩)
 . obtain⟨i,hi⟩:=ad8.1 hg;exact(h i g hi).1
theorem CZ{m:Nat}{f:Nat->Nat}(h:∀i,i<n->f i<=m):ey n f<=n*m:=by
 induction n with
 |zero=>rw[tw];omega
 |succ n ih=>rw[cA,Nat.succ_mul];have:=ih (fun i hi=>h i A0b);have:=h n A0b;omega
theorem MH(hh:∀x∈hs,0<=x∧x.toNat<hs.length)(hR:bU hs.length R):Y9 (bq R hs hs.length):=by
 intro x hx;obtain⟨j,hj⟩:=ad8.1 hx;have hjl:j<hs.length:=by
  have:=(iO.1 hj).1;rcases aft hs.length with e|e
  . rw[e] at this;unfold bq at this;simp[aem.1 e] at this
  . rwa [(ky hh (h:=0) (afv _) e hs.length (adp _)).1] at this
 have h1:=(ky (R:=R) hh (h:=(j:Int)) A0b (by rw[tl];exact hjl) hs.length (adp _)).2;rw[fW hj,u9] at h1;have h2:ey hs.length (fun i=>if atI hs (i:Int)=j then kx hs (j:Int) (fun _=>true) (rowZ R (i:Int)) else 0)<=hs.length*100000000:=CZ fun i hi=>by
  split
  . refine adJ (List.countP_le_length ..) ?_;unfold rowZ;rw[tl,io (by rw[hR.1];exact hi)];exact(hR.2.2 _ (adR _)).1
  . omega
 have h3:=hR.2.1;rw[h1];constructor
 . omega
 . have:hs.length*100000000<=400*100000000:=ad9 _ h3;omega
variable{g:Int}
theorem cW{x:Int}:x∈bL hs n g↔(0<=x∧x.toNat<n)∧atI hs x=g:=by
 unfold bL;simp only[ads,adZ,adU,adS];constructor
 . rintro⟨j,⟨h1,h2⟩,rfl⟩;exact⟨⟨aeP j,by rw[tl];exact h1⟩,h2⟩
 . rintro⟨⟨h0,h1⟩,h2⟩;exact⟨x.toNat,⟨h1,by rw[aec h0];exact h2⟩,aec h0⟩
theorem zQ(hs:List Int)(n:Nat)(g:Int):(bL hs n g).length<=n:=by unfold bL;rw[eq];exact adJ (aey _ _) A0k
def vx(C:List C3)(R:List (List Int))(ps:List Int):V:=Y8 C ps (decide (1<(ps.length:Int))||decide (ps.headD 0∈rowZ R (ps.headD 0)))
abbrev KN:=List C3×List (List Int)×List (List Int)×List Int
def nk(p:KN):U:=[jf p.1 p.2.1 p.2.2.1,.l 1 (p.2.2.2.map aw)]
theorem HN(p q:KN)(e:nk p=nk q):p=q:=by obtain⟨a,b,c,d⟩:=p;obtain⟨a',b',c',d'⟩:=q;simp only[nk,jf,adW,V.agg.injEq,V.sl.injEq,aeQ,afK] at e;obtain⟨⟨h1,h2,h3⟩,h4⟩:=e;rw[bn cF h1,bn uU h2,bn uU h3,bn uT h4]
def ac7(p:KN):Prop:=bU p.1.length p.2.1∧(∀x∈p.2.2.2,0<=x∧x.toNat<p.1.length)∧p.2.2.2.length<=400∧p.2.2.2≠[]
open Classical in
noncomputable def TS(p:KN):Option V:=if ac7 p then some (vx p.1 p.2.1 p.2.2.2) else none
theorem HO:cg 22 (FE nk TS):=by
 refine qG Mo ?_;intro us r hF;obtain⟨⟨C,R,S,ps⟩,rfl,hG⟩:=bh hF;unfold TS at hG;split at hG
 case isFalse=>cases hG
 rename_i hok;cases hG;obtain⟨h1,h2,h3,h4⟩:=hok;obtain⟨p,pt,rfl⟩:=List.exists_cons_of_ne_nil h4;exact⟨C,R,S,p,pt,rfl,h1,h2,h3,rfl⟩
theorem MI{H H':HH}{r:V}{T:V->HH->Prop}(hk:∀y ob,H y=some ob->H' y=some ob)(hT:T r H):K8 r H' T:=by
 refine⟨fun y=>(H y).isNone,r,fun m w v _ _ h=>h,?_⟩;have e:(fun g=>if (H g).isNone=true then none else H' g)=H:=by
  funext g;cases hg:H g with
  |none=>simp
  |some ob=>simp[hk g ob hg]
 rw[e];exact hT
structure OI (H H':HH) (p gW:Nat) (ty:TypeId) (r:Value) (es W:List Int):Prop where
 q:QJ H' p r es
 hp:HeapN es es.length
 w:H' gW=some (rowO (W.map iv) ty)
 wp:gW≠p
 wr:blkOf r≠some gW
 k:∀y ob,H y=some ob->H' y=some ob∧y≠p∧y≠gW∧blkOf r≠some y
section
variable{H H' H2:HH}{p gW:Nat}{ty:TypeId}{r r':Value}{es es' W:List Int}
theorem OI.step(h:OI H H' p gW ty r es W)(hq:QJ H2 p r' es')(hp:HeapN es' es'.length)(ho:Oth H' H2 p r)(hf:Fr H' r r'):OI H H2 p gW ty r' es' W:=by
 have key:∀y ob,H' y=some ob->blkOf r≠some y->blkOf r'≠some y:=fun y ob h0 h1 e=>by
  rcases hf y e with e|e
  . exact h1 e
  . rw[h0] at e;cases e
 refine⟨hq,hp,ho gW _ h.w h.wp h.wr,h.wp,key gW _ h.w h.wr,fun y ob hy=>?_⟩;obtain⟨k1,k2,k3,k4⟩:=h.k y ob hy;exact⟨ho y ob k1 k2 k4,k2,k3,key y ob k1 k4⟩
theorem OI.waits(h:OI H H' p gW ty r es W)(W':List Int):OI H (upd H' gW (some (rowO (W'.map iv) ty))) p gW ty r es W':=by obtain⟨q1,q2,q3,q4,q5⟩:=h.q;refine⟨⟨by rw[ah _ _ (aeM h.wp)];exact q1,q2.other h.wr,q3,q4,q5⟩,h.hp,aj _ _ _,h.wp,h.wr,fun y ob hy=>?_⟩;obtain⟨k1,k2,k3,k4⟩:=h.k y ob hy;exact⟨by rw[ah _ _ k3];exact k1,k2,k3,k4⟩
theorem OI.row(h:OI H H' p gW ty r es W):∃a c,r= .slice a es.length c:=by
 rcases h.q.2.1 with⟨rfl,rfl⟩|⟨g,cap,cur,ty,rfl,_⟩
 . exact⟨_,_,rfl⟩
 . exact⟨_,_,rfl⟩
theorem OI.zero(hp:H p=none)(hg:H gW=none)(hne:gW≠p):OI H (upd (upd H gW (some (rowO (W.map iv) ty))) p (some (rowO [.slice none 0 0] 61))) p gW ty (.slice none 0 0) [] W:=by
 refine⟨⟨aj _ _ _,.inl ⟨rfl,rfl⟩,fun h=>A09,rfl,A0k⟩,fun k _ h=>A09,by rw[ah _ _ hne,aj],hne,fun h=>A09,fun y ob hy=>?_⟩;have h1:y≠p:=fun e=>by rw[e,hp] at hy;cases hy
 have h2:y≠gW:=fun e=>by rw[e,hg] at hy;cases hy
 exact⟨by rw[ah _ _ h1,ah _ _ h2];exact hy,h1,h2,fun h=>A09 ⟩
end
noncomputable abbrev OE:Env:=bV [(22,FE nk TS)] [] [] (fun _=>false) (fun _=>false)
theorem Y0:EnvOK OE:=bF _ _ _ _ _ ⟨HO,trivial⟩ trivial trivial
def ry:List (FuncId×(U->HH->Tr)):=[(15,YZ),(16,Mu),(17,YO),(18,LH),(19,Yy),(21,Q1),(20,Yt),(23,Mi)]
def rA:Fx:={F:=yK ry,D:=fun d=>d==24,any:=fun i=>i==16}
theorem TB:∀f C,rA.F f=some C->cR OE f C:=gU (l:=ry) ⟨Qh,HI,zz,Hc,PZ,LX,zd,Hy,trivial⟩
theorem Y1{l:List Int}(h:l≠[]):rI l= .l 1 (l.map aw):=by
 cases l with
 |nil=>exact absurd rfl h
 |cons a l=>rfl
def C0(WB HSVV MEMV:V)(gW n:Nat)(g:Int)(ps fr:List Int)(b:Bool)(z:Nat):Nat->V
 |63=>WB|64=>MEMV|65=>aw g|66=> .ip [.l 1 (ps.map aw)]|67=> .l 1 (ps.map aw)|68=>HSVV|69=> .x (.s gW n n)|70=> .sl b z (fr.map aw) none|71=>aw (fr.length:Int)|72=>aw 0|_=> .undef
variable{b:Bool}{z:Nat}
theorem Qq{WB HSVV MEMV:V}{gW:Nat}{ps fr:List Int}{b':Bool}{z':Nat}{k:Nat}(h:k≠70):C0 WB HSVV MEMV gW n g ps fr b z k=C0 WB HSVV MEMV gW n g ps fr b' z' k:=by unfold C0;split<;>first|rfl|exact absurd rfl h
def TC(us:U)(H:HH)(T:V->HH->Prop):Prop:=∃nl sz l,us=cd (nl,sz,l)∧Mc (nl,sz,l)∧G7 (bi l)∧(∀r∈(bi l).2.1,r.Nodup)∧
 ∀hs S ts,Mv (bi l).1.length (bi l).2.1 S->HeadsOK (bi l).2.1 (bi l).1.length hs->OrdOK hs (bi l).2.1 (bi l).1.length ts->(∀g∈hs,g∈ts)->T (.sl ts.isEmpty 2 (ts.map fun g=>vx (bi l).1 (bi l).2.1 (bL hs (bi l).1.length g)) none) H
theorem tE:cR OE 7 TC:=by
 refine mU (F:=rA) (n:=81) (k:=1) Y0 A0a TB (fun t s C e=>by cases e) func7 rfl (fun a w=>call7 a w) ntmps7 A0c A0c A0a ?_;rintro us H T ⟨nl,sz,l,rfl,hok,hpd,hnd,hT⟩ hdat;refine⟨rfl,?_⟩;simp only[cd];simp +decide (maxDischargeDepth:=200) only[go_sem,Nat.reduceBEq,rA,ry];refine⟨nl,sz,l,rfl,hok,hpd,hnd,fun S hS=>?_⟩;generalize (bi l).1=C at hT hS⊢;generalize (bi l).2.1=R at hT hS⊢;have hW:=hS;obtain⟨hR,hSr,hrev,hRn,hSn⟩:=hS;have hC4:C.length<=400:=hR.2.1;simp only[jf];simp +decide (maxDischargeDepth:=200) only[go_sem,Nat.reduceBEq,rA,ry];refine⟨C,R,S,rfl,hR,hSr,hrev,fun hs hh hfo=>?_⟩;obtain⟨out,hF⟩:=hfo;have hn:=hh.1;have hin:=hh.in;simp +decide (maxDischargeDepth:=200) only[go_sem,Nat.reduceBEq,rA,ry];refine⟨hs,rfl,A0b,hin,?_⟩;simp +decide (maxDischargeDepth:=200) only[go_sem,Nat.reduceBEq,rA,ry];refine⟨C,R,S,hs,rfl,by rw[hn];exact hR,hin,fun gW ty hgW=>?_⟩;simp +decide (maxDischargeDepth:=200) only[go_sem,Nat.reduceBEq,rA,ry];intro p hp;obtain⟨hp0,hne⟩:=jp hp;replace hne:gW≠p:=aeM hne;have hO0:=OI.zero (ty:=ty) (W:=bq R hs hs.length) hp0 hgW hne;have hW0:=MH hin (by rw[hn];exact hR);have hWl:(bq R hs hs.length).length=hs.length∨hs.length=0:=by
  rcases aft hs.length with e|e
  . exact .inr e
  . exact .inl (ky hin (h:=0) (afv _) e hs.length (adp _)).1
 simp +decide only[go_sem,Nat.reduceBEq,rA,ry,eq];refine bz (X:={q:Nat×Value×List Int//q.1<=hs.length∧q.2.2.Nodup∧∀h:Int,h∈q.2.2↔(0<=h∧h.toNat<q.1)∧atI hs h=h∧atI (bq R hs hs.length) h=0}) (fun q=>[(3,.ptr 3 0),(4,.l 1 (hs.map aw)),(5,.sl false 1 ((fe hs hs.length).map rI) none),(6,.x (.s gW hs.length hs.length)),(7,.x (.p p)),(25,.l 1 (hs.map aw)),(26,aw (hs.length:Int)),(27,aw (q.1.1:Int))]) (fun _=>[(3,[.l 3 (C.map aa),.l 1 (R.map rI),.l 1 (S.map rI)])]) (fun q H'=>OI H H' p gW ty q.1.2.1 q.1.2.2 (bq R hs hs.length)) (fun q=>hs.length-q.1.1) ⟨(0,.slice none 0 0,[]),adN _,ad3,fun h=>⟨fun e=>(by cases e),fun e=>absurd e.1.2 (afe _)⟩⟩ A0f A0f hO0 ?_;rintro⟨⟨i,r,es⟩,hi,hes,hem⟩ H1 hO;simp only at hi hes hem hO⊢;by_cases hil:i<hs.length
 case pos=>
  have hWl:(bq R hs hs.length).length=hs.length:=hWl.resolve_right A0b;have d1:decide ((i:Int)<hs.length)=true:=ac0 A0b;have d2:(0:Int)<=(i:Int):=A0b
  have d3:(i:Int)<hs.length:=A0b
  have d4:=ax (i:=i) A0b;have q1:hs[i]?=some hs[i]:=io hil;have q2:(hs.map aw)[(i:Int).toNat]?=some (aw hs[i]):=by rw[tl,ac9,q1];rfl
  have qm:hs[i]∈hs:=adR hil;generalize hs[i]=a at q1 q2 qm;obtain⟨a0,al⟩:=hin a qm;have hai:atI hs (i:Int)=a:=fW q1;have a2:a<(hs.length:Int):=A0b
  have hel:es.length<=hs.length:=dA hes (fun z hz=>⟨((hem z).1 hz).1.1,by have:=((hem z).1 hz).1.2;omega⟩);rw[tl] at q2;have skip: ¬(a=(i:Int)∧atI (bq R hs hs.length) a=0)->es.Nodup∧∀h:Int,h∈es↔(0<=h∧h.toNat<i+1)∧atI hs h=h∧atI (bq R hs hs.length) h=0:=fun hno=>by
   refine⟨hes,fun h=>(hem h).trans ⟨fun⟨e1,e2⟩=>⟨⟨e1.1,A0b⟩,e2⟩,fun⟨e1,e2,e3⟩=>⟨⟨e1.1,?_⟩,e2,e3⟩⟩⟩;rcases aeb h.toNat i with e|e
   . exact e
   . have he:h=(i:Int):=A0b
     rw[he,hai] at e2;exact absurd ⟨e2,by rw[e2,<-he];exact e3⟩ hno
  by_cases hpl:(i:Int)=a
  case neg=>
   have e5:decide ((i:Int)=a)=false:=Io hpl;simp +decide only[go_sem,Nat.reduceBEq,rA,ry,eq,tl,d1,d2,d3,d4,q2,e5];obtain⟨s1,s2⟩:=skip (fun h=>hpl h.1.symm);refine⟨⟨(i+1,r,es),hil,s1,s2⟩,⟨?_,?_,hO⟩,by simp only;omega⟩
   . exact WC
   . exact WC
  have e5:decide ((i:Int)=a)=true:=ac0 hpl;obtain⟨v,hv⟩:∃v,(bq R hs hs.length)[a.toNat]?=some v:=⟨_,io A0b ⟩;have hav:atI (bq R hs hs.length) a=v:=fw hv;have c1:=bf hO.w;have z52:rO prog 54=some 1:=A0a
  have p4:(((bq R hs hs.length).map iv).map V.x)[a.toNat]?=some (aw v):=by rw[aes,ac9,hv];rfl
  by_cases hv0:v=0
  case neg=>
   have e6:decide (v=0)=false:=Io hv0;simp +decide only[go_sem,Nat.reduceBEq,rA,ry,eq,tl,adx,adi,d1,d2,d3,d4,q2,e5,e6,z52,c1,p4,a0,a2];obtain⟨s1,s2⟩:=skip (fun h=>hv0 (hav.symm.trans h.2));refine⟨⟨(i+1,r,es),hil,s1,s2⟩,⟨?_,?_,hO⟩,by simp only;omega⟩
   . exact WC
   . exact WC
  have e6:decide (v=0)=true:=ac0 hv0;simp +decide only[go_sem,Nat.reduceBEq,rA,ry,eq,tl,adx,adi,d1,d2,d3,d4,q2,e5,e6,z52,c1,p4,a0,a2];refine⟨p,r,es,a,rfl,hO.q,A0b,hO.hp,fun r' es' H' hq hperm hheap ho hf=>?_⟩;simp +decide only[go_sem,Nat.reduceBEq,rA,ry,d4];refine⟨⟨(i+1,r',es'),hil,hperm.nodup_iff.2 (aeH.2 ⟨hes,aeY _ _,fun x hx y hy e=>?_⟩),fun h=>?_⟩,⟨?_,?_,hO.step hq hheap ho hf⟩,by simp only;omega⟩
  . rw[adj] at hy;have:=((hem x).1 hx).1.2;omega
  . rw[hperm.mem_iff,adv,adj,hem];constructor
    . rintro(⟨e1,e2⟩|rfl)
      . exact⟨⟨e1.1,by simp only;omega⟩,e2⟩
      . exact⟨⟨a0,by simp only;omega⟩,by rw[<-hpl,hai];exact hpl.symm▸rfl,by rw[hav];exact hv0⟩
    . rintro⟨e1,e2⟩;simp only at e1;rcases aeb h.toNat i with e|e
      . exact .inl ⟨⟨e1.1,e⟩,e2⟩
      . exact .inr A0b
  . exact WC
  . exact WC
 obtain rfl:i=hs.length:=A0b
 have d1:decide ((hs.length:Int)<hs.length)=false:=Io A0b;have hK0:KInv hs R hs.length [] (bq R hs hs.length) es:=KInv.zero hin hes (fun h=>(hem h).trans ⟨fun⟨e1,e2,e3⟩=>⟨hh.mem.2 ⟨by rw[<-hn];exact e1,e2⟩,e3⟩,fun⟨e1,e2⟩=>⟨by rw[hn];exact(hh.mem.1 e1).1,(hh.mem.1 e1).2,e2⟩⟩);simp +decide only[go_sem,Nat.reduceBEq,rA,ry,eq,d1];refine nR 10 2 99 A0O ?_;refine bz (X:={q:(List Int×List Int×List Int)×Value×Nat//KInv hs R hs.length q.1.1 q.1.2.2 q.1.2.1∧Y9 q.1.2.2}) (fun q=>[(3,.ptr 3 0),(4,.l 1 (hs.map aw)),(5,.sl false 1 ((fe hs hs.length).map rI) none),(6,.x (.s gW hs.length hs.length)),(7,.x (.p p)),(10,.sl q.1.1.1.isEmpty 2 (q.1.1.1.map fun g=>vx C R (bL hs hs.length g)) (some q.1.2.2))]) (fun _=>[(3,[.l 3 (C.map aa),.l 1 (R.map rI),.l 1 (S.map rI)])]) (fun q H'=>OI H H' p gW ty q.1.2.1 q.1.1.2.1 q.1.1.2.2) (fun q=>hs.length+1-q.1.1.1.length) ⟨(([],es,bq R hs hs.length),r,99),hK0,hW0⟩ A0f A0f hO ?_;rintro⟨⟨⟨ts,es,W⟩,r,tok⟩,hK,hWk⟩ H1 hO;simp only at hK hWk hO⊢;obtain⟨htn,hth⟩:=hK.ord.nodup;have htl:ts.length<=hs.length:=dA htn (fun x hx=>hin x (hth x hx));have hel:es.length<=hs.length:=dA hK.nd (fun x hx=>hin x ((hK.es x).1 hx).1);obtain⟨ra,rc,hrow⟩:=hO.row;subst hrow;have c1:=bf hO.q.1;have fq:KX prog 61 0=some 0:=A0a
 simp +decide only[go_sem,Nat.reduceBEq,rA,ry,fq,c1];refine⟨ra,es.length,rc,rfl,?_⟩;rcases af2 es with he|⟨e0,eN,he⟩
 . subst he;have z0:decide (((([]:List Int).length:Nat):Int)>0)=false:=rfl;simp +decide only[go_sem,Nat.reduceBEq,rA,ry,z0];refine MI (fun y ob hy=>(hO.k y ob hy).1) ?_;rw[hn] at hK⊢;exact hT hs S ts hW hh hK.ord (hK.all hF hR hh)
 have hes:es≠[]:=by rw[he,af3];simp
 have z1:decide ((es.length:Int)>0)=true:=ac0 (by have:=List.length_pos_iff.2 hes;omega);simp +decide only[go_sem,Nat.reduceBEq,rA,ry,z1];refine⟨p,.slice ra es.length rc,es,rfl,hO.q,hes,hO.hp,fun r' g es' H' hq hperm hle hheap ho hf=>?_⟩;have hO1:=hO.step hq hheap ho hf;obtain⟨hgh,hgt,hgw⟩:=(hK.es g).1 (hperm.symm.subset (adP ..));obtain⟨g0,gn⟩:=hin g hgh;obtain⟨hK2,hWk2⟩:=hK.step hin (by rw[hn];exact hR) (by rw[hn];exact hSr) (by rw[hn];exact hrev) hRn hSn hperm (fun x hx=>hle x (hperm.symm.subset (adE _ hx)));replace hWk2:=hWk2 hWk;have hmem:=Qd hin g0 gn hs.length (adp _);have hpsl:(bL hs hs.length g).length<=400:=adJ (zQ _ _ _) A0b;have hpsr:∀x∈bL hs hs.length g,0<=x∧x.toNat<hs.length:=fun x hx=>(cW.1 hx).1
 have hpsn:bL hs hs.length g≠[]:=List.ne_nil_of_mem (cW.2 ⟨⟨g0,gn⟩,(hh.mem.1 hgh).2⟩);have hkv:vx C R (bL hs hs.length g)=vx C R (bL hs hs.length g):=rfl;generalize hps:bL hs hs.length g=ps at hmem hpsl hpsr hpsn hK2 hWk2 hkv;obtain⟨kb,hkb⟩:∃kb,vx C R ps= .agg [.sl false 3 ((ps.map (di C)).map aa) none,.bool kb]:=⟨_,rfl⟩;have k1:FE nk TS (nk (C,R,S,ps))=some (vx C R ps):=(ca HN TS (C,R,S,ps)).trans (adl ⟨hR,fun x hx=>by rw[<-hn];exact hpsr x hx,hpsl,hpsn⟩);simp only[nk,jf] at k1;have g2:g<(hs.length:Int):=A0b
 have g3:g<((fe hs hs.length).length:Int):=by rw[gX];exact g2
 have arr:((fe hs hs.length).map rI)[g.toNat]?=some (.l 1 (ps.map aw)):=by rw[ac9,hmem,aea,Y1 hpsn]
 have gr:=db (E:=jQ [(22,FE nk TS)] (fun _=>false)) (el:=31) (n:=2) Uh Ui Uj A0c rfl (es:=ts.map fun g=>vx C R (bL hs hs.length g)) (v:= .agg [.sl false 3 ((ps.map (di C)).map aa) none,.bool kb]) (by rfl) A0w A0w;rw[hkb] at k1;simp only[agA] at gr;simp +decide only[go_sem,Nat.reduceBEq,rA,ry,eq,gX,g0,g2,arr,k1,gr];generalize hfr:(cV S hs W ps).2=fr at hK2;generalize hW2:(cV S hs W ps).1=W2 at hK2 hWk2;refine kP (fun k=>match k with|3=>[64,65]|4=>[66]|7=>[63,67,68,69]|8=>[70]|_=>[]) (fun L H2 val=>∃b z,val=C0 (.agg [.l 3 (C.map aa),.l 1 (R.map rI),.l 1 (S.map rI)]) (.l 1 (hs.map aw)) (.sl false 1 ((fe hs hs.length).map rI) none) gW hs.length g ps fr b z∧(fr≠[]->b=false∧z=1)∧H2=if L.testBit 7=true then upd H' gW (some (rowO (W2.map iv) ty)) else H') (C0 (.agg [.l 3 (C.map aa),.l 1 (R.map rI),.l 1 (S.map rI)]) (.l 1 (hs.map aw)) (.sl false 1 ((fe hs hs.length).map rI) none) gW hs.length g ps fr false 1) A0a A0a ⟨false,1,rfl,fun _=>⟨rfl,rfl⟩,A0k⟩ ?_ ?_
 . intro L k o H2 val st ho hb hdd hcl hI hn0 hbase hbb;have b3:st.t 3= .ptr 3 0:=(hbase 3 A0a).trans A0n;have b4:st.t 4= .l 1 (hs.map aw):=(hbase 4 A0a).trans A0n;have b5:st.t 5= .sl false 1 ((fe hs hs.length).map rI) none:=(hbase 5 A0a).trans A0n;have b6:st.t 6= .x (.s gW hs.length hs.length):=(hbase 6 A0a).trans A0n;have b11:st.t 11=aw g:=(hbase 11 A0a).trans A0n;have x3:st.b 3=some [.l 3 (C.map aa),.l 1 (R.map rI),.l 1 (S.map rI)]:=by rw[hbb];simp +decide only[go_sem,Nat.reduceBEq]
   obtain⟨b,z,hval,hbz,hH2⟩:=hI;have nx:∀k,k≠7->∃b z,val=C0 (.agg [.l 3 (C.map aa),.l 1 (R.map rI),.l 1 (S.map rI)]) (.l 1 (hs.map aw)) (.sl false 1 ((fe hs hs.length).map rI) none) gW hs.length g ps fr b z∧(fr≠[]->b=false∧z=1)∧H2=if (L|||2^k).testBit 7=true then upd H' gW (some (rowO (W2.map iv) ty)) else H':=fun k hk=>⟨b,z,hval,hbz,by rw[av L hk];exact hH2⟩
   rcases k with _|_|_|_|_|_|_|_|_|_|k
   . cases ho;simp +decide only[go_sem,Nat.reduceBEq,b3,x3];exact WD
   . cases ho;simp +decide only[go_sem,Nat.reduceBEq,b5];exact WD
   . cases ho;simp +decide only[go_sem,Nat.reduceBEq,b11];exact WD
   . cases ho;have h64:st.t 64= .sl false 1 ((fe hs hs.length).map rI) none:=(hn0 64 A0c).trans A0q;have h65:st.t 65=aw g:=(hn0 65 A0c).trans A0q;simp +decide only[go_sem,Nat.reduceBEq,h64,h65,eq,gX,g0,g2,arr];exact WD
   . cases ho;have h66:st.t 66= .ip [.l 1 (ps.map aw)]:=(hn0 66 A0c).trans A0q;simp +decide only[go_sem,Nat.reduceBEq,h66];exact WD
   . cases ho;simp +decide only[go_sem,Nat.reduceBEq,b4];exact WD
   . cases ho;simp +decide only[go_sem,Nat.reduceBEq,b6];exact WD
   . cases ho;have h63:st.t 63= .agg [.l 3 (C.map aa),.l 1 (R.map rI),.l 1 (S.map rI)]:=(hn0 63 A0c).trans A0q;have h67:st.t 67= .l 1 (ps.map aw):=(hn0 67 A0c).trans A0q;have h68:st.t 68= .l 1 (hs.map aw):=(hn0 68 A0c).trans A0q;have h69:st.t 69= .x (.s gW hs.length hs.length):=(hn0 69 A0c).trans A0q;rw[hb] at hH2;simp only[adI,adw] at hH2;subst hH2;simp +decide only[go_sem,Nat.reduceBEq,h63,h67,h68,h69,rA,ry];refine⟨C,R,S,hs,ps,W,gW,ty,rfl,by rw[hn];exact hSr,hin,hpsr,hpsl,hK.len,hWk,hO1.w,fun b' z' hbz'=>?_⟩;rw[hfr] at hbz'⊢;rw[hW2];simp +decide only[go_sem,Nat.reduceBEq];exact⟨C0 (.agg [.l 3 (C.map aa),.l 1 (R.map rI),.l 1 (S.map rI)]) (.l 1 (hs.map aw)) (.sl false 1 ((fe hs hs.length).map rI) none) gW hs.length g ps fr b' z',fun k hk=>by rw[hval];exact Qq (fun e=>hk A08),⟨b',z',rfl,hbz',by rw[adl (cy L 7)]⟩,Le.refl _⟩
   . cases ho;have h70:st.t 70= .sl b z (fr.map aw) none:=(hn0 70 A0c).trans A0q;simp +decide only[go_sem,Nat.reduceBEq,h70,eq];exact WD
   . cases ho;simp +decide only[go_sem,Nat.reduceBEq];exact WD
   . cases ho
 rintro H2 val ⟨b,z,rfl,hbz,rfl⟩;rw[adl A0c];have hel2:(es'++fr).length<=hs.length:=dA hK2.nd (fun x hx=>hin x ((hK2.es x).1 hx).1);rw[adh] at hel2;have hO2:=hO1.waits W2;refine⟨[(3,.ptr 3 0),(4,.l 1 (hs.map aw)),(5,.sl false 1 ((fe hs hs.length).map rI) none),(6,.x (.s gW hs.length hs.length)),(7,.x (.p p)),(10,.sl false 2 ((ts.map fun g=>vx C R (bL hs hs.length g))++[.agg [.sl false 3 ((ps.map (di C)).map aa) none,.bool kb]]) (some 62)),(70,.sl b z (fr.map aw) none),(71,aw (fr.length:Int)),(72,aw 0)],[(3,[.l 3 (C.map aa),.l 1 (R.map rI),.l 1 (S.map rI)])],⟨(au A0a).trans A0n,(au A0a).trans A0n,(au A0a).trans A0n,(au A0a).trans A0n,(au A0a).trans A0n,(au A0a).trans A0n,fM A0a,fM A0a,fM A0a,trivial⟩,⟨by simp +decide only[go_sem,Nat.reduceBEq,gC],trivial⟩,?_⟩;simp +decide only[go_sem,Nat.reduceBEq,rA,ry,eq];refine bz (X:={q:Nat×Value×List Int//q.1<=fr.length∧q.2.2.Perm (es'++fr.take q.1)}) (fun q=>[(3,.ptr 3 0),(4,.l 1 (hs.map aw)),(5,.sl false 1 ((fe hs hs.length).map rI) none),(6,.x (.s gW hs.length hs.length)),(7,.x (.p p)),(10,.sl false 2 ((ts.map fun g=>vx C R (bL hs hs.length g))++[.agg [.sl false 3 ((ps.map (di C)).map aa) none,.bool kb]]) (some 62)),(70,.sl b z (fr.map aw) none),(71,aw (fr.length:Int)),(72,aw (q.1.1:Int))]) (fun _=>[(3,[.l 3 (C.map aa),.l 1 (R.map rI),.l 1 (S.map rI)])]) (fun q H3=>OI H H3 p gW ty q.1.2.1 q.1.2.2 W2) (fun q=>fr.length-q.1.1) ⟨(0,r',es'),adN _,A0k⟩ A0f A0f hO2 ?_;rintro⟨⟨k,r2,e2⟩,hk,hp2⟩ H2 hO;simp only at hk hp2 hO⊢;by_cases hkl:k<fr.length
 case neg=>
  obtain rfl:k=fr.length:=A0b
  have d1:decide ((fr.length:Int)<fr.length)=false:=Io A0b;rw[aei] at hp2;have iso:(ts++[g]).isEmpty=false:=by cases ts<;>rfl
  have mapf:(ts++[g]).map (fun g=>vx C R (bL hs hs.length g))=(ts.map fun g=>vx C R (bL hs hs.length g))++[.agg [.sl false 3 ((ps.map (di C)).map aa) none,.bool kb]]:=by rw[adK,adL,afr,hps,hkb]
  simp +decide only[go_sem,Nat.reduceBEq,rA,ry,eq,d1];refine⟨⟨((ts++[g],e2,W2),r2,62),hK2.perm hp2,hWk2⟩,⟨?_,?_,hO⟩,by simp only[adh,aej];omega⟩
  . simp +decide only[go_sem,Nat.reduceBEq,iso,mapf]
  . exact WC
 have d1:decide ((k:Int)<fr.length)=true:=ac0 A0b;have d2:(0:Int)<=(k:Int):=A0b
 have d3:(k:Int)<fr.length:=A0b
 have d4:=ax (i:=k) A0b;have q1:fr[k]?=some fr[k]:=io hkl;have q2:(fr.map aw)[(k:Int).toNat]?=some (aw fr[k]):=by rw[tl,ac9,q1];rfl
 have qm:fr[k]∈fr:=adR hkl;generalize fr[k]=a at q1 q2 qm;obtain⟨rfl,rfl⟩:=hbz (fun h=>by rw[h] at hkl;cases hkl);rw[tl] at q2;have hl2:=hp2.length_eq;rw[adh,adz,aeZ A0b] at hl2;simp +decide only[go_sem,Nat.reduceBEq,rA,ry,eq,tl,d1,d2,d3,d4,q2];refine⟨p,r2,e2,a,rfl,hO.q,A0b,hO.hp,fun r3 e3 H3 hq hperm3 hheap ho hf=>?_⟩;simp +decide only[go_sem,Nat.reduceBEq,rA,ry,d4];refine⟨⟨(k+1,r3,e3),hkl,hperm3.trans ?_⟩,⟨?_,?_,hO.step hq hheap ho hf⟩,by simp only;omega⟩
 . simp only;rw[aF q1,<-aef];exact hp2.append_right _
 . exact WC
 . exact WC
theorem tF{α:Type}{f:α->Bool}:∀{l:List α},(∀x∈l,f x=true)->l.takeWhile f=l∧l.dropWhile f=[]
 |[],_=>⟨rfl,rfl⟩
 |a::l,h=>by obtain⟨h1,h2⟩:=tF (l:=l) (fun x hx=>h x (adE _ hx));have ha:=h a (adP ..);simp only[List.takeWhile,List.dropWhile,ha,h1,h2,and_self]
theorem tG:∀(n:Nat) (l:List En),l.length=n->gB ae (ay l)->aS l=l
 |0,l,hl,_=>by rw[aem.1 hl];rfl
 | n+1,l,hl,hs=>by
   rcases af2 l with e|⟨m,e,rfl⟩
   . rw[e] at hl;cases hl
   . rw[af3] at hl hs⊢;unfold ay at hs;rw[adK] at hs;obtain⟨h1,_,h3⟩:=aeF.1 hs;rw[s8,tG n m (by simpa using hl) h1];obtain⟨t1,t2⟩:=tF (l:=m) (f:=fun x=>ae x.1 e.1) (fun x hx=>h3 x.1 (ads.2 ⟨x,hx,rfl⟩) e.1 A0k);unfold mW;rw[t1,t2]
theorem zR(l:List En):(bi l).2.1.length=(bi l).1.length:=(n8 l (cz (am l)) (cz (am l)).length).1
theorem zS(l:List En):(bi l).1.Nodup:=eh _
theorem vg(L:List En)(c:C3):(ft L c).Nodup:=by
 unfold ft;split
 . refine(qL L _).imp fun {a b} h e=>?_
   subst e;rw[bQ.irr] at h;cases h
 . exact ad3
theorem n9(l:List En):∀r∈(bi l).2.1,r.Nodup:=fun r hr=>by
 obtain⟨i,hi⟩:=ad8.1 hr;have hil:i<(bi l).1.length:=by rw[<-zR];exact(iO.1 hi).1
 obtain⟨es,h1,_,h3⟩:=kU (l:=l) (io hil);rw[hi] at h1;cases h1;have:=vg (aS l) (bi l).1[i];rw[<-h3] at this;exact(afP.1 this).imp fun h e=>h A08
theorem jq(l:List En):(bi l).1=ay (aS l):=rf l
variable{l:List En}
theorem MJ{i:Nat}{e:En}(hi:(aS l)[i]?=some e)(h:bJ (aS l) e=[]):(bi l).2.1[i]?=some []:=by
 have hc:(bi l).1[i]?=some e.1:=by rw[jq];unfold ay;rw[ac9,hi];rfl
 obtain⟨es,h1,_,h3⟩:=kU hc;rw[jc (dy l) (adg hi),h] at h3;rw[h1,agd.1 h3]
theorem MK{l:List Int}(hn:l.Nodup)(h:∀x,x∈l↔x=g):l=[g]:=by
 match l,hn,h with
 |[],_,h=>exact absurd ((h g).2 rfl) A0k
 |[a],_,h=>rw[(h a).1 (adj.2 rfl)]
 |a::b::t,hn,h=>have ha:=(h a).1 A0k;have hb:=(h b).1 A0k;rw[ha,hb] at hn;simp at hn
theorem mi(hs:List Int)(n:Nat)(g:Int):(bL hs n g).Nodup:=by unfold bL List.Nodup;rw[afP];exact(List.Pairwise.filter _ List.nodup_range).imp fun h e=>h A0b
section
variable{R:List (List Int)}{n:Nat}{hs:List Int}
theorem rq{d:Int->Nat}(hd:∀x y,y∈rowS R x->d y<d x){x y:Int}(h:ReachI R x y):d y<d x:=by
 induction h with
 |one h=>exact hd _ _ h
 |step _ h ih=>exact Nat.lt_trans (hd _ _ h) ih
theorem zT(hH:HeadsOK R n hs)(d:Int->Nat)(hd:∀x y,y∈rowS R x->d y<d x){x:Int}(hx:0<=x∧x.toNat<n):atI hs x=x:=by
 rcases(hH.at hx).1 with h|⟨h1,h2⟩
 . exact h.symm
 . have:=rq hd h1;have:=rq hd h2;omega
theorem C1(ha:∀x:Int,0<=x∧x.toNat<n->atI hs x=x){g:Int}(hg:0<=g∧g.toNat<n):bL hs n g=[g]:=
 MK (mi _ _ _) fun x=>by rw[cW];exact⟨fun⟨h1,h2⟩=>by rw[ha x h1] at h2;exact h2,fun e=>by subst e;exact⟨hg,ha _ hg⟩⟩
theorem ML(ha:∀x:Int,0<=x∧x.toNat<n->atI hs x=x){g:Int}(hg:0<=g∧g.toNat<n)(p:Int->Bool):wt hs R n p g=(kx hs g p (rowZ R g):Nat):=by
 rw[u9];congr 1;refine(eo (g:=fun i=>if i=g.toNat then kx hs g p (rowZ R g) else 0) fun i hi=>?_).trans (zD _ hg.2);rw[ha (i:Int) ⟨A0b,by rw[tl];exact hi⟩];by_cases e:i=g.toNat
 . subst e;rw[aec hg.1,adl rfl,adl rfl]
 . rw[adq e,adq A0b]
theorem C2(hH:HeadsOK R n hs)(ha:∀x:Int,0<=x∧x.toNat<n->atI hs x=x){g:Int}:g∈hs↔0<=g∧g.toNat<n:=hH.mem.trans ⟨fun h=>h.1,fun h=>⟨h,ha g h⟩⟩
theorem tH{f:Nat->Int}{i:Nat}(hi:i<=n){x:Int}:x∈((List.range n).map f).take i↔∃j,j<i∧x=f j:=by
 rw[<-List.map_take,List.take_range,aeZ hi,ads];constructor
 . rintro⟨j,hj,rfl⟩;exact⟨j,adU.1 hj,rfl⟩
 . rintro⟨j,hj,rfl⟩;exact⟨j,adU.2 hj,rfl⟩
theorem HR(hR:∀j,j<n->R[j]?=some [])(hl:R.length=n)(hH:HeadsOK R n hs){ts:List Int}(hO:OrdOK hs R n ts)(hA:∀g∈hs,g∈ts):ts=(List.range n).map (fun(i:Nat)=>(i:Int))∧∀g:Int,0<=g∧g.toNat<n->bL hs n g=[g]:=by
 have hrow:∀x:Int,rowZ R x=[]:=fun x=>by
  unfold rowZ;by_cases h:x.toNat<n
  . rw[hR _ h];rfl
  . rw[adM A0b];rfl
 have ha:∀x:Int,0<=x∧x.toNat<n->atI hs x=x:=fun x hx=>zT hH (fun _=>0) (fun x y h=>by have h:y∈rowZ R x:=h;rw[hrow] at h;cases h) hx
 refine⟨Qg hO (fun i g hi=>?_) hA (fun g hg=>?_),fun g hg=>C1 ha hg⟩
 . rw[ac9,adn] at hi;obtain⟨j,hj,rfl⟩:=hi;obtain⟨hin,e⟩:=iO.1 hj;rw[List.getElem_range] at e;subst e;rw[afi] at hin;have hir:0<=(i:Int)∧(i:Int).toNat<n:=⟨A0b,by rw[tl];exact hin⟩;refine⟨(C2 hH ha).2 hir,fun h=>?_,?_,fun h h1 h2 _=>?_⟩
   . obtain⟨j,hj,e⟩:=(tH A0b).1 h;omega
   . rw[ML ha hir,hrow];rfl
   . obtain⟨h0,hn⟩:=(C2 hH ha).1 h1;rcases Int.lt_or_le h (i:Int) with e|e
     . exact absurd ((tH A0b).2 ⟨h.toNat,A0b,(aec h0).symm⟩) h2
     . exact e
 . obtain⟨h0,hn⟩:=(C2 hH ha).1 hg;exact ads.2 ⟨g.toNat,adU.2 hn,aec h0⟩
end
def z6:En:=((⟨#[115]⟩,1,1),false,.leaf ⟨0,⟨#[]⟩,⟨#[]⟩,0,0,⟨#[]⟩,⟨#[]⟩,0,0,⟨#[]⟩,0,0⟩,(0,0,⟨#[]⟩))
theorem TD:Mc (true,0,([]:List En)):=⟨⟨fun h=>absurd rfl h,adN _,fun e he=>by cases he⟩,fun e he=>by cases he⟩
theorem TE:Mc (false,20,[z6]):=⟨⟨fun _=>rfl,A0c,fun e he=>by rw[adj.1 he];decide⟩,fun e he=>by rw[adj.1 he];decide⟩
theorem MM(hH:HeadsOK (bi []).2.1 (bi []).1.length hs)(hO:OrdOK hs (bi []).2.1 (bi []).1.length ts):ts=[]:=by
 have h0:(bi []).1=[]:=by rw[jq];rfl
 rw[h0] at hH;have hh:hs=[]:=aem.1 hH.1;subst hh
 match ts,hO.nodup.2 with
 |[],_=>rfl
 |a::_,h=>cases h a (adP ..)
theorem Qr(hH:HeadsOK (bi [z6]).2.1 (bi [z6]).1.length hs)(hO:OrdOK hs (bi [z6]).2.1 (bi [z6]).1.length ts)(hA:∀g∈hs,g∈ts):ts=[0]∧vx (bi [z6]).1 (bi [z6]).2.1 (bL hs (bi [z6]).1.length 0)= .agg [.sl false 3 [.agg [.x (.string ⟨#[115]⟩),.i 1,.i 1]] none,.bool false]:=by
 have hl:aS [z6]=[z6]:=tG 1 _ rfl (aeY _ _);have h0:(bi [z6]).1=[(⟨#[115]⟩,1,1)]:=by rw[jq,hl];rfl
 have h1:(bi [z6]).2.1[0]?=some []:=MJ (e:=z6) (by rw[hl];rfl) rfl;have h2:=zR [z6];rw[h0] at h2 hH hO⊢;obtain⟨q1,q2⟩:=HR (n:=1) (fun j hj=>by rw[show j=0 by omega];exact h1) h2 hH hO hA;refine⟨q1,?_⟩;have q3:bL hs [((⟨#[115]⟩,1,1):C3)].length 0=[0]:=q2 0 ⟨afv _,A0c⟩;have q4:rowZ (bi [z6]).2.1 0=[]:=by unfold rowZ;rw[show(0:Int).toNat=0 from rfl,h1];rfl
 rw[q3];unfold vx Y8;rw[show List.headD [(0:Int)] 0=0 from rfl,q4];rfl
def ff:U->Option V
 |[]=>some (.bool true)
 |_=>none
def Y2(us:U)(H:HH)(T:V->HH->Prop):Prop:=us=[]∧T (.bool true) H
def Y3:List (FuncId×(U->HH->Tr)):=[(7,TC)]
theorem HS:cR (bV [] [] [] (fun _=>false) (fun _=>false)) 4 Y2:=by refine cO (F:={F:=yK Y3,D:=fun _=>false}) (n:=29) (k:=0) (bF [] [] [] _ _ trivial trivial trivial) A0a (gU (l:=Y3) ⟨tE,trivial⟩) (fun t s C e=>by cases e) func4 rfl (fun a w=>call4 a w) ntmps4 A0c A0c A0a ?_;rintro us H T ⟨rfl,hT⟩ hdat;refine⟨rfl,?_⟩;simp +decide only[go_sem,Y3];refine⟨false,20,[z6],rfl,TE,CS TE.1.2.1 TE.1.2.2,n9 _,fun hs S ts _ hH hO hA=>?_⟩;obtain⟨rfl,hk⟩:=Qr hH hO hA;rw[adL,afr,hk];simp +decide only[go_sem,Y3];refine⟨true,0,[],rfl,TD,CS TD.1.2.1 TD.1.2.2,n9 _,fun hs S ts _ hH hO hA=>?_⟩;obtain rfl:=MM hH hO;simp +decide only[go_sem,Y3,afr];exact hT
theorem zU:cg 4 ff:=by
 refine qG HS ?_;intro us r hF;unfold ff at hF;split at hF
 case h_2=>cases hF
 cases hF;exact⟨rfl,rfl⟩
section
variable{m c:Nat}{op:Bool}
end
variable{y:Int}
theorem zV{x z:Int}(h:y∈rowS R x)(k:ReachI R y z):ReachI R x z:=by
 induction k with
 |one e=>exact .step (.one h) e
 |step _ e ih=>exact .step ih e
theorem vh{z:Int}(h:0<=z∧z.toNat<(bi l).1.length):(bi l).1[z.toNat]?=some (di (bi l).1 z):=by unfold di;rw[io h.2];rfl
theorem C4{x:Int}(hx:0<=x∧x.toNat<(bi l).1.length)(hy:0<=y∧y.toNat<(bi l).1.length)(h:di (bi l).1 x=di (bi l).1 y):x=y:=by have a:=vh hx;have b:=vh hy;rw[h,<-b] at a;have:=(List.getElem?_inj hx.2 (zS l)).1 a;omega
theorem kV{x:Int}(hx:0<=x∧x.toNat<(bi l).1.length):(∀z∈rowS (bi l).2.1 x,0<=z∧z.toNat<(bi l).1.length)∧(rowS (bi l).2.1 x).map (di (bi l).1)=ft (aS l) (di (bi l).1 x):=by obtain⟨es,h1,h2,h3⟩:=kU (l:=l) (vh hx);unfold rowS;rw[h1];exact⟨h2,h3⟩
theorem zW{x:Int}(hx:0<=x∧x.toNat<(bi l).1.length)(h:ReachI (bi l).2.1 x y):(0<=y∧y.toNat<(bi l).1.length)∧Hang (aS l) (di (bi l).1 y) (di (bi l).1 x):=by
 induction h with
 |one e=>obtain⟨a,b⟩:=kV hx;refine⟨a _ e,.one ((iK (dy l)).1 ?_)⟩;rw[<-b];exact List.mem_map_of_mem e
 |step _ e ih=>obtain⟨i1,i2⟩:=ih;obtain⟨a,b⟩:=kV i1;refine⟨a _ e,Co ((iK (dy l)).1 ?_) i2⟩;rw[<-b];exact List.mem_map_of_mem e
variable{c:C3}{q:Int}
theorem ru{x:C3}(hq:0<=q∧q.toNat<(bi l).1.length)(hc:di (bi l).1 q=c)(h:x∈readersD (aS l) c):∃p:Int,(0<=p∧p.toNat<(bi l).1.length)∧di (bi l).1 p=x∧q∈rowS (bi l).2.1 p:=by
 have hx:x∈(bi l).1:=by rw[jq];exact iz h
 obtain⟨i,hi,e⟩:=List.getElem_of_mem hx;have hp:(0:Int)<=(i:Int)∧((i:Int)).toNat<(bi l).1.length:=⟨A0b,by rw[tl];exact hi⟩;have ea:di (bi l).1 (i:Int)=x:=iE (by rw[io hi,e]);refine⟨(i:Int),hp,ea,?_⟩;obtain⟨a,b⟩:=kV hp;have hr:=(iK (dy l)).2 h;rw[<-ea,<-b] at hr;obtain⟨z,hz,e2⟩:=ads.1 hr;rw[<-hc] at e2
 rwa [<-C4 (a z hz) hq e2]
theorem zX{x:C3}(hq:0<=q∧q.toNat<(bi l).1.length)(hc:di (bi l).1 q=c)(h:Hang (aS l) c x):∃p:Int,(0<=p∧p.toNat<(bi l).1.length)∧di (bi l).1 p=x∧ReachI (bi l).2.1 p q:=by
 induction h with
 |one h=>obtain⟨p,a,b,d⟩:=ru hq hc h;exact⟨p,a,b,.one d⟩
 |next _ k ih=>obtain⟨y,a,b,d⟩:=ih;obtain⟨p,a',b',d'⟩:=ru a b k;exact⟨p,a',b',zV d' d⟩
theorem C5{p:Int}(hp:0<=p∧p.toNat<(bi l).1.length):je (di (bi l).1 p) (fV (aS l) (di (bi l).1 p))=true↔ReachI (bi l).2.1 p p:=by
 rw[iD,nX];constructor
 . intro h;obtain⟨q,a,b,d⟩:=zX hp rfl h
   rwa [C4 a hp b] at d
 . intro h;exact(zW hp h).2
section
variable{R S:List (List Int)}{n:Nat}{hs ts:List Int}
theorem zY(hH:HeadsOK R n hs){g:Int}(hg:g∈hs):g∈bL hs n g:=cW.2 (hH.mem.1 hg)
theorem TF(hH:HeadsOK R n hs){g x y:Int}(hx:x∈bL hs n g)(hy:y∈bL hs n g):SC R x y:=by obtain⟨a,b⟩:=cW.1 hx;obtain⟨c,d⟩:=cW.1 hy;exact(hH.same a c).1 (b.trans d.symm)
theorem TG(hH:HeadsOK R n hs){g x y:Int}(hx:x∈bL hs n g)(hy:0<=y∧y.toNat<n)(h:SC R x y):y∈bL hs n g:=by obtain⟨a,b⟩:=cW.1 hx;exact cW.2 ⟨hy,((hH.same a hy).2 h).symm.trans b⟩
theorem MN(hR:bU n R)(hH:HeadsOK R n hs){g p:Int}(hg:g∈hs)(hp:p∈bL hs n g):(decide (1<((bL hs n g).length:Int))||decide ((bL hs n g).headD 0∈rowZ R ((bL hs n g).headD 0)))=true↔ReachI R p p:=by
 have hgm:=zY hH hg;have hnd:=mi hs n g;by_cases hl:1<(bL hs n g).length
 . rw [ac0 (by omega :1<((bL hs n g).length:Int)),Bool.true_or];refine⟨fun _=>?_,fun _=>rfl⟩;obtain⟨q,hq,hne⟩:∃q∈bL hs n g,q≠p:=by
    rcases hm:bL hs n g with _|⟨a,_|⟨b,t⟩⟩
    . rw[hm] at hl;simp at hl
    . rw[hm] at hl;simp at hl
    . rw[hm] at hnd;by_cases e:a=p
      . refine⟨b,A0k,fun e2=>?_⟩;simp[e,e2] at hnd
      . exact⟨a,A0k,e⟩
   rcases TF hH hp hq with e|⟨e1,e2⟩
   . exact absurd e.symm hne
   . exact e1.trans e2
 . have h1:bL hs n g=[g]:=by
    rcases hm:bL hs n g with _|⟨a,_|⟨b,t⟩⟩
    . rw[hm] at hgm;cases hgm
    . rw[hm] at hgm;rw[adj.1 hgm]
    . rw[hm] at hl;simp at hl
   rw[h1] at hp;obtain rfl:=adj.1 hp;rw[h1];have e0:List.headD [p] 0=p:=rfl;rw[e0,Io A0k,afG,adS];have hp2:p∈bL hs n p:=by rw[h1];simp
   constructor
   . intro h;exact .one h
   . intro h;have key:∀x:Int,ReachI R p x->p∈rowS R x->p∈rowZ R p:=fun x hx hr=>by have:=TG hH hp2 (zy hR hx) (.inr ⟨hx,.one hr⟩);rw[h1] at this;rw[adj.1 this] at hr;exact hr
     cases h with
     |one e=>exact e
     |step h e=>exact key _ h e
def jJ(hs:List Int)(n:Nat)(ts:List Int):List Int:=ts.flatMap (bL hs n)
theorem HT(g:Int):jJ hs n (ts++[g])=jJ hs n ts++bL hs n g:=by simp[jJ]
theorem kz{x:Int}:x∈jJ hs n ts↔(0<=x∧x.toNat<n)∧atI hs x∈ts:=by
 unfold jJ;rw[List.mem_flatMap];constructor
 . rintro⟨g,hg,hx⟩;obtain⟨a,b⟩:=cW.1 hx;exact⟨a,b▸hg⟩
 . rintro⟨a,b⟩;exact⟨_,b,cW.2 ⟨a,rfl⟩⟩
theorem Qs{p:Int->Bool}{h:Int}(hw:wt hs R n p h=0){v w:Int}(hv:0<=v∧v.toNat<n)(ha:atI hs v=h)(hr:w∈rowZ R v):atI hs w=h∨p (atI hs w)=false:=by
 by_cases e:atI hs w=h
 . exact .inl e
 . refine .inr ?_;cases hp:p (atI hs w) with
   |false=>rfl
   | true=>
     exfalso;rw[u9] at hw;have h0:ey n (fun i=>if atI hs (i:Int)=h then kx hs h p (rowZ R (i:Int)) else 0)=0:=A0b
     have hle:∀(m:Nat) (f:Nat->Nat) (i:Nat),i<m->f i<=ey m f:=by
      intro m f
      induction m with
      |zero=>intro i hi;omega
      | succ m ih=>
        intro i hi;rw[cA];by_cases e:i=m
        . subst e;omega
        . have:=ih i A0b;omega
     have h1:=hle n (fun i=>if atI hs (i:Int)=h then kx hs h p (rowZ R (i:Int)) else 0) v.toNat hv.2;rw[h0] at h1;have ev:(v.toNat:Int)=v:=aec hv.1;simp only[ev] at h1;rw[adl ha] at h1;have:0<kx hs h p (rowZ R v):=by unfold kx;refine List.countP_pos_iff.2 ⟨w,hr,?_⟩;simp[e,hp]
     omega
theorem C6(hR:bU n R)(hO:OrdOK hs R n ts){i:Nat}{g:Int}(hi:ts[i]?=some g){v w:Int}(hv:v∈bL hs n g)(hr:w∈rowS R v):w∈jJ hs n (ts.take i)∨w∈bL hs n g:=by
 obtain⟨_,_,hw,_⟩:=hO i g hi;obtain⟨a,b⟩:=cW.1 hv;have hwn:=mf hR hr;rcases Qs hw a b hr with e|e
 . exact .inr (cW.2 ⟨hwn,e⟩)
 . refine .inl (kz.2 ⟨hwn,?_⟩);unfold untold at e;exact Classical.not_not.1 (aff e)
theorem MO(hO:OrdOK hs R n ts){i:Nat}{g:Int}(hi:ts[i]?=some g){v:Int}(hv:v∈bL hs n g):v∉jJ hs n (ts.take i):=fun h=>by obtain⟨_,hn,_⟩:=hO i g hi;obtain⟨_,b⟩:=cW.1 hv;exact hn (b▸(kz.1 h).2)
theorem mj:∀{ts:List Int},ts.Nodup->(jJ hs n ts).Nodup
 |[],_=>ad3
 |g::ts,h=>by obtain⟨h1,h2⟩:=adY.1 h;show(bL hs n g++jJ hs n ts).Nodup;refine aeH.2 ⟨mi hs n g,mj h2,fun a ha b hb e=>?_⟩;subst e;exact h1 ((cW.1 ha).2▸(kz.1 hb).2)
theorem MP(hH:HeadsOK R n hs)(hO:OrdOK hs R n ts)(hA:∀g∈hs,g∈ts):(jJ hs n ts).length=n:=by
 have hnd:=mj (hs:=hs) (n:=n) hO.nodup.1;have hm:∀x,x∈jJ hs n ts↔x∈(List.range n).map (fun i:Nat=>(i:Int)):=fun x=>by
  rw[kz];simp only[ads,adU];constructor
  . rintro⟨⟨a,b⟩,_⟩;exact⟨x.toNat,b,aec a⟩
  . rintro⟨k,hk,rfl⟩;refine⟨⟨A0b,by rwa [tl]⟩,hA _ ?_⟩;have hx:0<=(k:Int)∧((k:Int)).toNat<n:=⟨A0b,by rwa [tl]⟩;have h1:=hH.at hx;refine hH.mem.2 ⟨h1.2.1,?_⟩;exact((hH.same hx h1.2.1).2 h1.1).symm
 have hn2:((List.range n).map (fun i:Nat=>(i:Int))).Nodup:=by exact afP.2 (List.nodup_range.imp fun h e=>h (Int.ofNat_inj.1 e))
 have hp:=(List.perm_ext_iff_of_nodup hnd hn2).2 hm;rw[hp.length_eq,eq,afi]
end
def H4:List (FuncId×(U->HH->Tr)):=[(7,TC)]
def CKo(us:U)(H:HH)(T:V->HH->Prop):Prop:=∃nl sz l,us=cd (nl,sz,l)∧Tz (nl,sz,l)∧T (.bool true) H
theorem vm{r:List C3}(hr:r.length<=1000000)(hz:r≠[]->z=3)(s:ByteArray)(c k:Int):bT [.sl b z (r.map aa) none,.agg [.x (.string s),.i c,.i k]]=some (.bool (je (s,c,k) r)):=by have e:(r.any fun p=>eE p (s,c,k))=je (s,c,k) r:=ED (s,c,k) r;rw[mN s c k hr (Classical.or_iff_not_imp_right.2 hz),e]
theorem rv{v:Int}(hv:0<=v∧v.toNat<(bi l).1.length){K:List Int}(hK:∀y∈K,0<=y∧y.toNat<(bi l).1.length):je (di (bi l).1 v) (K.map (di (bi l).1))=true↔v∈K:=by
 rw[iD,ads];constructor
 . rintro⟨y,hy,e⟩
   rwa [<-C4 (hK y hy) hv e]
 . intro h;exact⟨v,h,rfl⟩
theorem Qt(h: ¬b=true):b=false:=by cases b with
 |false=>rfl
 |true=>exact absurd rfl h
open Classical in
theorem ac8:cR (bV [(4,ff),(5,FE cd MW),(6,FE cd qM),(8,FE dM MV),(9,bT),(10,FE dM MU),(11,FE kq MT)] [] [] (fun _=>false) (fun _=>false)) 3 CKo:=by
 refine cO (E:=(bV [(4,ff),(5,FE cd MW),(6,FE cd qM),(8,FE dM MV),(9,bT),(10,FE dM MU),(11,FE kq MT)] [] [] (fun _=>false) (fun _=>false))) (F:={F:=yK H4,D:=fun _=>false}) (n:=114) (k:=1) (bF _ _ _ _ _ ⟨zU,HM,Qp,Ct,mO,Cr,Cq,trivial⟩ trivial trivial) A0a (gU (l:=H4) ⟨tE,trivial⟩) (fun t s C e=>by cases e) func3 rfl (fun a w=>call3 a w) ntmps3 A0c A0c A0a ?_;rintro us H T ⟨nl,sz,l,rfl,hok,hT⟩ hdat;refine⟨rfl,?_⟩;have hok0:=hok;obtain⟨hsz,hlen⟩:=hok;simp only at hsz hlen;have e1:ff []=some (.bool true):=rfl;have hfw:FE cd MW [.sl nl sz (l.map cj) none]=some (.bool (decide ((∀e∈l,lB e)∧(l.length:Int)<=24))):=(ca jd MW (nl,sz,l)).trans (adl hok0);simp only[cd];by_cases hfine:(∀e∈l,lB e)∧(l.length:Int)<=24
 case neg=>rw[Io hfine] at hfw;simp +decide only[go_sem,H4,eq,e1,hfw];exact hT
 rw[ac0 hfine] at hfw;obtain⟨hf1,hf2⟩:=hfine;have hl4:l.length<=400:=A0b
 have hcnt:∀e∈l,lw e.2.2.1<=400:=fun e he=>OS (by have:=(hf1 e he).1;omega)
 have hs8:∀e∈l,e.1.1.size<=281474976710656:=fun e he=>by have:=(hf1 e he).2.2;omega
 have hP:=CS hl4 hcnt;have hes:Lq (nl,sz,l):=⟨hsz,hl4,hcnt⟩;have hD:=PF hes;have hLl:(aS l).length<=24:=by have:=qK l;omega
 have hCl:(bi l).1.length<=24:=by rw[jq];unfold ay;rw[eq];exact hLl
 have n2:FE cd qM [.sl nl sz (l.map cj) none]=some (zZ (mb l)):=(ca jd qM (nl,sz,l)).trans (adl hes);have c2:FE kq MT [zZ (mb l)]=some (vu (ay (aS l))):=(ca GY MT (mb l)).trans (adl hD);rw[<-jq] at c2;have hq1:∀c:C3,FE dM MV [zZ (mb l),aa c]=some (yX (mb l) c):=fun c=>(ca nY MV (mb l,c)).trans (adl hD)
 have hq3:∀c:C3,FE dM MU [zZ (mb l),aa c]=some (vu (fV (aS l) c)):=fun c=>(ca nY MU (mb l,c)).trans (adl hD)
 obtain⟨D,hDD⟩:∃D,zZ (mb l)= .ip D:=⟨_,rfl⟩;rw[hDD] at n2;simp only[hDD] at hq1 hq3 c2;simp +decide only[go_sem,H4,eq,e1,hfw,n2];refine⟨nl,sz,l,rfl,⟨hes,hs8⟩,hP,n9 _,fun hs S ts hW hH hO hA=>?_⟩;have hR:=hW.1;have htl:ts.length<=24:=by
  have h1:=hO.nodup;have h2:ts.length<=((List.range (bi l).1.length).map fun i:Nat=>(i:Int)).length:=eu h1.1 (fun g hg=>by have:=(hH.mem.1 (h1.2 g hg)).1;exact ads.2 ⟨g.toNat,adU.2 this.2,aec this.1⟩)
  rw[eq,afi] at h2;omega
 have hgs:∀{i:Nat} {g:Int},ts[i]?=some g->g∈hs:=fun h=>(hO _ _ h).1
 have hmm:∀{g:Int},∀y∈bL hs (bi l).1.length g,0<=y∧y.toNat<(bi l).1.length:=fun y hy=>(cW.1 hy).1
 have htt:∀{k:List Int},∀y∈jJ hs (bi l).1.length k,0<=y∧y.toNat<(bi l).1.length:=fun y hy=>(kz.1 hy).1
 have htn:∀i,(jJ hs (bi l).1.length (ts.take i)).length<=24:=fun i=>by
  have h1:(jJ hs (bi l).1.length (ts.take i)).Nodup:=mj (List.Nodup.sublist (List.take_sublist i ts) hO.nodup.1);have h2:(jJ hs (bi l).1.length (ts.take i)).length<=((List.range (bi l).1.length).map fun i:Nat=>(i:Int)).length:=eu h1 (fun g hg=>by have:=htt g hg;exact ads.2 ⟨g.toNat,adU.2 this.2,aec this.1⟩)
  rw[eq,afi] at h2;omega
 simp +decide only[go_sem,H4,eq];refine nR 6 3 99 A0O ?_;refine bz (X:={q:Nat×Nat//q.1<=ts.length}) (fun q=>[(4,.ip D),(5,.sl ts.isEmpty 2 (ts.map fun g=>vx (bi l).1 (bi l).2.1 (bL hs (bi l).1.length g)) none),(6,.sl ((jJ hs (bi l).1.length (ts.take q.1.1)).map (di (bi l).1)).isEmpty 3 (((jJ hs (bi l).1.length (ts.take q.1.1)).map (di (bi l).1)).map aa) (some q.1.2)),(7,aw (q.1.1:Int))]) (fun _=>[]) (fun _ H'=>H'=H) (fun q=>ts.length-q.1.1) ⟨(0,99),adN _⟩ A0f A0f rfl ?_;rintro⟨⟨i,tok⟩,hi⟩ H1 rfl;simp only at hi⊢;by_cases hil:i<ts.length
 case neg=>
  obtain rfl:i=ts.length:=A0b
  have f1:decide ((ts.length:Int)<ts.length)=false:=Io A0b;have hall:=MP hH hO hA;simp only[vu] at c2;rw[aei];simp +decide only[go_sem,H4,eq,f1,c2,hall];exact hT
 have d1:decide ((i:Int)<ts.length)=true:=ac0 A0b;have d2:(0:Int)<=(i:Int):=A0b
 have d3:(i:Int)<ts.length:=A0b
 have d4:=ax (i:=i) A0b;have q1:ts[i]?=some ts[i]:=io hil;have hti:=aF q1;generalize ts[i]=g at q1 hti;have hg:=hgs q1;obtain⟨K,hK⟩:∃K,K=bL hs (bi l).1.length g:=⟨_,rfl⟩;obtain⟨rb,hrb⟩:∃rb:Bool,rb=(decide (1<((bL hs (bi l).1.length g).length:Int))||decide ((bL hs (bi l).1.length g).headD 0∈rowZ (bi l).2.1 ((bL hs (bi l).1.length g).headD 0))):=⟨_,rfl⟩;have arr:(ts.map fun g=>vx (bi l).1 (bi l).2.1 (bL hs (bi l).1.length g))[i]?=some (.agg [.sl false 3 ((K.map (di (bi l).1)).map aa) none,.bool rb]):=by rw[ac9,q1,hK,hrb];rfl
 have hKl:K.length<=24:=by rw[hK];exact adJ (zQ _ _ _) hCl
 have hKn:K≠[]:=fun e=>by have:=zY hH hg;rw[<-hK,e] at this;cases this
 have z1:decide ((K.length:Int)=0)=false:=Io (fun e=>hKn (aem.1 A0b));have hTn:=htn i;obtain⟨T0,hT0⟩:∃T0,T0=jJ hs (bi l).1.length (ts.take i):=⟨_,rfl⟩;rw[<-hT0] at hTn⊢;have hmK:∀{y:Int},y∈K↔y∈bL hs (bi l).1.length g:=fun {y}=>by rw[hK]
 simp +decide only[go_sem,H4,eq,tl,d1,d2,d3,arr,z1];refine bz (X:={k:Nat//k<=K.length}) (fun k=>[(4,.ip D),(5,.sl ts.isEmpty 2 (ts.map fun g=>vx (bi l).1 (bi l).2.1 (bL hs (bi l).1.length g)) none),(6,.sl (T0.map (di (bi l).1)).isEmpty 3 ((T0.map (di (bi l).1)).map aa) (some tok)),(7,aw (i:Int)),(8,aw (k.1:Int))]) (fun _=>[]) (fun _ H'=>H'=H1) (fun k=>K.length-k.1) ⟨0,adN _⟩ A0f A0f rfl ?_;rintro⟨k,hk⟩ H2 rfl;simp only at hk⊢;by_cases hkl:k<K.length
 case neg=>
  obtain rfl:k=K.length:=A0b
  have f1:decide ((K.length:Int)<K.length)=false:=Io A0b;have iso:(T0++K).isEmpty=false:=by cases T0<;>cases K<;>first|rfl|exact absurd rfl hKn
  have hT1:jJ hs (bi l).1.length (ts.take (i+1))=T0++K:=by rw[hti,HT,hT0,hK]
  have g1:∀st d tok,bt (bV [(4,ff),(5,FE cd MW),(6,FE cd qM),(8,FE dM MV),(9,bT),(10,FE dM MU),(11,FE kq MT)] [] [] (fun _=>false) (fun _=>false)) st (some d) 33 (.sl (T0.map (di (bi l).1)).isEmpty 3 ((T0.map (di (bi l).1)).map aa) (some tok)) (.sl false 3 ((K.map (di (bi l).1)).map aa) none)=some ⟨upd (strip tok (strip d st.t)) d (.sl false 3 (((T0++K).map (di (bi l).1)).map aa) (some d)),aG (bV [(4,ff),(5,FE cd MW),(6,FE cd qM),(8,FE dM MV),(9,bT),(10,FE dM MU),(11,FE kq MT)] [] [] (fun _=>false) (fun _=>false)) tok (aG (bV [(4,ff),(5,FE cd MW),(6,FE cd qM),(8,FE dM MV),(9,bT),(10,FE dM MU),(11,FE kq MT)] [] [] (fun _=>false) (fun _=>false)) d st.b)⟩:=fun st d tok=>by have:=F0 (E:=(bV [(4,ff),(5,FE cd MW),(6,FE cd qM),(8,FE dM MV),(9,bT),(10,FE dM MU),(11,FE kq MT)] [] [] (fun _=>false) (fun _=>false))) (el:=33) (n:=3) mH mI mJ A0c rfl (es:=(T0.map (di (bi l).1)).map aa) (es':=(K.map (di (bi l).1)).map aa) (adr.2 fun u hu=>by obtain⟨c,_,rfl⟩:=ads.1 hu;rfl) (by simp only[eq];omega) (by simp only[eq];omega) st d tok false none;simp only[<-adK,agA,iso] at this;simp only[agA];exact this
  simp +decide only[go_sem,H4,eq,tl,d1,d2,d3,d4,arr,f1,g1];refine⟨⟨(i+1,107),hil⟩,⟨?_,?_,rfl⟩,by simp only;omega⟩
  . simp +decide only[go_sem,agA,iso,hT1]
  . exact WA
 have f1:decide ((k:Int)<K.length)=true:=ac0 A0b;have f2:(0:Int)<=(k:Int):=A0b
 have f3:(k:Int)<K.length:=A0b
 have f4:=ax (i:=k) A0b;have k1:K[k]?=some K[k]:=io hkl;generalize K[k]=v at k1;have hvK:v∈bL hs (bi l).1.length g:=hmK.1 (adg k1);have hv:=hmm v hvK;have arc:((K.map (di (bi l).1)).map aa)[k]?=some (aa (di (bi l).1 v)):=by rw[ac9,ac9,k1];rfl
 have hrd:=kV hv;have r1:=hq1 (di (bi l).1 v);have r3:=hq3 (di (bi l).1 v);obtain⟨b4,z4,f5,g4⟩:=MG l (di (bi l).1 v);rw[f5,<-hrd.2] at r1;rw[<-hrd.2] at g4;obtain⟨RR,hRR⟩:∃RR,RR=rowS (bi l).2.1 v:=⟨_,rfl⟩;rw[<-hRR] at r1 g4;have hRl:RR.length<=24:=by have h1:=CT l (di (bi l).1 v);rw[<-hrd.2,eq,<-hRR] at h1;omega
 have hin1:je (di (bi l).1 v) (T0.map (di (bi l).1))=false:=Qt fun h=>MO hO q1 hvK (by rw[hT0] at h;exact(rv hv htt).1 h)
 have hin3:je (di (bi l).1 v) (fV (aS l) (di (bi l).1 v))=rb:=by have h1:=(C5 hv).trans (MN hR hH hg hvK).symm;rw[<-hrb] at h1;exact ae3.2 h1
 have hal:=HD l (di (bi l).1 v);have hj:∀w∈RR,je (di (bi l).1 w) (T0.map (di (bi l).1))=true∨je (di (bi l).1 w) (K.map (di (bi l).1))=true:=fun w hw=>by
  rw[hRR] at hw;have hwn:=hrd.1 w hw;rcases C6 hR hO q1 hvK hw with h|h
  . exact .inl (by rw[hT0];exact(rv hwn htt).2 h)
  . exact .inr (by rw[hK];exact(rv hwn hmm).2 h)
 obtain⟨⟨vs,vc,vr⟩,hcv⟩:∃c:C3,c=di (bi l).1 v:=⟨_,rfl⟩;rw[<-hcv] at arc r1 r3 hin1 hin3 hal;simp only[bw,vu] at arc r1 r3;have s1:=vm (b:=(T0.map (di (bi l).1)).isEmpty) (z:=3) (r:=T0.map (di (bi l).1)) A0w (fun _=>rfl) vs vc vr;rw[hin1] at s1;have s3:=vm (b:=((fV (aS l) (vs,vc,vr)).map aa).isEmpty) (z:=3) (r:=fV (aS l) (vs,vc,vr)) A0b (fun _=>rfl) vs vc vr;rw[hin3] at s3;have s5:(decide (rb=rb))=true:=ac0 rfl;simp +decide (maxDischargeDepth:=200) only[go_sem,H4,eq,tl,d1,d2,d3,f1,f2,f3,arr,arc,r1];refine bz (X:={j:Nat//j<=RR.length}) (fun j=>[(4,.ip D),(5,.sl ts.isEmpty 2 (ts.map fun g=>vx (bi l).1 (bi l).2.1 (bL hs (bi l).1.length g)) none),(6,.sl (T0.map (di (bi l).1)).isEmpty 3 ((T0.map (di (bi l).1)).map aa) (some tok)),(7,aw (i:Int)),(8,aw (k:Int)),(9,.ptr 9 0),(10,.sl b4 z4 ((RR.map (di (bi l).1)).map aa) none),(11,aw (j.1:Int))]) (fun _=>[(9,[.x (.string vs),.i vc,.i vr])]) (fun _ H'=>H'=H2) (fun j=>RR.length-j.1) ⟨0,adN _⟩ A0f A0f rfl ?_;rintro⟨j,hj0⟩ H3 rfl;simp only at hj0⊢;by_cases hjl:j<RR.length
 case neg=>
  obtain rfl:j=RR.length:=A0b
  have p1:decide ((RR.length:Int)<RR.length)=false:=Io A0b;simp +decide only[go_sem,H4,eq,tl,d1,d2,d3,d4,f4,arr,p1,s1,r3,s3,s5];refine⟨⟨k+1,hkl⟩,⟨?_,?_,rfl⟩,by simp only;omega⟩
  . exact WA
  . exact WA
 have p1:decide ((j:Int)<RR.length)=true:=ac0 A0b;have p2:(0:Int)<=(j:Int):=A0b
 have p3:(j:Int)<RR.length:=A0b
 have p4:=ax (i:=j) A0b;have j1:RR[j]?=some RR[j]:=io hjl;have hjw:=hj RR[j] (adR hjl);generalize RR[j]=w at j1 hjw;have arj:((RR.map (di (bi l).1)).map aa)[j]?=some (aa (di (bi l).1 w)):=by rw[ac9,ac9,j1];rfl
 obtain⟨⟨us,uc,ur⟩,hcu⟩:∃c:C3,c=di (bi l).1 w:=⟨_,rfl⟩;rw[<-hcu] at arj hjw;simp only[bw] at arj;have t1:=vm (b:=(T0.map (di (bi l).1)).isEmpty) (z:=3) (r:=T0.map (di (bi l).1)) A0w (fun _=>rfl) us uc ur;have t2:=vm (b:=false) (z:=3) (r:=K.map (di (bi l).1)) A0w (fun _=>rfl) us uc ur;obtain rfl:z4=3:=g4 (fun h=>by rw[agd.1 h] at hjl;cases hjl);cases ht:je (us,uc,ur) (T0.map (di (bi l).1)) with
 | true=>
   rw[ht] at t1;simp +decide only[go_sem,H4,eq,tl,d1,d2,d3,p1,p2,p3,p4,arr,arj,t1];refine⟨⟨j+1,hjl⟩,⟨?_,?_,rfl⟩,by simp only;omega⟩
   . exact WA
   . exact WA
 | false=>
   rw[ht] at t1 hjw;rw[hjw.resolve_left (fun h=>by cases h)] at t2;simp +decide only[go_sem,H4,eq,tl,d1,d2,d3,p1,p2,p3,p4,arr,arj,t1,t2];refine⟨⟨j+1,hjl⟩,⟨?_,?_,rfl⟩,by simp only;omega⟩
   . exact WA
   . exact WA
open Classical in
noncomputable def GKo(p:ES):Option V:=if Tz p then some (.bool true) else none
theorem TH:cg 3 (FE cd GKo):=by
 refine qG ac8 ?_;intro us r hF;obtain⟨⟨nl,sz,l⟩,rfl,hG⟩:=bh hF;unfold GKo at hG;split at hG
 case isFalse=>cases hG
 rename_i h;cases hG;exact⟨nl,sz,l,rfl,h,rfl⟩
