/- MKa -/
import Derived.Test.YtiepfeebmnfbdaaGreatMHx
import Derived.Test.YtiepfeebmnfbdaaGreatMK
import Derived.Sort.Lot0
namespace Go.Proofs.YtiepfeebmnfbdaaGreat
open Tryz
set_option linter.unusedSimpArgs false
set_option maxHeartbeats 64000000
set_option maxRecDepth 100000
open Go Go.RowKit
attribute [go_sem] results18 results19 results20 results21 results35 results37 results38 results51 results125 results126 results127 results129
theorem Wm{P:Prop}(h:P:=by exact⟨_,fun _ _=>rfl,⟨rfl,hq,by rw[cf _ _ _ _ _ _ A0c A0c];exact hg⟩,Le.refl _⟩):P:=h
theorem Wl{P:Prop}(h:P:=by exact⟨_,fun _ _=>rfl,hI.next A0c A0c,Le.refl _⟩):P:=h
theorem Wk{P:Prop}(h:P:=by cases ho;simp +decide only[go_sem,b0,b1,b2,z73,c1,p1,p2,i0,i1,j0,j1,adx,adi,tl];exact⟨_,fun _ _=>rfl,rfl,Le.refl _⟩):P:=h
theorem Wj{P:Prop}(h:P:=by simp +decide only[go_sem,Nat.reduceBEq]):P:=h
theorem Wi{P:Prop}(h:P:=by exact⟨_,fun _ _=>rfl,rfl,Le.refl _⟩):P:=h
theorem Wh{P:Prop}(h:P:=by simp +decide only[go_sem]):P:=h
abbrev iv(i:Int):Value:= .int .i64 i
def jf(C:List C3)(R S:List (List Int)):V:= .agg [.l 3 (C.map aa),.l 1 (R.map rI),.l 1 (S.map rI)]
def rowZ(S:List (List Int))(i:Int):List Int:=(S[i.toNat]?).getD []
def bU(n:Nat)(S:List (List Int)):Prop:=S.length=n∧n<=400∧∀r∈S,r.length<=100000000∧∀i∈r,0<=i∧i.toNat<n
inductive ReachU (S:List (List Int)) (L0:List Int) (st:Int):Int->Prop
 |refl:ReachU S L0 st st
 |step {x r:Int} (h:ReachU S L0 st x) (hr:r∈rowZ S x) (hn:L0[r.toNat]?=some (-1)):ReachU S L0 st r
structure HangI (S:List (List Int)) (L0:List Int) (st:Int) (f L:List Int):Prop where
 len:L.length=L0.length
 nd:f.Nodup
 mem:∀x∈f,(0<=x∧x.toNat<L0.length)∧L0[x.toNat]?=some (-1)∧ReachU S L0 st x
 val:∀j:Nat,L[j]?=if (j:Int)∈f then some st else L0[j]?
 start:st∈f
def CB(S:List (List Int))(L x:List Int):Prop:=∀y∈x,∀r∈rowZ S y,L[r.toNat]?≠some (-1)
def QX(us:U)(H:HH)(T:V->HH->Prop):Prop:=∃C R S st g L0 ty,us=[jf C R S,aw st,.x (.s g L0.length L0.length)]∧bU L0.length S∧H g=some (rowO (L0.map iv) ty)∧0<=st∧L0[st.toNat]?=some (-1)∧
 ∀f L H',HangI S L0 st f L->CB S L f->(∀y,y≠g->H' y=H y)->H' g=some (rowO (L.map iv) ty)->T (.l 1 (f.map aw)) H'
variable{S:List (List Int)}{L0:List Int}{st:Int}
theorem HangI.first(h0:0<=st)(hs:L0[st.toNat]?=some (-1)):HangI S L0 st [st] (L0.set st.toNat st):=by
 have hl:=(iO.1 hs).1;refine⟨adV,(aeY _ _),fun x hx=>?_,fun j=>?_,adj.2 rfl⟩
 . rw[adj] at hx;subst hx;exact⟨⟨h0,hl⟩,hs,.refl⟩
 . rw[adX];by_cases e:st.toNat=j
   . subst e;rw[adl rfl,adl hl,adl (by rw[adj];omega)]
   . rw[adq e,adq (by rw[adj];omega)]
variable{f L:List Int}
theorem HangI.neg(h:HangI S L0 st f L)(h0:0<=st){r:Int}(hr:0<=r)(hn:L[r.toNat]?=some (-1)):r∉f∧L0[r.toNat]?=some (-1):=by
 have:=h.val r.toNat;rw[hn] at this;split at this
 . cases this;omega
 . rename_i e;exact⟨fun hm=>e (by rwa [aec hr]),this.symm⟩
theorem HangI.push(h:HangI S L0 st f L)(h0:0<=st){x r:Int}(hx:x∈f)(hr:r∈rowZ S x)(hr0:0<=r)(hn:L[r.toNat]?=some (-1)):HangI S L0 st (f++[r]) (L.set r.toNat st):=by
 obtain⟨h1,h2⟩:=h.neg h0 hr0 hn;have hl:=(iO.1 hn).1;refine⟨by rw[adV];exact h.len,aeH.2 ⟨h.nd,(aeY _ _),fun a ha b hb=>?_⟩,fun y hy=>?_,fun j=>?_,ad2 _ h.start⟩
 . rw[adj] at hb;subst hb;exact fun e=>h1 (e▸ha)
 . rcases adv.1 hy with hy|hy
   . exact h.mem y hy
   . rw[adj] at hy;subst hy;exact⟨⟨hr0,by have:=h.len;omega⟩,h2,.step (h.mem x hx).2.2 hr h2⟩
 . rw[adX];by_cases e:r.toNat=j
   . subst e;rw[adl rfl,adl hl,adl (aeG _ (by rw[adj];omega))]
   . rw[adq e,h.val j];have hiff:(j:Int)∈f↔(j:Int)∈f++[r]:=by rw[adv,adj];exact⟨.inl,fun h=>h.resolve_right A0b ⟩
     simp only[hiff]
theorem LD{x:List Int}(h:CB S L x)(h0:0<=st)(i:Nat):CB S (L.set i st) x:=fun y hy r hr e=>by
 rw[adX] at e;split at e
 . split at e
   . cases e;omega
   . cases e
 . exact h y hy r hr e
variable{n:Nat}
theorem LF{E:Env}{el by':Nat}{z:U}(h1:bo E.P el=some n)(hby:bY E.P el=some by')(hz:aB E.P el=some z)(h4:n≠0)(h5:z.length=n){es:U}{v:V}(hc:v.cells.all V.cell=true)(hb:(es.length+1)*by'<=140737488355328)(hl:es.length+1<=9223372036854775807)(hne:es≠[])(st:St)(d tok:Nat)(nl:Bool)(t':Option Nat):
 bt E st (some d) el (.sl false n es (some tok)) (.sl nl n [v] t')=some ⟨upd (strip tok (strip d st.t)) d (.sl false n (es++[v]) (some d)),aG E tok (aG E d st.b)⟩:=by
 have:=db h1 hby hz h4 h5 hc hb hl st d tok nl t'
 rwa [show es.isEmpty=false by cases es<;>simp_all] at this
theorem LG:cR (bV [] [] [] (fun d=>d==16) (fun _=>false)) 35 QX:=by
 refine cO (F:={F:=fun _=>none,D:=fun _=>false}) (n:=51) (k:=3) (bF [] [] [] _ _ trivial trivial trivial) A0a (fun f C e=>by cases e) (fun t s C e=>by cases e) func35 rfl (fun a w=>call35 a w) ntmps35 A0c A0c A0a ?_;rintro us H T ⟨C,R,S,st,g,L0,ty,rfl,⟨hSl,hn4,hS⟩,hH,h0,hs,hT⟩ hdat;refine⟨rfl,?_⟩;have hl0:=(iO.1 hs).1;have c0:=bf hH;have hx:∀{L:List Int} {i:Int},0<=i->(((L.map iv).map V.x)[i.toNat]?=(L[i.toNat]?).map aw):=fun {L i} _=>by rw[aes,ac9];rfl
 simp only[jf];have z52:rO prog 54=some 1:=A0a
 have hl1:st<(L0.length:Int):=A0b
 have hl2:st.toNat+1<=L0.length:=A0b
 have hsp0:fU (L0.map iv) st.toNat [.int .i64 st]=(L0.set st.toNat st).map iv:=by rw[dh _ _ _ A0w,afH]
 simp +decide (maxDischargeDepth:=200) only[go_sem,Nat.reduceBEq,z52,adx,adi,eq,c0,h0,hl1,hl2,hsp0];refine bz (X:={q:Nat×List Int×List Int×Nat//HangI S L0 st q.2.1 q.2.2.1∧q.1<=q.2.1.length∧CB S q.2.2.1 (q.2.1.take q.1)}) (fun q=>[(1,aw st),(2,.x (.s g L0.length L0.length)),(3,.ptr 3 0),(7,.sl false 1 (q.1.2.1.map aw) (some q.1.2.2.2)),(8,aw (q.1.1:Int))]) (fun _=>[(3,[.l 3 (C.map aa),.l 1 (R.map rI),.l 1 (S.map rI)])]) (fun q H'=>(∀y,y≠g->H' y=H y)∧H' g=some (rowO (q.1.2.2.1.map iv) ty)) (fun q=>L0.length-q.1.1) ⟨(0,[st],L0.set st.toNat st,16),.first h0 hs,adN _,fun y hy=>by simp at hy⟩ A0f A0f ⟨fun y hy=>ah _ _ hy,aj _ _ _⟩ ?_;rintro⟨⟨i,f,L,tok⟩,hI,hi,hc⟩ H1 ⟨hH1,hH2⟩;simp only at hI hi hc hH1 hH2⊢;have hfl:f.length<=L0.length:=dA hI.nd (fun x hx=>(hI.mem x hx).1);by_cases hil:i<f.length
 case neg=>have d1:decide ((i:Int)<f.length)=false:=Io A0b;rw[ady A0b] at hc;simp +decide only[go_sem,Nat.reduceBEq,eq,d1];exact hT f L H1 hI hc hH1 hH2
 have d1:decide ((i:Int)<f.length)=true:=ac0 A0b;have d2:(0:Int)<=(i:Int):=A0b
 have d3:(i:Int)<f.length:=A0b
 have d4:=ax (i:=i) A0b;have q1:f[i]?=some f[i]:=io hil;have q2:(f.map aw)[(i:Int).toNat]?=some (aw f[i]):=by rw[tl,ac9,q1];rfl
 have hxm:f[i]∈f:=adR hil;generalize f[i]=x at q1 q2 hxm;obtain⟨⟨x0,xl⟩,_,_⟩:=hI.mem x hxm;have b2:x<(S.length:Int):=A0b
 obtain⟨rs,hrs⟩:∃rs,S[x.toNat]?=some rs:=⟨_,io A0b ⟩;have hrz:rowZ S x=rs:=by unfold rowZ;rw[hrs];rfl
 obtain⟨hr8,hrr⟩:=hS rs (adg hrs)
 obtain⟨b,z,hbz,hz1⟩:∃b z,rI rs= .sl b z (rs.map aw) none∧(rs≠[]->z=1):=⟨_,_,rfl,fun h=>by unfold Yp;cases rs with
  |nil=>exact absurd rfl h
  |cons _ _=>rfl⟩
 have a2:(S.map rI)[x.toNat]?=some (.sl b z (rs.map aw) none):=by rw[ac9,hrs,<-hbz];rfl
 simp +decide only[go_sem,Nat.reduceBEq,eq,d1,d2,d3,q2,x0,b2,a2];refine bz (X:={q:Nat×List Int×List Int×Nat//HangI S L0 st q.2.1 q.2.2.1∧q.1<=rs.length∧(∃e,q.2.1=f++e)∧CB S q.2.2.1 (f.take i)∧∀r∈rs.take q.1,q.2.2.1[r.toNat]?≠some (-1)}) (fun q=>[(1,aw st),(2,.x (.s g L0.length L0.length)),(3,.ptr 3 0),(7,.sl false 1 (q.1.2.1.map aw) (some q.1.2.2.2)),(8,aw (i:Int)),(30,.sl b z (rs.map aw) none),(31,aw (rs.length:Int)),(32,aw (q.1.1:Int))]) (fun _=>[(3,[.l 3 (C.map aa),.l 1 (R.map rI),.l 1 (S.map rI)])]) (fun q H'=>(∀y,y≠g->H' y=H y)∧H' g=some (rowO (q.1.2.2.1.map iv) ty)) (fun q=>rs.length-q.1.1) ⟨(0,f,L,tok),hI,adN _,⟨[],(aep _).symm⟩,hc,fun r hr=>by simp at hr⟩ A0f A0f ⟨hH1,hH2⟩ ?_;rintro⟨⟨k,f1,L1,tk⟩,hI,hk,⟨e,he⟩,hc,hdone⟩ H1 ⟨hH1,hH2⟩;simp only at hI hk he hc hdone hH1 hH2⊢;have hfl:f1.length<=L0.length:=dA hI.nd (fun x hx=>(hI.mem x hx).1);by_cases hkl:k<rs.length
 case neg=>
  have e1:decide ((k:Int)<rs.length)=false:=Io A0b;rw[ady A0b] at hdone;simp +decide only[go_sem,Nat.reduceBEq,eq,e1,d4];have hi1:i+1<=f1.length:=by rw[he,adh];omega
  refine⟨⟨(i+1,f1,L1,tk),hI,hi1,fun y hy=>?_⟩,⟨?_,?_,hH1,hH2⟩,by simp only;omega⟩
  . simp only[he] at hy⊢;rw[ael A0b,aF q1,adv,adj] at hy;rcases hy with hy|rfl
    . exact hc y hy
    . rw[hrz];exact hdone
  . exact Wj
  . exact Wj
 obtain rfl:=hz1 (fun h=>by rw[h] at hkl;cases hkl);have e1:decide ((k:Int)<rs.length)=true:=ac0 A0b;have e2:(0:Int)<=(k:Int):=A0b
 have e3:(k:Int)<rs.length:=A0b
 have e4:=ax (i:=k) A0b;have p1:rs[k]?=some rs[k]:=io hkl;have p2:(rs.map aw)[(k:Int).toNat]?=some (aw rs[k]):=by rw[tl,ac9,p1];rfl
 have hrm:rs[k]∈rs:=adR hkl;generalize rs[k]=r at p1 p2 hrm;obtain⟨r0,rl⟩:=hrr r hrm;have r2:r<(L0.length:Int):=A0b
 have r3:r.toNat+1<=L1.length:=by have:=hI.len;omega
 have c1:=bf hH2;obtain⟨y,hy⟩:∃y,L1[r.toNat]?=some y:=⟨_,io A0b ⟩;have p4:((L1.map iv).map V.x)[r.toNat]?=some (aw y):=by rw[aes,ac9,hy];rfl
 have hxf:x∈f1:=by rw[he];exact ad2 _ hxm
 by_cases hyn:y= -1
 case neg=>
  have e5:decide (y= -1)=false:=Io hyn;simp +decide only[go_sem,Nat.reduceBEq,z52,adx,adi,eq,c1,e1,e2,e3,e4,p2,p4,r0,r2,e5];refine⟨⟨(k+1,f1,L1,tk),hI,hkl,⟨e,he⟩,hc,fun r' hr'=>?_⟩,⟨?_,?_,hH1,hH2⟩,by simp only;omega⟩
  . simp only at hr'⊢;rw[aF p1,adv,adj] at hr';rcases hr' with hr'|rfl
    . exact hdone r' hr'
    . rw[hy];exact fun h=>hyn (by cases h;rfl)
  . exact Wj
  . exact Wj
 subst hyn;have hI2:=hI.push h0 hxf (hrz▸hrm) r0 hy;have hfl2:(f1++[r]).length<=L0.length:=dA hI2.nd (fun x hx=>(hI2.mem x hx).1);rw[adh,aej] at hfl2;have g1:=LF (E:=(bV [] [] [] (fun d=>d==16) (fun _=>false))) (el:=3) (n:=1) Rj TK TL A0c rfl (es:=f1.map aw) (v:=aw r) rfl A0w A0w (by rw[he];intro h;have:=agd.1 h;simp at this;rw[this.1] at hxm;cases hxm);have hsp:fU (L1.map iv) r.toNat [.int .i64 st]=(L1.set r.toNat st).map iv:=by rw[dh _ _ _ A0w,afH]
 simp +decide only[go_sem,Nat.reduceBEq,z52,adx,adi,eq,c1,e1,e2,e3,e4,p2,p4,r0,r2,r3,g1,hsp];refine⟨⟨(k+1,f1++[r],L1.set r.toNat st,48),hI2,hkl,⟨e++[r],by rw[he,aef]⟩,LD hc h0 _,fun r' hr'=>?_⟩,⟨?_,?_,fun y hy=>(ah _ _ hy).trans (hH1 y hy),aj _ _ _⟩,by simp only;omega⟩
 . simp only at hr'⊢;rw[aF p1,adv,adj] at hr';rw[adX];intro h;split at h
   . split at h
     . cases h;omega
     . cases h
   . rename_i hne;rcases hr' with hr'|rfl
     . exact hdone r' hr' h
     . exact hne rfl
 . simp +decide only[go_sem,Nat.reduceBEq,adK]
 . exact Wj
theorem th(rs:List Int):∃b z,rI rs= .sl b z (rs.map aw) none∧(rs≠[]->z=1):=⟨_,_,rfl,fun h=>by
 unfold Yp;cases rs with
 |nil=>exact absurd rfl h
 |cons _ _=>rfl⟩
theorem gp{α:Type}(f:Nat->α)(i:Nat)(a b:α):upd (upd f i a) i b=upd f i b:=by funext k;rw[aJ,aJ,aJ];split<;>rfl
def atI(l:List Int)(i:Int):Int:=(l[i.toNat]?).getD 0
variable{l:List Int}
theorem fw{i x:Int}(h:l[i.toNat]?=some x):atI l i=x:=by unfold atI;rw[h];rfl
theorem fW{i:Nat}{x:Int}(h:l[i]?=some x):atI l (i:Int)=x:=fw (by rwa [tl])
def w1(h:List Int)(a:Int)(W:List Int)(r:Int):List Int:=if atI h r=a then W else W.set a.toNat (atI W a+1)
def PT(R:List (List Int))(h W:List Int)(i:Nat):List Int:=(rowZ R (i:Int)).foldl (w1 h (atI h (i:Int))) W
def bq(R:List (List Int))(h:List Int)(n:Nat):List Int:=(List.range n).foldl (PT R h) (List.replicate h.length 0)
theorem oH(R:List (List Int))(h:List Int)(i:Nat):bq R h (i+1)=PT R h (bq R h i) i:=by unfold bq;rw[afs,aeT];rfl
def LH(us:U)(H:HH)(T:V->HH->Prop):Prop:=∃C R S hs,us=[jf C R S,.l 1 (hs.map aw)]∧bU hs.length R∧(∀x∈hs,0<=x∧x.toNat<hs.length)∧
 ∀g ty,H g=none->T (.x (.s g hs.length hs.length)) (upd H g (some (rowO ((bq R hs hs.length).map iv) ty)))
def okWt(n:Nat)(m:Int)(W:List Int):Prop:=W.length=n∧∀x∈W,0<=x∧x<=m
variable{m:Int}{W:List Int}
theorem okWt.mono{m':Int}(h:okWt n m W)(hm:m<=m'):okWt n m' W:=⟨h.1,fun x hx=>⟨(h.2 x hx).1,by have:=(h.2 x hx).2;omega⟩⟩
theorem okWt.set(h:okWt n m W)(i:Nat){x:Int}(hx:0<=x∧x<=m):okWt n m (W.set i x):=⟨by rw[adV];exact h.1,fun y hy=>by
 rcases afJ hy with hy|rfl
 . exact h.2 y hy
 . exact hx⟩
theorem Hc:cR (bV [] [] [] (fun _=>false) (fun _=>false)) 18 LH:=by
 refine cO (F:={F:=fun _=>none,D:=fun d=>d==12}) (n:=45) (k:=2) (bF [] [] [] _ _ trivial trivial trivial) A0a (fun f C e=>by cases e) (fun t s C e=>by cases e) func18 rfl (fun a w=>call18 a w) ntmps18 A0c A0c A0a ?_;rintro us H T ⟨C,R,S,hs,rfl,⟨hRl,hn4,hR⟩,hh,hT⟩ hdat;refine⟨rfl,?_⟩;simp only[jf];have m52:Pv prog 54=some (3,1,8,.int .i64 0):=A0a
 have z52:rO prog 54=some 1:=A0a
 have l1:((8:Nat):Int)*(hs.length:Int)<=281474976710656:=A0b
 have l2:(hs.length:Int)<=9223372036854775807:=A0b
 have l3:(0:Int)<=(hs.length:Int):=A0b
 simp +decide only[go_sem,Nat.reduceBEq,m52,z52,eq,l1,l2,l3,tl,adx];intro g hg;refine bz (X:={i:Nat//i<=hs.length∧okWt hs.length ((i:Int)*100000000) (bq R hs i)}) (fun i=>[(1,.l 1 (hs.map aw)),(2,.ptr 2 0),(5,.x (.s g hs.length hs.length)),(13,.l 1 (hs.map aw)),(14,aw (hs.length:Int)),(15,aw (i.1:Int))]) (fun _=>[(2,[.l 3 (C.map aa),.l 1 (R.map rI),.l 1 (S.map rI)])]) (fun i H'=>H'=upd H g (some (rowO ((bq R hs i.1).map iv) 3))) (fun i=>hs.length-i.1) ⟨0,adN _,by simp[bq],fun x hx=>by simp[bq] at hx;omega⟩ A0f A0f (by show upd H g _=_;simp[bq]) ?_;rintro⟨i,hi,hW⟩ H1 rfl;simp only at hi hW⊢;by_cases hil:i<hs.length
 case neg=>
  obtain rfl:i=hs.length:=A0b
  have d1:decide ((hs.length:Int)<hs.length)=false:=Io A0b;simp +decide only[go_sem,Nat.reduceBEq,eq,d1];exact hT g _ hg
 have d1:decide ((i:Int)<hs.length)=true:=ac0 A0b;have d2:(0:Int)<=(i:Int):=A0b
 have d3:(i:Int)<hs.length:=A0b
 have d4:=ax (i:=i) A0b;have q1:hs[i]?=some hs[i]:=io hil;have q2:(hs.map aw)[(i:Int).toNat]?=some (aw hs[i]):=by rw[tl,ac9,q1];rfl
 have qm:hs[i]∈hs:=adR hil;generalize hs[i]=a at q1 q2 qm;obtain⟨a0,al⟩:=hh a qm;have i2:(i:Int)<R.length:=A0b
 obtain⟨rs,hrsr⟩:∃rs,R[(i:Int).toNat]?=some rs:=⟨_,io A0b ⟩;obtain⟨br,zr,hbzr,hzr⟩:∃b z,rI rs= .sl b z (rs.map aw) none∧(rs≠[]->z=1):=th rs;have arr:(R.map rI)[(i:Int).toNat]?=some (.sl br zr (rs.map aw) none):=by rw[ac9,hrsr,<-hbzr];rfl
 obtain⟨hr8,hrr⟩:=hR rs (adg hrsr);have hrz:rowZ R (i:Int)=rs:=by unfold rowZ;rw[hrsr];rfl
 have hai:atI hs (i:Int)=a:=fW q1;simp +decide only[go_sem,Nat.reduceBEq,eq,d1,d2,d3,q2,i2,arr];refine bz (X:={k:Nat//k<=rs.length∧okWt hs.length ((i:Int)*100000000+(k:Int)) ((rs.take k).foldl (w1 hs a) (bq R hs i))}) (fun k=>[(1,.l 1 (hs.map aw)),(2,.ptr 2 0),(5,.x (.s g hs.length hs.length)),(7,aw a),(13,.l 1 (hs.map aw)),(14,aw (hs.length:Int)),(15,aw (i:Int)),(24,.sl br zr (rs.map aw) none),(25,aw (rs.length:Int)),(26,aw (k.1:Int))]) (fun _=>[(2,[.l 3 (C.map aa),.l 1 (R.map rI),.l 1 (S.map rI)])]) (fun k H'=>H'=upd H g (some (rowO (((rs.take k.1).foldl (w1 hs a) (bq R hs i)).map iv) 3))) (fun k=>rs.length-k.1) ⟨0,adN _,by simpa using hW⟩ A0f A0f A0k ?_;rintro⟨k,hk,hW1⟩ H1 rfl;simp only at hk hW1⊢;by_cases hkl:k<rs.length
 case neg=>
  have e1:decide ((k:Int)<rs.length)=false:=Io A0b;rw[ady A0b] at hW1⊢;have hs1:bq R hs (i+1)=rs.foldl (w1 hs a) (bq R hs i):=by rw[oH];unfold PT;rw[hrz,hai]
  simp +decide only[go_sem,Nat.reduceBEq,eq,e1,d4];refine⟨⟨i+1,hil,by rw[hs1];exact hW1.mono A0b ⟩,⟨?_,?_,by simp only[hs1]⟩,by simp only;omega⟩
  . exact Wj
  . exact Wj
 obtain rfl:=hzr (fun h=>by rw[h] at hkl;cases hkl);have e1:decide ((k:Int)<rs.length)=true:=ac0 A0b;have e2:(0:Int)<=(k:Int):=A0b
 have e3:(k:Int)<rs.length:=A0b
 have e4:=ax (i:=k) A0b;have p1:rs[k]?=some rs[k]:=io hkl;have p2:(rs.map aw)[(k:Int).toNat]?=some (aw rs[k]):=by rw[tl,ac9,p1];rfl
 have pm:rs[k]∈rs:=adR hkl;generalize rs[k]=r at p1 p2 pm;obtain⟨r0,rl⟩:=hrr r pm;have r2:r<(hs.length:Int):=A0b
 obtain⟨y,hy⟩:∃y,hs[r.toNat]?=some y:=⟨_,io rl⟩;have p4:(hs.map aw)[r.toNat]?=some (aw y):=by rw[ac9,hy];rfl
 have hst:(rs.take (k+1)).foldl (w1 hs a) (bq R hs i)=w1 hs a ((rs.take k).foldl (w1 hs a) (bq R hs i)) r:=by rw[aF p1,aeT];rfl
 generalize hWW:(rs.take k).foldl (w1 hs a) (bq R hs i)=W at hW1 hst⊢;by_cases hya:y=a
 . have hst':(rs.take (k+1)).foldl (w1 hs a) (bq R hs i)=W:=by rw[hst];exact adl ((fw hy).trans hya)
   have e5:decide (y=a)=true:=ac0 hya;simp +decide only[go_sem,Nat.reduceBEq,eq,e1,e2,e3,e4,p2,p4,r0,r2,e5,afc];refine⟨⟨k+1,hkl,by rw[hst'];exact hW1.mono A0b ⟩,⟨?_,?_,by simp only[hst']⟩,by simp only;omega⟩
   . exact Wj
   . exact Wj
 have e5:decide (y=a)=false:=Io hya;have hst':(rs.take (k+1)).foldl (w1 hs a) (bq R hs i)=W.set a.toNat (atI W a+1):=by rw[hst];exact adq (by rw[fw hy];exact hya)
 have aL:a.toNat<W.length:=by rw[hW1.1];exact al
 obtain⟨v,hv⟩:∃v,W[a.toNat]?=some v:=⟨_,io aL⟩;rw[fw hv] at hst';obtain⟨v0,v1⟩:=hW1.2 v (adg hv);have v2:az .i64 (v+1)=v+1:=ak A0j;have c1:=bf (H:=upd H g (some (rowO (W.map iv) 3))) (aj _ _ _);have p5:((W.map iv).map V.x)[a.toNat]?=some (aw v):=by rw[aes,ac9,hv];rfl
 have a2:a<(hs.length:Int):=A0b
 have a3:a.toNat+1<=W.length:=aL;have hsp:fU (W.map iv) a.toNat [.int .i64 (v+1)]=(W.set a.toNat (v+1)).map iv:=by rw[dh _ _ _ (by rw[eq];exact aL),afH]
 simp +decide only[go_sem,Nat.reduceBEq,z52,adx,adi,eq,e1,e2,e3,e4,p2,p4,p5,r0,r2,e5,c1,a0,a2,a3,v2,hsp,afV];refine⟨⟨k+1,hkl,by rw[hst'];exact(hW1.mono A0b).set _ A0b ⟩,⟨?_,?_,by simp only[hst',gp]⟩,by simp only;omega⟩
 . exact Wj
 . exact Wj
def Yt(us:U)(H:HH)(T:V->HH->Prop):Prop:=∃a l c,us=[.x (.slice a l c)]∧T (aw (l:Int)) H
variable{H:HH}{v:Value}{es:List Int}
theorem RowJ.cell{i:Nat}{x:Int}(h:RowJ H v es)(hi:es[i]?=some x):∃g cap l ty,v= .s g es.length cap∧H g=some (rowO l ty)∧es.length<=cap∧l.length=cap∧∀(j:Nat) (y:Int),es[j]?=some y->l[j]?=some (iv y):=by
 rcases h with⟨rfl,_⟩|⟨g,cap,cur,ty,rfl,hH,hc,hs,hl⟩
 . cases hi
 . exact⟨g,cap,cur.toList,ty,rfl,by rw[hH];simp[rowO],hc,by simpa using hs,fun j y hj=>by rw[adF];exact hl j y hj⟩
def Yu(us:U)(H:HH)(T:V->HH->Prop):Prop:=∃v es i j x y,us=[.x v,aw ((i:Nat):Int),aw ((j:Nat):Int)]∧RowJ H v es∧es[i]?=some x∧es[j]?=some y∧T (.bool (decide (x<y))) H
def dP(es:List Int)(i j:Nat)(x y:Int):List Int:=(es.set i y).set j x
def Yv(us:U)(H:HH)(T:V->HH->Prop):Prop:=∃v es i j x y,us=[.x v,aw ((i:Nat):Int),aw ((j:Nat):Int)]∧RowJ H v es∧es[i]?=some x∧es[j]?=some y∧∀g ob,blkOf v=some g->RowJ (upd H g (some ob)) v (dP es i j x y)->T (.tup []) (upd H g (some ob))
theorem zd:cR (bV [] [] [] (fun _=>false) (fun _=>false)) 20 Yt:=by
 refine cO (F:={F:=fun _=>none,D:=fun _=>false}) (n:=5) (k:=1) (bF [] [] [] _ _ trivial trivial trivial) A0a (fun f C e=>by cases e) (fun t s C e=>by cases e) func20 rfl (fun a w=>call20 a w) ntmps20 A0c A0c A0a ?_;rintro us H T ⟨a,l,c,rfl,hT⟩ hdat;refine⟨rfl,?_⟩;have z73:rO prog 59=some 1:=A0a
 simp +decide only[go_sem,z73];exact hT
abbrev Fv(g i):=(.pointer (some ⟨g,i,none⟩):Value)
abbrev Fw(g j):=(.pointer (some ⟨g,j,none⟩):Value)
def Yw(v:Value)(g i j:Nat)(x y:Int):Nat->V
 |7=> .x v|8=>aw (i:Int)|9=> .x (Fv g i)|10=>aw x|11=> .x v|12=>aw (j:Int)|13=> .x (Fw g j)|14=>aw y|_=> .bool (decide (x<y))
theorem He:cR (bV [] [] [] (fun _=>false) (fun _=>false)) 125 Yu:=by
 refine cO (F:={F:=fun _=>none,D:=fun _=>false,any:=fun i=>i==1}) (n:=16) (k:=3) (bF [] [] [] _ _ trivial trivial trivial) A0a (fun f C e=>by cases e) (fun t s C e=>by cases e) func125 rfl (fun a w=>call125 a w) ntmps125 A0c A0c A0a ?_;rintro us H T ⟨v,es,i,j,x,y,rfl,hr,hi,hj,hT⟩ hdat;refine⟨rfl,?_⟩;have z73:rO prog 59=some 1:=A0a
 obtain⟨g,cap,l,ty,rfl,hH,hc,hl,hcell⟩:=hr.cell hi;have c1:=bf hH;have il:=(iO.1 hi).1;have jl:=(iO.1 hj).1;have p1:(l.map V.x)[i]?=some (aw x):=by rw[ac9,hcell i x hi];rfl
 have p2:(l.map V.x)[j]?=some (aw y):=by rw[ac9,hcell j y hj];rfl
 have i0:(0:Int)<=(i:Int):=A0b
 have j0:(0:Int)<=(j:Int):=A0b
 have i1:(i:Int)<es.length:=A0b
 have j1:(j:Int)<es.length:=A0b
 simp +decide only[go_sem];refine nV (fun k=>match k with|2=>[7,8]|3=>[9]|6=>[11,12]|7=>[13]|8=>[10,14]|9=>[15]|_=>[]) (Yw (.s g es.length cap) g i j x y) [(6,.bool (decide (x<y)))] [] A0a A0a ?_ ?_
 . intro st k o ho hn hb hbb;have b0:st.t 0= .x (.s g es.length cap):=hb 0 A0a;have b1:st.t 1=aw (i:Int):=hb 1 A0a;have b2:st.t 2=aw (j:Int):=hb 2 A0a;rcases k with _|_|_|_|_|_|_|_|_|_|k
   . exact Wk
   . exact Wk
   . cases ho;have h7:st.t 7= .x (.s g es.length cap):=hn 7 A0c;have h8:st.t 8=aw (i:Int):=hn 8 A0c;simp +decide only[go_sem,b0,b1,b2,h7,h8,z73,c1,p1,p2,i0,i1,j0,j1,adx,adi,tl];exact Wi
   . cases ho;have h9:st.t 9= .x (Fv g i):=hn 9 A0c;simp +decide only[go_sem,b0,b1,b2,h9,z73,c1,p1,p2,i0,i1,j0,j1,adx,adi,tl];exact Wi
   . exact Wk
   . exact Wk
   . cases ho;have h11:st.t 11= .x (.s g es.length cap):=hn 11 A0c;have h12:st.t 12=aw (j:Int):=hn 12 A0c;simp +decide only[go_sem,b0,b1,b2,h11,h12,z73,c1,p1,p2,i0,i1,j0,j1,adx,adi,tl];exact Wi
   . cases ho;have h13:st.t 13= .x (Fw g j):=hn 13 A0c;simp +decide only[go_sem,b0,b1,b2,h13,z73,c1,p1,p2,i0,i1,j0,j1,adx,adi,tl];exact Wi
   . cases ho;have h10:st.t 10=aw x:=hn 10 A0c;have h14:st.t 14=aw y:=hn 14 A0c;simp +decide only[go_sem,b0,b1,b2,h10,h14,z73,c1,p1,p2,i0,i1,j0,j1,adx,adi,tl];exact Wi
   . cases ho;have h15:st.t 15= .bool (decide (x<y)):=hn 15 A0c;simp +decide only[go_sem,b0,b1,b2,h15,z73,c1,p1,p2,i0,i1,j0,j1,adx,adi,tl];exact Wi
   . cases ho
 . refine⟨⟨fM A0a,trivial⟩,trivial,?_⟩;simp +decide only[go_sem];exact hT
variable{k:Nat}
theorem dF{ops:List Oper}{L:Nat}{o:Oper}(hcl:ClosedM ops L)(ho:ops[n]?=some o)(hk:(directV o).contains k=true)(hb:L.testBit k=false):L.testBit n=false:=by
 cases h:L.testBit n with
 |false=>rfl
 |true=>have:=hcl n o ho h k A1h;rw[hb] at this;cases this
def Yx(v:Value)(g i j:Nat)(x y:Int):Nat->V
 |6=> .x v
 |7=>aw (i:Int)
 |8=> .x v
 |9=>aw (j:Int)
 |10=> .x v
 |11=>aw (j:Int)
 |12=> .x (Fw g j)
 |13=>aw y
 |14=> .x v
 |15=>aw (i:Int)
 |16=> .x (Fv g i)
 |17=>aw x
 |18=> .x (Fv g i)
 |19=> .x (Fw g j)
 |_=> .undef
def eS(l:List Value)(i j:Nat)(x y:Int)(L:Nat):List Value:=
 if L.testBit 15=true then (if L.testBit 13=true then l.set i (iv y) else l).set j (iv x) else if L.testBit 13=true then l.set i (iv y) else l
theorem cf(l:List Value)(i j:Nat)(x y:Int)(L:Nat){k:Nat}(h1:k≠13)(h2:k≠15):eS l i j x y (L|||2^k)=eS l i j x y L:=by unfold eS;rw[av L h1,av L h2]
theorem Hf(l:List Value)(i j:Nat)(x y:Int)(L:Nat):(eS l i j x y L).length=l.length:=by unfold eS;split<;>split<;>simp
theorem qQ(l:List Value)(i j:Nat)(x y:Int){L:Nat}(h1:L.testBit 13=false)(h2:L.testBit 15=false):eS l i j x y L=l:=by unfold eS;simp[h1,h2]
variable{y:Int}
theorem LI{l:List Value}{i j:Nat}{x:Int}(hi:l[i]?=some (iv x))(hj:l[j]?=some (iv y))(L:Nat):eS l i j x y (L|||2^13)=(eS l i j x y L).set i (iv y):=by
 have hil:=(iO.1 hi).1;unfold eS;rw[av L (show 13≠15 by decide),cy];simp only[adB];split
 . split
   . by_cases e:i=j
     . subst e;rw[hi] at hj;cases hj;simp
     . rw[List.set_comm _ _ (fun h=>e h.symm)];simp
   . by_cases e:i=j
     . subst e;rw[hi] at hj;cases hj;simp
     . exact List.set_comm _ _ (fun h=>e h)
 . split<;>simp
theorem LJ(l:List Value)(i j:Nat)(x y:Int)(L:Nat):eS l i j x y (L|||2^15)=(eS l i j x y L).set j (iv x):=by unfold eS;rw[av L (show 15≠13 by decide),cy];simp only[adB];split<;>split<;>simp
theorem Hg:cR (bV [] [] [] (fun _=>false) (fun _=>false)) 129 Yv:=by
 refine cO (F:={F:=fun _=>none,D:=fun _=>false,any:=fun i=>i==0}) (n:=20) (k:=3) (bF [] [] [] _ _ trivial trivial trivial) A0a (fun f C e=>by cases e) (fun t s C e=>by cases e) func129 rfl (fun a w=>call129 a w) ntmps129 A0c A0c A0a ?_;rintro us H T ⟨v,es,i,j,x,y,rfl,hr,hi,hj,hT⟩ hdat;refine⟨rfl,?_⟩;have z73:rO prog 59=some 1:=A0a
 obtain⟨g,cap,l,ty,rfl,hH,hc,hl,hcell⟩:=hr.cell hi;have il:=(iO.1 hi).1;have jl:=(iO.1 hj).1;have li:=hcell i x hi;have lj:=hcell j y hj;have i0:(0:Int)<=(i:Int):=A0b
 have j0:(0:Int)<=(j:Int):=A0b
 have i1:(i:Int)<es.length:=A0b
 have j1:(j:Int)<es.length:=A0b
 have i2:i+1<=l.length:=A0b
 have j2:j+1<=l.length:=A0b
 simp +decide only[go_sem];refine kP (fun k=>match k with|6=>[10,11]|7=>[12]|10=>[14,15]|11=>[16]|12=>[6,7]|13=>[18,13]|14=>[8,9]|15=>[19,17]|_=>[]) (fun L H' val=>val=Yx (.s g es.length cap) g i j x y∧(∀q,q≠g->H' q=H q)∧H' g=some (rowO (eS l i j x y L) ty)) _ A0a A0a ⟨rfl,fun _ _=>rfl,by rw[qQ _ _ _ _ _ A0k A0k];exact hH⟩ ?_ ?_
 . rintro L k o H' val st ho hb hdd hcl ⟨rfl,hq,hg⟩ hn hbase hbb;have b0:st.t 0= .x (.s g es.length cap):=hbase 0 A0a;have b1:st.t 1=aw (i:Int):=hbase 1 A0a;have b2:st.t 2=aw (j:Int):=hbase 2 A0a;have c1:=bf hg;have hlen:=Hf l i j x y L;rcases k with _|_|_|_|_|_|_|_|_|_|_|_|_|_|_|_|k
   . cases ho;simp +decide only[go_sem,b0,b1,b2,z73,adx,adi,tl];exact Wm
   . cases ho;simp +decide only[go_sem,b0,b1,b2,z73,adx,adi,tl];exact Wm
   . cases ho;simp +decide only[go_sem,b0,b1,b2,z73,adx,adi,tl];exact Wm
   . cases ho;simp +decide only[go_sem,b0,b1,b2,z73,adx,adi,tl];exact Wm
   . cases ho;simp +decide only[go_sem,b0,b1,b2,z73,adx,adi,tl];exact Wm
   . cases ho;simp +decide only[go_sem,b0,b1,b2,z73,adx,adi,tl];exact Wm
   . cases ho;have h10:st.t 10= .x (.s g es.length cap):=hn 10 A0c;have h11:st.t 11=aw (j:Int):=hn 11 A0c;simp +decide only[go_sem,b0,b1,b2,h10,h11,z73,adx,adi,tl,j0,j1];exact Wm
   . cases ho;have h12:st.t 12= .x (Fw g j):=hn 12 A0c;have p1:((eS l i j x y L).map V.x)[j]?=some (aw y):=by rw[qQ _ _ _ _ _ (dF (n:=13) hcl rfl A0a hb) (dF (n:=15) hcl rfl A0a hb),ac9,lj];rfl
     simp +decide only[go_sem,b0,b1,b2,h12,z73,adx,adi,tl,c1,p1];exact Wm
   . cases ho;simp +decide only[go_sem,b0,b1,b2,z73,adx,adi,tl];exact Wm
   . cases ho;simp +decide only[go_sem,b0,b1,b2,z73,adx,adi,tl];exact Wm
   . cases ho;have h14:st.t 14= .x (.s g es.length cap):=hn 14 A0c;have h15:st.t 15=aw (i:Int):=hn 15 A0c;simp +decide only[go_sem,b0,b1,b2,h14,h15,z73,adx,adi,tl,i0,i1];exact Wm
   . cases ho;have h16:st.t 16= .x (Fv g i):=hn 16 A0c;have p1:((eS l i j x y L).map V.x)[i]?=some (aw x):=by rw[qQ _ _ _ _ _ (dF (n:=13) hcl rfl A0a hb) (dF (n:=15) hcl rfl A0a hb),ac9,li];rfl
     simp +decide only[go_sem,b0,b1,b2,h16,z73,adx,adi,tl,c1,p1];exact Wm
   . cases ho;have h6:st.t 6= .x (.s g es.length cap):=hn 6 A0c;have h7:st.t 7=aw (i:Int):=hn 7 A0c;simp +decide only[go_sem,b0,b1,b2,h6,h7,z73,adx,adi,tl,i0,i1];exact Wm
   . cases ho;have h18:st.t 18= .x (Fv g i):=hn 18 A0c;have h13:st.t 13=aw y:=hn 13 A0c;have p1:i+1<=(eS l i j x y L).length:=A0b
     simp +decide only[go_sem,b0,b1,b2,h18,h13,z73,adx,adi,tl,c1,p1];exact⟨_,fun _=>rfl,⟨rfl,fun q h=>(ah _ _ h).trans (hq q h),by rw[LI li lj,dh _ _ _ A0b]⟩,Le.refl _⟩
   . cases ho;have h8:st.t 8= .x (.s g es.length cap):=hn 8 A0c;have h9:st.t 9=aw (j:Int):=hn 9 A0c;simp +decide only[go_sem,b0,b1,b2,h8,h9,z73,adx,adi,tl,j0,j1];exact Wm
   . cases ho;have h19:st.t 19= .x (Fw g j):=hn 19 A0c;have h17:st.t 17=aw x:=hn 17 A0c;have p1:j+1<=(eS l i j x y L).length:=A0b
     simp +decide only[go_sem,b0,b1,b2,h19,h17,z73,adx,adi,tl,c1,p1];exact⟨_,fun _=>rfl,⟨rfl,fun q h=>(ah _ _ h).trans (hq q h),by rw[LJ,dh _ _ _ A0b]⟩,Le.refl _⟩
   . cases ho
 . rintro H' val ⟨rfl,hq,hg⟩;refine⟨[],[],trivial,trivial,?_⟩;simp +decide only[go_sem];have e:H'=upd H g (H' g):=by
    funext q;rw[aJ];split
    . rename_i h;rw[h]
    . rename_i h;exact hq q h
   have hfull:H' g=some (rowO ((l.set i (iv y)).set j (iv x)) ty):=hg.trans (by show some (rowO (eS l i j x y 65535) ty)=_;unfold eS;rw[adl A0c,adl A0c])
   rw[e,hfull];have hsl:(dP es i j x y).length=es.length:=by simp[dP]
   refine hT g _ rfl (.inr ⟨g,cap,_,ty,by rw[hsl],aj _ _ _,by rw[hsl];exact hc,by simpa using hl,fun k z hk=>?_⟩);rw[aew,adX,adV,adX];unfold dP at hk;rw[adX,adV,adX] at hk;simp only[jl,il,adB] at hk;split at hk
   . rename_i e;cases hk;rw[adl e,adl A0b]
   . rename_i e;rw[adq e];split at hk
     . rename_i e';cases hk;rw[adl e',adl A0b]
     . rename_i e';rw[adq e'];exact hcell k z hk
def QJ(H:HH)(p:Nat)(v:Value)(es:List Int):Prop:=H p=some (rowO [v] 61)∧RowJ H v es∧blkOf v≠some p∧v.oneCell'=true∧es.length<=100000000
def Oth(H H':HH)(p:Nat)(v:Value):Prop:=∀y ob,H y=some ob->y≠p->blkOf v≠some y->H' y=some ob
def Fr(H:HH)(v v':Value):Prop:=∀g,blkOf v'=some g->blkOf v=some g∨H g=none
theorem Oth.step{H H1 H2:HH}{p:Nat}{v v':Value}(h:Oth H H1 p v)(hf:Fr H v v')(k:Oth H1 H2 p v'):Oth H H2 p v:=fun y ob h0 h1 h2=>k y ob (h y ob h0 h1 h2) h1 (fun e=>by
 rcases hf y e with e|e
 . exact h2 e
 . rw[h0] at e;cases e)
theorem RowJ.other(h:RowJ H v es){g:Nat}{o:Option Obj}(hne:blkOf v≠some g):RowJ (upd H g o) v es:=by refine h.imp id ?_;rintro⟨g',cap,cur,ty,rfl,hH,h⟩;exact⟨g',cap,cur,ty,rfl,by rw[ah _ _ (fun e=>hne (by rw[e];rfl))];exact hH,h⟩
theorem RowJ.one(h:RowJ H v es):v.oneCell'=true:=by rcases h with⟨_,rfl⟩|⟨g,cap,cur,ty,rfl,_⟩<;>rfl
abbrev kX(p:Nat):Value:= .p p
abbrev Tj(x:Int):Value:= .iface 3 (.int .i64 x)
def LK(us:U)(H:HH)(T:V->HH->Prop):Prop:=∃p v es x,us=[.x (kX p),.x (Tj x)]∧QJ H p v es∧es.length+1<=100000000∧∀v' H',QJ H' p v' (es++[x])->Oth H H' p v->Fr H v v'->T (.tup []) H'
def QY(us:U)(H:HH)(T:V->HH->Prop):Prop:=∃p v es x,us=[.x (kX p)]∧QJ H p v (es++[x])∧∀v' H',QJ H' p v' es->Oth H H' p v->Fr H v v'->T (.x (Tj x)) H'
theorem mZ(h:v.oneCell'=true):nP (.x v)=some [v]:=by show(if v.oneCell'=true then (KW []).map (v:: ·) else none)=_;rw[adl h];rfl
def kR(p:Nat)(v:Value)(x:Int)(v':Value):Nat->V
 |8=> .x v|9=> .x (Tj x)|10=>aw x|11=> .sl false 1 [aw x] none|12=> .x v'|_=> .x (kX p)
variable{p:Nat}
theorem CC{x:Int}(v' v'':Value){k:Nat}(h:k≠12):kR p v x v'' k=kR p v x v' k:=by unfold kR;split<;>first|rfl|exact absurd rfl h
def IPush(H:HH)(p:Nat)(v:Value)(es:List Int)(x:Int)(L:Nat)(H':HH)(val:Nat->V):Prop:=∃v',val=kR p v x v'∧(L.testBit 8=false->H'=H)∧
 (L.testBit 8=true->∃g ob,blkOf v'=some g∧(blkOf v=some g∨H g=none)∧RowJ (upd H g (some ob)) v' (es++[x])∧H'=if L.testBit 11=true then upd (upd H g (some ob)) p (some (rowO [v'] 61)) else upd H g (some ob))
variable{H':HH}
theorem IPush.next{x:Int}{L:Nat}{val:Nat->V}(h:IPush H p v es x L H' val){k:Nat}(h1:k≠8)(h2:k≠11):IPush H p v es x (L|||2^k) H' val:=by unfold IPush;rw[av L h1,av L h2];exact h
theorem IPush.cell{x:Int}{L:Nat}{val:Nat->V}(h:IPush H p v es x L H' val)(hq:QJ H p v es)(hb:L.testBit 11=false):jG H' p=some ([v],61):=by
 obtain⟨v',_,h0,h1⟩:=h;cases h8:L.testBit 8 with
 |false=>rw[h0 h8];exact bf hq.1
 | true=>
   obtain⟨g,ob,_,hg,_,rfl⟩:=h1 h8;rw[adq A1o];refine bf ?_;rw[ah _ _ ?_]
   . exact hq.1
   . rintro rfl;rcases hg with hg|hg
     . exact hq.2.2.1 hg
     . rw[hq.1] at hg;cases hg
theorem Hh:cR (bV [] [] [] (fun _=>false) (fun _=>false)) 127 LK:=by
 refine cO (F:={F:=fun _=>none,D:=fun _=>false,any:=fun i=>i==0}) (n:=15) (k:=2) (bF [] [] [] _ _ trivial trivial trivial) A0a (fun f C e=>by cases e) (fun t s C e=>by cases e) func127 rfl (fun a w=>call127 a w) ntmps127 A0c A0c A0a ?_;rintro us H T ⟨p,v,es,x,rfl,hq,hlen,hT⟩ hdat;refine⟨rfl,?_⟩;obtain⟨hp,hr,hne,h1,h8⟩:=id hq;have fq:KX prog 61 0=some 0:=A0a
 have ha:KY prog 59=true:=A0a
 have ni:rP prog 3=true:=A0a
 have c1:=bf hp;simp +decide only[go_sem];refine kP (fun k=>match k with|2=>[5]|3=>[6]|4=>[7]|6=>[9]|7=>[10]|8=>[8,11]|9=>[4]|10=>[13]|11=>[14,12]|_=>[]) (IPush H p v es x) (kR p v x v) A0a A0a ⟨v,rfl,fun _=>rfl,fun h=>by simp at h⟩ ?_ ?_
 . intro L k o H' val st ho hb hdd hcl hI hn hbase hbb;have b0:st.t 0= .x (kX p):=hbase 0 A0a;have b1:st.t 1= .x (Tj x):=hbase 1 A0a;have hI0:=hI;obtain⟨v',rfl,hI1,hI2⟩:=hI0;rcases k with _|_|_|_|_|_|_|_|_|_|_|_|k
   . cases ho;simp +decide only[go_sem,b0,b1];exact Wl
   . cases ho;simp +decide only[go_sem,b0,b1];exact Wl
   . cases ho;have h5:st.t 5= .x (kX p):=hn 5 A0c;simp +decide only[go_sem,h5,b0,b1];exact Wl
   . cases ho;have h6:st.t 6= .x (kX p):=hn 6 A0c;simp +decide only[go_sem,h6,b0,b1,fq,aeq];exact Wl
   . cases ho;have h7:st.t 7= .x (kX p):=hn 7 A0c;have c2:=hI.cell hq (dF (n:=11) hcl rfl A0a hb);simp +decide only[go_sem,h7,b0,b1,c2];exact Wl
   . cases ho;simp +decide only[go_sem,b0,b1];exact Wl
   . cases ho;have h9:st.t 9= .x (Tj x):=hn 9 A0c;simp +decide only[go_sem,h9,b0,b1,ni];exact Wl
   . cases ho;have h10:st.t 10=aw x:=hn 10 A0c;simp +decide only[go_sem,h10,b0,b1];exact Wl
   . cases ho;have h8:st.t 8= .x v:=hn 8 A0c;have h11:st.t 11= .sl false 1 [aw x] none:=hn 11 A0c;obtain rfl:=hI1 hb;simp +decide only[go_sem,h8,h11,b0,b1,ha];refine⟨es,hr,hlen,fun v'' g ob hb' hg hr'=>⟨kR p v x v'',fun k hk=>CC _ _ (fun e=>hk A08),⟨v'',rfl,fun h=>?_,fun _=>⟨g,ob,hb',hg,hr',?_⟩⟩,by rw[dB];exact Le.refl _⟩⟩
     . have hs8:(L|||2^8).testBit 8=true:=cy L 8;exact absurd (hs8.symm.trans h) A0k
     . have h11:L.testBit 11=false:=dF (n:=11) hcl rfl A0a hb;have hn11:(L|||2^8).testBit 11=L.testBit 11:=av L A0c;rw[adq (by show¬(L|||2^8).testBit 11=true;rw[hn11,h11];simp)]
   . cases ho;have h4:st.t 4= .x (kX p):=hn 4 A0c;simp +decide only[go_sem,h4,b0,b1];exact Wl
   . cases ho;have h13:st.t 13= .x (kX p):=hn 13 A0c;simp +decide only[go_sem,h13,b0,b1,fq,aeq];exact Wl
   . cases ho;have h14:st.t 14= .x (kX p):=hn 14 A0c;have h12:st.t 12= .x v':=hn 12 A0c;have c2:=hI.cell hq hb;obtain⟨g,ob,hb',hg,hr',rfl⟩:=hI2 (hdd 8 A0R);have x1:=mZ hr'.one;simp +decide only[go_sem,h14,h12,b0,b1,c2,x1];refine⟨_,fun _=>rfl,⟨v',rfl,fun h=>?_,fun _=>⟨g,ob,hb',hg,hr',?_⟩⟩,Le.refl _⟩
     . have h8':L.testBit 8=true:=hdd 8 A0R;have hn8:(L|||2^11).testBit 8=L.testBit 8:=av L A0c;exact absurd ((hn8.trans h8').symm.trans h) A0k
     . rw[adq A1o,adl (cy L 11)];rfl
   . cases ho
 . rintro H' val ⟨v',rfl,_,hI⟩;obtain⟨g,ob,hb,hg,hr',rfl⟩:=hI A0c;rw[adl A0c];refine⟨[],[],trivial,trivial,?_⟩;simp +decide only[go_sem];have hgp:g≠p:=by
    rintro rfl;rcases hg with hg|hg
    . exact hne hg
    . rw[hp] at hg;cases hg
   refine hT v' _ ⟨aj _ _ _,hr'.other (by rw[hb];simpa using hgp),by rw[hb];simpa using hgp,hr'.one,by simpa using hlen⟩ (fun y ob' hy hyp hyv=>?_) (fun g' hg'=>by rw[hb] at hg';cases hg';exact hg);have hyg:y≠g:=by
    rintro rfl;rcases hg with hg|hg
    . exact hyv hg
    . rw[hy] at hg;cases hg
   rw[ah _ _ hyp,ah _ _ hyg];exact hy
theorem RowJ.init{x:Int}(h:RowJ H v (es++[x])):∃g cap l ty,v= .s g (es.length+1) cap∧H g=some (rowO l ty)∧es.length+1<=cap∧(l.map V.x)[es.length]?=some (aw x)∧RowJ H (.s g es.length cap) es:=by obtain⟨g,cap,l,ty,rfl,hH,hc,hl,hcell⟩:=h.cell (i:=es.length) (x:=x) A0k;rw[adh,aej] at hc;refine⟨g,cap,l,ty,A0k,hH,hc,by rw[ac9,hcell es.length x A0k];rfl,.inr ⟨g,cap,l.toArray,ty,rfl,hH,A0b,by simpa using hl,fun j i hj=>?_⟩⟩;rw[aew];exact hcell j i (by rw[adu (iO.1 hj).1];exact hj)
theorem LL:cR (bV [] [] [] (fun _=>false) (fun _=>false)) 126 QY:=by
 refine cO (F:={F:=fun _=>none,D:=fun _=>false}) (n:=29) (k:=1) (bF [] [] [] _ _ trivial trivial trivial) A0a (fun f C e=>by cases e) (fun t s C e=>by cases e) func126 rfl (fun a w=>call126 a w) ntmps126 A0c A0c A0a ?_;rintro us H T ⟨p,v,es,x,rfl,⟨hp,hr,hne,h1,h8⟩,hT⟩ hdat;refine⟨rfl,?_⟩;have fq:KX prog 61 0=some 0:=A0a
 have z73:rO prog 59=some 1:=A0a
 have ni:rP prog 3=true:=A0a
 have c1:=bf hp;obtain⟨g,cap,l,ty,rfl,hH,hc,hx,hr'⟩:=hr.init;have c2:=bf hH;have w1:az .i64 (((es.length+1:Nat):Int)-1)=(es.length:Int):=by rw[ak (by rw[adh,aej] at h8;unfold inR;omega)];omega
 rw[adh,aej] at h8;have e0:(0:Int)<=(es.length:Int):=A0b
 have e1:(es.length:Int)<((es.length+1:Nat):Int):=A0b
 have e2:(es.length:Int)<=cap:=A0b
 have hgp:g≠p:=fun e=>hne (by rw[e];rfl)
 have x1:nP (.x (.s g es.length cap))=some [.s g es.length cap]:=rfl;simp +decide only[go_sem,fq,z73,ni,c1,c2,w1,e0,e1,e2,hx,x1,aeq,adi,adx,tl];refine hT (.s g es.length cap) _ ⟨aj _ _ _,hr'.other (fun e=>hgp (by cases e;rfl)),fun e=>hgp (by cases e;rfl),rfl,A0b⟩ (fun y ob' hy hyp hyv=>?_) (fun g' hg'=> .inl (by cases hg';rfl));rw[ah _ _ hyp];exact hy
def LM(v:Value)(us:U)(H:HH)(T:V->HH->Prop):Prop:=∃p r es,v=kX p∧us=[]∧QJ H p r es∧T (aw (es.length:Int)) H
def CD(v:Value)(us:U)(H:HH)(T:V->HH->Prop):Prop:=∃p r es i j x y,v=kX p∧us=[aw ((i:Nat):Int),aw ((j:Nat):Int)]∧QJ H p r es∧es[i]?=some x∧es[j]?=some y∧T (.bool (decide (x<y))) H
def CE(v:Value)(us:U)(H:HH)(T:V->HH->Prop):Prop:=∃p r es i j x y,v=kX p∧us=[aw ((i:Nat):Int),aw ((j:Nat):Int)]∧QJ H p r es∧es[i]?=some x∧es[j]?=some y∧∀H',QJ H' p r (dP es i j x y)->Oth H H' p r->T (.tup []) H'
def CF(v:Value)(us:U)(H:HH)(T:V->HH->Prop):Prop:=LK (.x v::us) H T
def LN(v:Value)(us:U)(H:HH)(T:V->HH->Prop):Prop:=QY (.x v::us) H T
theorem RowJ.len(h:RowJ H v es):∃a c,v= .slice a es.length c:=by
 rcases h with⟨rfl,rfl⟩|⟨g,cap,_,_,rfl,_⟩
 . exact⟨_,_,rfl⟩
 . exact⟨_,_,rfl⟩
theorem LO:ja (bV [] [] [] (fun _=>false) (fun _=>false)) 58 "Len" LM:=by refine nW 61 0 59 0 0 (.slice 3) zd (adQ A0a) A0a A0a A0a A0a A0a (fun e h=>by cases h) ?_;rintro v us H T ⟨p,r,es,rfl,rfl,h,hT⟩;obtain⟨a,c,rfl⟩:=h.2.1.len;exact⟨p,_,_,_,rfl,h.1,rfl,rfl,_,_,_,rfl,hT⟩
theorem Hi:ja (bV [] [] [] (fun _=>false) (fun _=>false)) 58 "Less" CD:=by refine nW 61 0 59 0 0 (.slice 3) He (adQ A0a) A0a A0a A0a A0a A0a (fun e h=>by cases h) ?_;rintro v us H T ⟨p,r,es,i,j,x,y,rfl,rfl,h,hi,hj,hT⟩;exact⟨p,r,_,_,rfl,h.1,rfl,Ef h.2.2.2.1,r,es,i,j,x,y,rfl,h.2.1,hi,hj,hT⟩
theorem Hj:ja (bV [] [] [] (fun _=>false) (fun _=>false)) 58 "Swap" CE:=by
 refine nW 61 0 59 0 0 (.slice 3) Hg (adQ A0a) A0a A0a A0a A0a A0a (fun e h=>by cases h) ?_;rintro v us H T ⟨p,r,es,i,j,x,y,rfl,rfl,h,hi,hj,hT⟩;refine⟨p,r,_,_,rfl,h.1,rfl,Ef h.2.2.2.1,r,es,i,j,x,y,rfl,h.2.1,hi,hj,fun g ob hb hr=>hT _ ⟨?_,hr,h.2.2.1,h.2.2.2.1,by simpa[dP] using h.2.2.2.2⟩ (fun y' ob' hy hyp hyv=>?_)⟩
 . rw[ah _ _ (fun e=>h.2.2.1 (by rw[e];exact hb))];exact h.1
 . rw[ah _ _ (fun e=>hyv (by rw[e];exact hb))];exact hy
theorem Hk:ja (bV [] [] [] (fun _=>false) (fun _=>false)) 58 "Push" CF:=yN (e:=61) Hh (adQ A0a) A0a A0a (fun v us H T h=>⟨by obtain⟨p,_,_,_,hus,_⟩:=id h;cases hus;rfl,h⟩)
theorem LP:ja (bV [] [] [] (fun _=>false) (fun _=>false)) 58 "Pop" LN:=yN (e:=61) LL (adQ A0a) A0a A0a (fun v us H T h=>⟨by obtain⟨p,_,_,_,hus,_⟩:=id h;cases hus;rfl,h⟩)
def aN(l:List Int)(k:Nat):Int:=(l[k]?).getD 0
theorem iA{x:Int}(h:l[k]?=some x):aN l k=x:=by unfold aN;rw[h];rfl
def HeapN(es:List Int)(n:Nat):Prop:=∀k,0<k->k<n->aN es ((k-1)/2)<=aN es k
def Tk(es:List Int)(j:Nat):Prop:=(∀k,0<k->k<es.length->k≠j->aN es ((k-1)/2)<=aN es k)∧∀k,0<k->k<es.length->(k-1)/2=j->0<j->aN es ((j-1)/2)<=aN es k
def qR(es:List Int)(i n:Nat):Prop:=(∀k,0<k->k<n->(k-1)/2≠i->aN es ((k-1)/2)<=aN es k)∧∀k,0<k->k<n->(k-1)/2=i->0<i->aN es ((i-1)/2)<=aN es k
theorem nZ(es:List Int)(i j:Nat)(x y:Int):(dP es i j x y).length=es.length:=by simp[dP]
theorem fA{i j:Nat}{x:Int}(hi:es[i]?=some x)(hj:es[j]?=some y)(k:Nat):aN (dP es i j x y) k=if k=j then x else if k=i then y else aN es k:=by
 have il:=(iO.1 hi).1;have jl:=(iO.1 hj).1;unfold aN dP;rw[adX,adV,adX];by_cases e:j=k
 . rw[adl e,adl jl,adl e.symm];rfl
 . rw[adq e,adq (aeM e)];by_cases e':i=k
   . rw[adl e',adl il,adl e'.symm];rfl
   . rw[adq e',adq (aeM e')]
theorem mc{i j:Nat}{x:Int}(hi:es[i]?=some x)(hj:es[j]?=some y):(dP es i j x y).Perm es:=by obtain⟨il,rfl⟩:=iO.1 hi;obtain⟨jl,rfl⟩:=iO.1 hj;exact Sort.perm_set_set es i j il jl
theorem PU{i j:Nat}{x:Int}(h:Tk es j)(hij:(j-1)/2=i)(hne:i≠j)(hi:es[i]?=some x)(hj:es[j]?=some y)(hlt:y<x):Tk (dP es i j x y) i:=by
 have xi:=iA hi;have yj:=iA hj;unfold Tk;rw[nZ];refine⟨fun k k0 kl kne=>?_,fun k k0 kl kp i0=>?_⟩
 . have q1:=h.1 k k0 kl;have q2:=h.2 k k0 kl;rw[fA hi hj,fA hi hj];by_cases a1:(k-1)/2=j
   . rw[adl a1,adq A0b,adq kne];have:=q2 a1 A0b
     rwa [hij,xi] at this
   . rw[adq a1];by_cases a3:k=j
     . rw[adl a3,adl A0b];omega
     . rw[adq a3,adq kne];have q:=q1 a3;by_cases a4:(k-1)/2=i
       . rw[adl a4];rw[a4,xi] at q;omega
       . rw[adq a4];exact q
 . have q0:=h.1 i i0 A0b hne;rw[xi] at q0;rw[fA hi hj,fA hi hj,adq A0b,adq A0b];by_cases a3:k=j
   . rw[adl a3];exact q0
   . rw[adq a3,adq A0b];have q:=h.1 k k0 kl a3;rw[kp,xi] at q;omega
theorem Ep{j:Nat}(h:Tk es j)(hd:(j-1)/2=j∨aN es ((j-1)/2)<=aN es j):HeapN es es.length:=fun k k0 kl=>by
 by_cases e:k=j
 . subst e;rcases hd with hd|hd
   . omega
   . exact hd
 . exact h.1 k k0 kl e
theorem Hl{i j:Nat}{x:Int}(h:qR es i n)(hij:(j-1)/2=i)(j0:0<j)(jn:j<n)(hi:es[i]?=some x)(hj:es[j]?=some y)(hlt:y<x)(hmin:∀k,0<k->k<n->(k-1)/2=i->y<=aN es k):qR (dP es i j x y) j n:=by
 have xi:=iA hi;have yj:=iA hj;refine⟨fun k k0 kl kne=>?_,fun k k0 kl kp _=>?_⟩
 . rw[fA hi hj,fA hi hj,adq kne];by_cases a4:(k-1)/2=i
   . rw[adl a4];by_cases a3:k=j
     . rw[adl a3];omega
     . rw[adq a3,adq A0b];exact hmin k k0 kl a4
   . rw[adq a4,adq (fun e=>a4 (by rw[e];exact hij))];by_cases a5:k=i
     . rw[adl a5,a5];have:=h.2 j j0 jn hij A0b;omega
     . rw[adq a5];exact h.1 k k0 kl a4
 . rw[fA hi hj,fA hi hj,hij,adq A0b,adl rfl,adq A0b,adq A0b];have:=h.1 k k0 kl A0b
   rwa [kp,yj] at this
theorem Hm{i:Nat}(h:qR es i n)(hd:∀k,0<k->k<n->(k-1)/2=i->aN es i<=aN es k):HeapN es n:=fun k k0 kl=>by
 by_cases e:(k-1)/2=i
 . rw[e];exact hd k k0 kl e
 . exact h.1 k k0 kl e
theorem LQ(h:HeapN es n):∀k,k<n->aN es 0<=aN es k:=by
 intro k
 induction k using Nat.strongRecOn with
 | _ k ih=>
   intro hk;by_cases e:k=0
   . subst e;exact afv _
   . have:=ih ((k-1)/2) A0b A0b;have:=h k A0b hk;omega
theorem Oth.refl(H:HH)(p:Nat)(v:Value):Oth H H p v:=fun _ _ h _ _=>h
theorem Oth.trans{H2:HH}(h:Oth H H' p v)(k:Oth H' H2 p v):Oth H H2 p v:=fun y ob h0 h1 h2=>k y ob (h y ob h0 h1 h2) h1 h2
open Classical in
noncomputable def qI:TypeId->String->Option (Value->U->HH->Tr):=fun t name=>if t=58 then (if name= "Len" then some LM else if name= "Less" then some CD else if name= "Swap" then some CE else if name= "Push" then some CF else if name= "Pop" then some LN else none) else none
theorem Er:∀t name C,qI t name=some C->ja (bV [] [] [] (fun _=>false) (fun _=>false)) t name C:=by
 intro t name C h;unfold qI at h;split at h
 case isFalse=>cases h
 rename_i e;subst e;split at h
 . rename_i e;subst e;cases h;exact LO
 split at h
 . rename_i e;subst e;cases h;exact Hi
 split at h
 . rename_i e;subst e;cases h;exact Hj
 split at h
 . rename_i e;subst e;cases h;exact Hk
 split at h
 . rename_i e;subst e;cases h;exact LP
 . cases h
theorem Tl:qI 58 "Len" =some LM:=by unfold qI;simp
theorem PV:qI 58 "Less" =some CD:=by unfold qI;simp
theorem PW:qI 58 "Swap" =some CE:=by unfold qI;simp
theorem PY:qI 58 "Push" =some CF:=by unfold qI;simp
theorem Tm:qI 58 "Pop" =some LN:=by unfold qI;simp
attribute [go_sem] Tl PV PW PY Tm
abbrev TO(p:Nat):Value:= .iface 58 (kX p)
def CUp(us:U)(H:HH)(T:V->HH->Prop):Prop:=∃p r es j,us=[.x (TO p),aw ((j:Nat):Int)]∧QJ H p r es∧j<es.length∧Tk es j∧∀es' H',QJ H' p r es'->es'.Perm es->HeapN es' es'.length->Oth H H' p r->T (.tup []) H'
theorem Tn:cR (bV [] [] [] (fun _=>false) (fun _=>false)) 50 CUp:=by
 refine cO (F:={F:=fun _=>none,D:=fun _=>false,I:=qI}) (n:=23) (k:=2) (bF [] [] [] _ _ trivial trivial trivial) A0a (fun f C e=>by cases e) Er func50 rfl (fun a w=>call50 a w) ntmps50 A0c A0c A0a ?_;rintro us H T ⟨p,r,es,j,rfl,hq,hj,hu,hT⟩ hdat;refine⟨rfl,?_⟩;simp +decide only[go_sem];refine bz (X:={q:List Int×Nat//q.1.Perm es∧q.2<es.length∧Tk q.1 q.2}) (fun q=>[(0,.x (TO p)),(1,aw (q.1.2:Int))]) (fun _=>[]) (fun q H'=>QJ H' p r q.1.1∧Oth H H' p r) (fun q=>q.1.2) ⟨(es,j),List.Perm.refl _,hj,hu⟩ A0f A0f ⟨hq,.refl _ _ _⟩ ?_;rintro⟨⟨e1,j⟩,hp,hj,hu⟩ H1 ⟨hq1,ho⟩;simp only at hp hj hu hq1⊢;have hl:=hp.length_eq;have h8:=hq1.2.2.2.2;have w1:az .i64 ((j:Int)-1)=(j:Int)-1:=ak A0j;have w2:az .i64 (Int.tdiv ((j:Int)-1) 2)=(((j-1)/2:Nat):Int):=by
  have e:Int.tdiv ((j:Int)-1) 2=(((j-1)/2:Nat):Int):=by
   by_cases h0:j=0
   . subst h0;rfl
   . rw[show(j:Int)-1=((j-1:Nat):Int) by omega];rfl
  rw[e,ak A0j]
 obtain⟨y,hy⟩:∃y,e1[j]?=some y:=⟨_,io A0b ⟩;generalize hi:(j-1)/2=i at w2;obtain⟨x,hx⟩:∃x,e1[i]?=some x:=⟨_,io A0b ⟩;by_cases hij:i=j
 . have d1:decide ((i:Int)=j)=true:=ac0 A0b;simp +decide only[go_sem,w1,w2,d1];exact hT e1 H1 hq1 hp (Ep hu (.inl A0b)) ho
 have d1:decide ((i:Int)=j)=false:=Io A0b;simp +decide only[go_sem,w1,w2,d1];refine⟨p,r,e1,j,i,y,x,rfl,rfl,hq1,hy,hx,?_⟩;by_cases hlt:y<x
 case neg=>have d2:decide (y<x)=false:=Io hlt;simp +decide only[go_sem,d2];exact hT e1 H1 hq1 hp (Ep hu (.inr (by rw[hi,iA hx,iA hy];omega))) ho
 have d2:decide (y<x)=true:=ac0 hlt;simp +decide only[go_sem,d2];refine⟨p,r,e1,i,j,x,y,rfl,rfl,hq1,hx,hy,fun H2 hq2 ho2=>?_⟩;simp +decide only[go_sem];refine⟨⟨(dP e1 i j x y,i),(mc hx hy).trans hp,by simp only;omega,PU hu hi hij hx hy hlt⟩,⟨?_,?_,hq2,ho.trans ho2⟩,by simp only;omega⟩
 . exact Wh
 . exact Wh
def QZ(us:U)(H:HH)(T:V->HH->Prop):Prop:=∃p r es n,us=[.x (TO p),aw 0,aw ((n:Nat):Int)]∧QJ H p r es∧n<=es.length∧qR es 0 n∧∀es' H' b,QJ H' p r es'->es'.Perm es->(∀k,n<=k->es'[k]?=es[k]?)->HeapN es' n->Oth H H' p r->T (.bool b) H'
theorem LR{i j:Nat}{x:Int}(hi:i<n)(hj:j<n)(k:Nat)(hk:n<=k):(dP es i j x y)[k]?=es[k]?:=by unfold dP;rw[ae0 A0b,ae0 A0b]
theorem LS:cR (bV [] [] [] (fun _=>false) (fun _=>false)) 51 QZ:=by
 refine cO (F:={F:=fun _=>none,D:=fun _=>false,I:=qI}) (n:=48) (k:=3) (bF [] [] [] _ _ trivial trivial trivial) A0a (fun f C e=>by cases e) Er func51 rfl (fun a w=>call51 a w) ntmps51 A0c A0c A0a ?_;rintro us H T ⟨p,r,es,n,rfl,hq,hn,hu,hT⟩ hdat;refine⟨rfl,?_⟩;simp +decide only[go_sem];refine bz (X:={q:List Int×Nat//q.1.Perm es∧(∀k,n<=k->q.1[k]?=es[k]?)∧(q.2<n∨q.2=0)∧qR q.1 q.2 n}) (fun q=>[(0,.x (TO p)),(1,aw 0),(2,aw (n:Int)),(7,aw (q.1.2:Int))]) (fun _=>[]) (fun q H'=>QJ H' p r q.1.1∧Oth H H' p r) (fun q=>n-q.1.2) ⟨(es,0),List.Perm.refl _,fun _ _=>rfl,.inr rfl,hu⟩ A0f A0f ⟨hq,.refl _ _ _⟩ ?_;rintro⟨⟨e1,i⟩,hp,hfar,hi,hu⟩ H1 ⟨hq1,ho⟩;simp only at hp hfar hi hu hq1⊢;have hl:=hp.length_eq;have h8:=hq1.2.2.2.2;have w1:az .i64 (2*(i:Int))=((2*i:Nat):Int):=by rw[ak A0j];omega
 have w2:az .i64 (((2*i:Nat):Int)+1)=((2*i+1:Nat):Int):=by rw[ak A0j];omega
 have fin:∀(hd:∀k,0<k->k<n->(k-1)/2=i->aN e1 i<=aN e1 k) b,T (.bool b) H1:=fun hd b=>hT e1 H1 b hq1 hp hfar (Hm hu hd) ho
 by_cases hj1:2*i+1<n
 case neg=>have d1:decide (((2*i+1:Nat):Int)≥(n:Int))=true:=ac0 A0b;simp +decide only[go_sem,w1,w2,d1];exact fin (fun k k0 kn kp=>by omega) _
 have d1:decide (((2*i+1:Nat):Int)≥(n:Int))=false:=Io A0b;have d2:decide (((2*i+1:Nat):Int)<0)=false:=Io A0b;have w3:az .i64 (((2*i+1:Nat):Int)+1)=((2*i+2:Nat):Int):=by rw[ak A0j];omega
 obtain⟨x,hx⟩:∃x,e1[i]?=some x:=⟨_,io A0b ⟩;obtain⟨y1,hy1⟩:∃y,e1[2*i+1]?=some y:=⟨_,io A0b ⟩
 have key:∀(j:Nat) (y:Int),e1[j]?=some y->(j-1)/2=i->0<j->j<n->(∀k,0<k->k<n->(k-1)/2=i->y<=aN e1 k)->(¬y<x->∀b,T (.bool b) H1)∧(y<x->qR (dP e1 i j x y) j n∧(dP e1 i j x y).Perm es∧∀k,n<=k->(dP e1 i j x y)[k]?=es[k]?):=fun j y hy hij j0 jn hmin=>
  ⟨fun hlt b=>fin (fun k k0 kn kp=>by have:=hmin k k0 kn kp;rw[iA hx];omega) b,fun hlt=>⟨Hl hu hij j0 jn hx hy hlt hmin,(mc hx hy).trans hp,fun k hk=>(LR A0b jn k hk).trans (hfar k hk)⟩⟩
 by_cases hj2:2*i+2<n
 case neg=>
  have d3:decide (((2*i+2:Nat):Int)<(n:Int))=false:=Io A0b;simp +decide only[go_sem,w1,w2,w3,d1,d2,d3];obtain⟨k1,k2⟩:=key (2*i+1) y1 hy1 A0b A0b A0b (by intro k k0 kn kp;rw[show k=2*i+1 by omega,iA hy1];exact afv _);refine⟨p,r,e1,2*i+1,i,y1,x,rfl,rfl,hq1,hy1,hx,?_⟩;by_cases hlt:y1<x
  case neg=>have d5:decide (y1<x)=false:=Io hlt;simp +decide only[go_sem,d5];exact k1 hlt _
  have d5:decide (y1<x)=true:=ac0 hlt;simp +decide only[go_sem,d5];obtain⟨k3,k4,k5⟩:=k2 hlt;refine⟨p,r,e1,i,2*i+1,x,y1,rfl,rfl,hq1,hx,hy1,fun H2 hq2 ho2=>?_⟩;simp +decide only[go_sem];refine⟨⟨(dP e1 i (2*i+1) x y1,2*i+1),k4,k5,.inl A0b,k3⟩,⟨?_,?_,hq2,ho.trans ho2⟩,by simp only;omega⟩
  . exact Wh
  . exact Wh
 have d3:decide (((2*i+2:Nat):Int)<(n:Int))=true:=ac0 A0b;obtain⟨y2,hy2⟩:∃y,e1[2*i+2]?=some y:=⟨_,io A0b ⟩;simp +decide only[go_sem,w1,w2,w3,d1,d2,d3];refine⟨p,r,e1,2*i+2,2*i+1,y2,y1,rfl,rfl,hq1,hy2,hy1,?_⟩;by_cases h12:y2<y1
 case neg=>
  have d4:decide (y2<y1)=false:=Io h12;simp +decide only[go_sem,d4];obtain⟨k1,k2⟩:=key (2*i+1) y1 hy1 A0b A0b A0b (by intro k k0 kn kp;by_cases ek:k=2*i+1;(rw[ek,iA hy1];exact afv _);rw[show k=2*i+2 by omega,iA hy2];omega);refine⟨p,r,e1,2*i+1,i,y1,x,rfl,rfl,hq1,hy1,hx,?_⟩;by_cases hlt:y1<x
  case neg=>have d5:decide (y1<x)=false:=Io hlt;simp +decide only[go_sem,d5];exact k1 hlt _
  have d5:decide (y1<x)=true:=ac0 hlt;simp +decide only[go_sem,d5];obtain⟨k3,k4,k5⟩:=k2 hlt;refine⟨p,r,e1,i,2*i+1,x,y1,rfl,rfl,hq1,hx,hy1,fun H2 hq2 ho2=>?_⟩;simp +decide only[go_sem];refine⟨⟨(dP e1 i (2*i+1) x y1,2*i+1),k4,k5,.inl A0b,k3⟩,⟨?_,?_,hq2,ho.trans ho2⟩,by simp only;omega⟩
  . exact Wh
  . exact Wh
 have d4:decide (y2<y1)=true:=ac0 h12;simp +decide only[go_sem,d4];obtain⟨k1,k2⟩:=key (2*i+2) y2 hy2 A0b A0b A0b (by intro k k0 kn kp;by_cases ek:k=2*i+2;(rw[ek,iA hy2];exact afv _);rw[show k=2*i+1 by omega,iA hy1];omega);refine⟨p,r,e1,2*i+2,i,y2,x,rfl,rfl,hq1,hy2,hx,?_⟩;by_cases hlt:y2<x
 case neg=>have d5:decide (y2<x)=false:=Io hlt;simp +decide only[go_sem,d5];exact k1 hlt _
 have d5:decide (y2<x)=true:=ac0 hlt;simp +decide only[go_sem,d5];obtain⟨k3,k4,k5⟩:=k2 hlt;refine⟨p,r,e1,i,2*i+2,x,y2,rfl,rfl,hq1,hx,hy2,fun H2 hq2 ho2=>?_⟩;simp +decide only[go_sem];refine⟨⟨(dP e1 i (2*i+2) x y2,2*i+2),k4,k5,.inl A0b,k3⟩,⟨?_,?_,hq2,ho.trans ho2⟩,by simp only;omega⟩
 . exact Wh
 . exact Wh
theorem LT(h:HeapN es es.length)(x:Int):Tk (es++[x]) es.length:=by
 have ha:∀k,k<es.length->aN (es++[x]) k=aN es k:=fun k hk=>by unfold aN;rw[adu hk]
 refine⟨fun k k0 kl kne=>?_,fun k k0 kl kp=>?_⟩
 . rw[adh,aej] at kl;rw[ha _ A0b,ha _ A0b];exact h k k0 A0b
 . rw[adh,aej] at kl;omega
def LU(us:U)(H:HH)(T:V->HH->Prop):Prop:=∃p r es x,us=[.x (TO p),.x (Tj x)]∧QJ H p r es∧es.length+1<=100000000∧HeapN es es.length∧∀r' es' H',QJ H' p r' es'->es'.Perm (es++[x])->HeapN es' es'.length->Oth H H' p r->Fr H r r'->T (.tup []) H'
theorem Ho:cR (bV [] [] [] (fun _=>false) (fun _=>false)) 37 LU:=by
 refine cO (F:={F:=yK [(50,CUp)],D:=fun _=>false,I:=qI}) (n:=12) (k:=2) (bF [] [] [] _ _ trivial trivial trivial) A0a (gU ⟨Tn,trivial⟩) Er func37 rfl (fun a w=>call37 a w) ntmps37 A0c A0c A0a ?_;rintro us H T ⟨p,r,es,x,rfl,hq,hlen,hh,hT⟩ hdat;refine⟨rfl,?_⟩;simp +decide only[go_sem];refine⟨p,r,es,x,rfl,hq,hlen,fun v' H1 hq1 ho hf=>?_⟩;simp +decide only[go_sem];refine⟨p,v',es++[x],rfl,rfl,hq1,?_⟩;have w1:az .i64 (((es++[x]).length:Int)-1)=(es.length:Int):=by rw[adh,aej,ak A0j];omega
 simp +decide only[go_sem,w1,adB];refine⟨p,v',es++[x],es.length,rfl,hq1,A0k,LT hh x,fun es' H2 hq2 hp hh2 ho2=>?_⟩;simp +decide only[go_sem];exact hT v' es' H2 hq2 hp hh2 (ho.step hf ho2) hf
def Q0(us:U)(H:HH)(T:V->HH->Prop):Prop:=∃p r es,us=[.x (TO p)]∧QJ H p r es∧es≠[]∧HeapN es es.length∧∀r' x es' H',QJ H' p r' es'->es.Perm (x::es')->(∀y∈es,x<=y)->HeapN es' es'.length->Oth H H' p r->Fr H r r'->T (.x (Tj x)) H'
theorem CG{x:Int}(h:HeapN es es.length)(hn:es.length=n+1)(hx:es[0]?=some x)(hy:es[n]?=some y):qR (dP es 0 n x y) 0 n:=by refine⟨fun k k0 kl kp=>?_,fun k _ _ _ h0=>absurd h0 (agB _)⟩;rw[fA hx hy,fA hx hy,adq A0b,adq kp,adq A0b,adq A0b];exact h k k0 A0b
theorem LW:cR (bV [] [] [] (fun _=>false) (fun _=>false)) 38 Q0:=by
 refine cO (F:={F:=yK [(51,QZ)],D:=fun _=>false,I:=qI}) (n:=15) (k:=1) (bF [] [] [] _ _ trivial trivial trivial) A0a (gU ⟨LS,trivial⟩) Er func38 rfl (fun a w=>call38 a w) ntmps38 A0c A0c A0a ?_;rintro us H T ⟨p,r,es,rfl,hq,hne,hh,hT⟩ hdat;refine⟨rfl,?_⟩;have h8:=hq.2.2.2.2;obtain⟨n,hn⟩:∃n,es.length=n+1:=⟨es.length-1,by have:=List.length_pos_iff.2 hne;omega⟩;obtain⟨x,hx⟩:∃x,es[0]?=some x:=⟨_,io A0b ⟩;obtain⟨y,hy⟩:∃y,es[n]?=some y:=⟨_,io A0b ⟩;simp +decide only[go_sem];refine⟨p,r,es,rfl,rfl,hq,?_⟩;have w1:az .i64 ((es.length:Int)-1)=(n:Int):=by rw[ak A0j];omega
 simp +decide only[go_sem,w1];refine⟨p,r,es,0,n,x,y,rfl,rfl,hq,hx,hy,fun H1 hq1 ho1=>?_⟩;simp +decide only[go_sem,adB];refine⟨p,r,dP es 0 n x y,n,rfl,hq1,by rw[nZ];omega,CG hh hn hx hy,fun es2 H2 b hq2 hp2 hfar hh2 ho2=>?_⟩;simp +decide only[go_sem];have hl2:es2.length=n+1:=by rw[hp2.length_eq,nZ,hn]
 have hlast:es2[n]?=some x:=by rw[hfar n (adp _)];unfold dP;rw[adX,adl rfl,adl (by rw[adV];omega)]
 obtain⟨es3,rfl⟩:∃es3,es2=es3++[x]:=by refine⟨es2.take n,?_⟩;have:=aF hlast;rw[ady A0b] at this;exact this
 rw[adh,aej] at hl2;have h3:es3.length=n:=A0b
 refine⟨p,r,es3,x,rfl,hq2,fun v' H3 hq3 ho3 hf3=>?_⟩;simp +decide only[go_sem];have hperm:es.Perm (x::es3):=((mc hx hy).symm.trans hp2.symm).trans (List.perm_append_singleton x es3);have ho12:Oth H H2 p r:=ho1.trans ho2;refine hT v' x es3 H3 hq3 hperm (fun z hz=>?_) (fun k k0 kl=>?_) (ho12.trans ho3) (fun g hg=>?_)
 . obtain⟨k,hk⟩:=aen hz;have:=LQ hh k (iO.1 hk).1
   rwa [iA hx,iA hk] at this
 . have:=hh2 k k0 A0b;unfold aN at this⊢
   rwa [adu A0b,adu kl] at this
 . rcases hf3 g hg with h|h
   . exact .inl h
   . cases e:H g with
     |none=>exact .inr rfl
     | some ob=>
       by_cases e1:g=p
       . subst e1;rw[hq2.1] at h;cases h
       . by_cases e2:blkOf r=some g
         . exact .inl e2
         . rw[ho12 g ob e e1 e2] at h;cases h
def Yy(us:U)(H:HH)(T:V->HH->Prop):Prop:=∃p r es x,us=[.x (kX p),aw x]∧QJ H p r es∧es.length+1<=100000000∧HeapN es es.length∧∀r' es' H',QJ H' p r' es'->es'.Perm (es++[x])->HeapN es' es'.length->Oth H H' p r->Fr H r r'->T (.tup []) H'
def Q1(us:U)(H:HH)(T:V->HH->Prop):Prop:=∃p r es,us=[.x (kX p)]∧QJ H p r es∧es≠[]∧HeapN es es.length∧∀r' x es' H',QJ H' p r' es'->es.Perm (x::es')->(∀y∈es,x<=y)->HeapN es' es'.length->Oth H H' p r->Fr H r r'->T (aw x) H'
theorem PZ:cR (bV [] [] [] (fun _=>false) (fun _=>false)) 19 Yy:=by
 refine cO (F:={F:=yK [(37,LU)],D:=fun _=>false}) (n:=9) (k:=2) (bF [] [] [] _ _ trivial trivial trivial) A0a (gU ⟨Ho,trivial⟩) (fun t s C e=>by cases e) func19 rfl (fun a w=>call19 a w) ntmps19 A0c A0c A0a ?_;rintro us H T ⟨p,r,es,x,rfl,hq,hlen,hh,hT⟩ hdat;refine⟨rfl,?_⟩;have n1:rP prog 58=true:=A0a
 have n2:rP prog 3=true:=A0a
 simp +decide only[go_sem,n1,n2,adB];refine⟨p,r,es,x,rfl,hq,hlen,hh,fun r' es' H' h1 h2 h3 h4 h5=>?_⟩;simp +decide only[go_sem];exact hT r' es' H' h1 h2 h3 h4 h5
theorem LX:cR (bV [] [] [] (fun _=>false) (fun _=>false)) 21 Q1:=by
 refine cO (F:={F:=yK [(38,Q0)],D:=fun _=>false}) (n:=7) (k:=1) (bF [] [] [] _ _ trivial trivial trivial) A0a (gU ⟨LW,trivial⟩) (fun t s C e=>by cases e) func21 rfl (fun a w=>call21 a w) ntmps21 A0c A0c A0a ?_;rintro us H T ⟨p,r,es,rfl,hq,hne,hh,hT⟩ hdat;refine⟨rfl,?_⟩;have n1:rP prog 58=true:=A0a
 have n2:rP prog 3=true:=A0a
 simp +decide only[go_sem,n1,adB];refine⟨p,r,es,rfl,hq,hne,hh,fun r' x es' H' h1 h2 h3 h4 h5 h6=>?_⟩;simp +decide only[go_sem,n2];exact hT r' x es' H' h1 h2 h3 h4 h5 h6
