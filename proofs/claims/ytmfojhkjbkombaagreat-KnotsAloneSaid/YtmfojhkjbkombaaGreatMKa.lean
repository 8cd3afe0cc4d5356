/- Chapter 13: the knots: what hangs on a place, of those whose heads are not known yet. -/
import Derived.Test.YtmfojhkjbkombaaGreatMHx
import Derived.Test.YtmfojhkjbkombaaGreatMK
import Derived.Test.YtmfojhkjbkombaaGreatMPO
import Derived.Sort.Lot0
namespace Go.Proofs.YtmfojhkjbkombaaGreat
set_option linter.unusedSimpArgs false
set_option maxHeartbeats 64000000
set_option maxRecDepth 100000
open Go Go.RowKit
attribute [go_sem] Tryz.results20 Tryz.results21 Tryz.results22 Tryz.results23 Tryz.results37 Tryz.results39 Tryz.results40 Tryz.results54 Tryz.results130 Tryz.results131 Tryz.results132 Tryz.results134
abbrev iv (i:Int):Value:= .int .i64 i
def gD (C:List C3) (R S:List (List Int)):V:= .agg [.sl false 3 (C.map aa) none,.sl false 1 (R.map rI) none,.sl false 1 (S.map rI) none]
def rowZ (S:List (List Int)) (i:Int):List Int:=(S[i.toNat]?).getD []
def bK (n:Nat) (S:List (List Int)):Prop:=S.length=n∧n<=400∧∀r∈S,r.length<=100000000∧∀i∈r,0<=i∧i.toNat<n
inductive ReachU (S:List (List Int)) (L0:List Int) (st:Int):Int->Prop
 |refl:ReachU S L0 st st
 |step {x r:Int} (h:ReachU S L0 st x) (hr:r∈rowZ S x) (hn:L0[r.toNat]?=some (-1)):ReachU S L0 st r
structure HangI (S:List (List Int)) (L0:List Int) (st:Int) (f L:List Int):Prop where
 len:L.length=L0.length
 nd:f.Nodup
 mem:∀x∈f,(0<=x∧x.toNat<L0.length)∧L0[x.toNat]?=some (-1)∧ReachU S L0 st x
 val:∀j:Nat,L[j]?=if ((j:Nat):Int)∈f then some st else L0[j]?
 start:st∈f
def zb (S:List (List Int)) (L x:List Int):Prop:=∀y∈x,∀r∈rowZ S y,L[r.toNat]?≠some (-1)
def Md (us:List V) (H:HH) (T:V->HH->Prop):Prop:=∃C R S st g L0 ty,us=[gD C R S,aq st,.x (.slice (some ⟨g,0,none⟩) L0.length L0.length)]∧bK L0.length S∧H g=some (rowO (L0.map iv) ty)∧0<=st∧L0[st.toNat]?=some (-1)∧
 ∀f L H',HangI S L0 st f L->zb S L f->(∀y,y≠g->H' y=H y)->H' g=some (rowO (L.map iv) ty)->T (.sl false 1 (f.map aq) none) H'
variable {S:List (List Int)} {L0:List Int} {st:Int}
theorem HangI.first (h0:0<=st) (hs:L0[st.toNat]?=some (-1)):HangI S L0 st [st] (L0.set st.toNat st):=by
 have hl:=(iO.1 hs).1;refine⟨Za,(Z8 _ _),fun x hx=>?_,fun j=>?_,YF.2 rfl⟩
 . rw[YF] at hx;subst hx;exact⟨⟨h0,hl⟩,hs,.refl⟩
 . rw[Zg];by_cases e:st.toNat=j
   . subst e;rw[YG rfl,YG hl,YG (by rw[YF];omega)]
   . rw[YL e,YL (by rw[YF];omega)]
variable {f L:List Int}
theorem HangI.neg (h:HangI S L0 st f L) (h0:0<=st) {r:Int} (hr:0<=r) (hn:L[r.toNat]?=some (-1)):r∉f∧L0[r.toNat]?=some (-1):=by
 have:=h.val r.toNat;rw[hn] at this;split at this
 . cases this;omega
 . rename_i e;exact⟨fun hm=>e (by rwa [ZI hr]),this.symm⟩
theorem HangI.push (h:HangI S L0 st f L) (h0:0<=st) {x r:Int} (hx:x∈f) (hr:r∈rowZ S x) (hr0:0<=r) (hn:L[r.toNat]?=some (-1)):HangI S L0 st (f++[r]) (L.set r.toNat st):=by
 obtain⟨h1,h2⟩:=h.neg h0 hr0 hn;have hl:=(iO.1 hn).1;refine⟨by rw[Za];exact h.len,aaa.2 ⟨h.nd,(Z8 _ _),fun a ha b hb=>?_⟩,fun y hy=>?_,fun j=>?_,Zi _ h.start⟩
 . rw[YF] at hb;subst hb;exact fun e=>h1 (e▸ha)
 . rcases YM.1 hy with hy|hy
   . exact h.mem y hy
   . rw[YF] at hy;subst hy;exact⟨⟨hr0,by have:=h.len;omega⟩,h2,.step (h.mem x hx).2.2 hr h2⟩
 . rw[Zg];by_cases e:r.toNat=j
   . subst e;rw[YG rfl,YG hl,YG (ZU _ (by rw[YF];omega))]
   . rw[YL e,h.val j];have hiff:((j:Nat):Int)∈f↔((j:Nat):Int)∈f++[r]:=by rw[YM,YF];exact⟨.inl,fun h=>h.resolve_right A0b ⟩
     simp only[hiff]
theorem Hx {x:List Int} (h:zb S L x) (h0:0<=st) (i:Nat):zb S (L.set i st) x:=fun y hy r hr e=>by
 rw[Zg] at e;split at e
 . split at e
   . cases e;omega
   . cases e
 . exact h y hy r hr e
variable {n:Nat}
theorem Hy {E:Env} {el by':Nat} {z:List V} (h1:bm E.P el=some n) (hby:bT E.P el=some by') (hz:ay E.P el=some z) (h4:n≠0) (h5:z.length=n) {es:List V} {v:V} (hc:v.cells.all V.cell=true) (hb:(es.length+1)*by'<=140737488355328) (hl:es.length+1<=9223372036854775807) (hne:es≠[]) (st:St) (d tok:Nat) (nl:Bool) (t':Option Nat):
 bq E st (some d) el (.sl false n es (some tok)) (.sl nl n [v] t')=some ⟨upd (strip tok (strip d st.t)) d (.sl false n (es++[v]) (some d)),aB E tok (aB E d st.b)⟩:=by
 have:=cZ h1 hby hz h4 h5 hc hb hl st d tok nl t'
 rwa [show es.isEmpty=false by cases es<;>simp_all] at this
theorem Hz:cn (bP [] [] [] (fun d=>d==16) (fun _=>false)) 37 Md:=by
 refine cg (F:={F:=fun _=>none,D:=fun _=>false}) (n:=51) (k:=3) (bw [] [] [] _ _ trivial trivial trivial) A0a (fun f C e=>by cases e) (fun t s C e=>by cases e) Tryz.func37 rfl (fun a w=>Tryz.call37 a w) Tryz.ntmps37 A0c A0c A0a ?_;rintro us H T ⟨C,R,S,st,g,L0,ty,rfl,⟨hSl,hn4,hS⟩,hH,h0,hs,hT⟩ hdat;clear hdat;refine⟨rfl,?_⟩;have hl0:=(iO.1 hs).1;have c0:=aU hH;have hx:∀{L:List Int} {i:Int},0<=i->(((L.map iv).map V.x)[i.toNat]?=(L[i.toNat]?).map aq):=fun {L i} _=>by rw[ZT,Io];rfl
 simp only[gD];have z52:o5 Tryz.prog 41=some 1:=A0a
 have hl1:st<(L0.length:Int):=A0b
 have hl2:st.toNat+1<=L0.length:=A0b
 have hsp0:eR (L0.map iv) st.toNat [.int .i64 st]=(L0.set st.toNat st).map iv:=by rw[cE _ _ _ A0v,aaR]
 simp +decide (maxDischargeDepth:=200) only[go_sem,Nat.reduceBEq,z52,YP,YC,eq,c0,h0,hl1,hl2,hsp0];refine bp (X:={q:Nat×List Int×List Int×Nat//HangI S L0 st q.2.1 q.2.2.1∧q.1<=q.2.1.length∧zb S q.2.2.1 (q.2.1.take q.1)}) (fun q=>[(1,aq st),(2,.x (.slice (some ⟨g,0,none⟩) L0.length L0.length)),(3,.ptr 3 0),(7,.sl false 1 (q.1.2.1.map aq) (some q.1.2.2.2)),(8,aq ((q.1.1:Nat):Int))]) (fun _=>[(3,[.sl false 3 (C.map aa) none,.sl false 1 (R.map rI) none,.sl false 1 (S.map rI) none])]) (fun q H'=>(∀y,y≠g->H' y=H y)∧H' g=some (rowO (q.1.2.2.1.map iv) ty)) (fun q=>L0.length-q.1.1) ⟨(0,[st],L0.set st.toNat st,16),.first h0 hs,Zf _,fun y hy=>by simp at hy⟩ A0d A0d ⟨fun y hy=>ag _ _ hy,aj _ _ _⟩ ?_;rintro⟨⟨i,f,L,tok⟩,hI,hi,hc⟩ H1 ⟨hH1,hH2⟩;simp only at hI hi hc hH1 hH2⊢;have hfl:f.length<=L0.length:=cO hI.nd (fun x hx=>(hI.mem x hx).1);by_cases hil:i<f.length
 case neg=>have d1:decide ((i:Int)<(f.length:Int))=false:=YA A0b;rw[YS A0b] at hc;simp +decide (maxDischargeDepth:=200) only[go_sem,Nat.reduceBEq,eq,d1];exact hT f L H1 hI hc hH1 hH2
 have d1:decide ((i:Int)<(f.length:Int))=true:=Yz A0b;have d2:(0:Int)<=(i:Int):=A0b
 have d3:(i:Int)<(f.length:Int):=A0b
 have d4:=aD (i:=i) A0b;have q1:f[i]?=some f[i]:=io hil;have q2:(f.map aq)[((i:Nat):Int).toNat]?=some (aq f[i]):=by rw[tl,Io,q1];rfl
 have hxm:f[i]∈f:=Y5 hil;generalize f[i]=x at q1 q2 hxm;obtain⟨⟨x0,xl⟩,_,_⟩:=hI.mem x hxm;have b2:x<(S.length:Int):=A0b
 obtain⟨rs,hrs⟩:∃rs,S[x.toNat]?=some rs:=⟨_,io A0b ⟩;have hrz:rowZ S x=rs:=by unfold rowZ;rw[hrs];rfl
 obtain⟨hr8,hrr⟩:=hS rs (YB hrs)
 obtain⟨b,z,hbz,hz1⟩:∃b z,rI rs= .sl b z (rs.map aq) none∧(rs≠[]->z=1):=⟨_,_,rfl,fun h=>by unfold SO;cases rs with
  |nil=>exact absurd rfl h
  |cons _ _=>rfl⟩
 have a2:(S.map rI)[x.toNat]?=some (.sl b z (rs.map aq) none):=by rw[Io,hrs,<-hbz];rfl
 simp +decide (maxDischargeDepth:=200) only[go_sem,Nat.reduceBEq,eq,d1,d2,d3,q2,x0,b2,a2];refine bp (X:={q:Nat×List Int×List Int×Nat//HangI S L0 st q.2.1 q.2.2.1∧q.1<=rs.length∧(∃e,q.2.1=f++e)∧zb S q.2.2.1 (f.take i)∧∀r∈rs.take q.1,q.2.2.1[r.toNat]?≠some (-1)}) (fun q=>[(1,aq st),(2,.x (.slice (some ⟨g,0,none⟩) L0.length L0.length)),(3,.ptr 3 0),(7,.sl false 1 (q.1.2.1.map aq) (some q.1.2.2.2)),(8,aq (i:Int)),(30,.sl b z (rs.map aq) none),(31,aq (rs.length:Int)),(32,aq ((q.1.1:Nat):Int))]) (fun _=>[(3,[.sl false 3 (C.map aa) none,.sl false 1 (R.map rI) none,.sl false 1 (S.map rI) none])]) (fun q H'=>(∀y,y≠g->H' y=H y)∧H' g=some (rowO (q.1.2.2.1.map iv) ty)) (fun q=>rs.length-q.1.1) ⟨(0,f,L,tok),hI,Zf _,⟨[],(Z9 _).symm⟩,hc,fun r hr=>by simp at hr⟩ A0d A0d ⟨hH1,hH2⟩ ?_;clear hI hi hc hH1 hH2 H1 hfl;rintro⟨⟨k,f1,L1,tk⟩,hI,hk,⟨e,he⟩,hc,hdone⟩ H1 ⟨hH1,hH2⟩;simp only at hI hk he hc hdone hH1 hH2⊢;have hfl:f1.length<=L0.length:=cO hI.nd (fun x hx=>(hI.mem x hx).1);by_cases hkl:k<rs.length
 case neg=>
  have e1:decide ((k:Int)<(rs.length:Int))=false:=YA A0b;rw[YS A0b] at hdone;simp +decide (maxDischargeDepth:=200) only[go_sem,Nat.reduceBEq,eq,e1,d4];have hi1:i+1<=f1.length:=by rw[he,YD];omega
  refine⟨⟨(i+1,f1,L1,tk),hI,hi1,fun y hy=>?_⟩,⟨?_,?_,hH1,hH2⟩,by simp only;omega⟩
  . simp only[he] at hy⊢;rw[Zx A0b,aF q1,YM,YF] at hy;rcases hy with hy|rfl
    . exact hc y hy
    . rw[hrz];exact hdone
  . simp +decide (maxDischargeDepth:=200) only[go_sem,Nat.reduceBEq]
  . simp +decide (maxDischargeDepth:=200) only[go_sem,Nat.reduceBEq]
 obtain rfl:=hz1 (fun h=>by rw[h] at hkl;cases hkl);have e1:decide ((k:Int)<(rs.length:Int))=true:=Yz A0b;have e2:(0:Int)<=(k:Int):=A0b
 have e3:(k:Int)<(rs.length:Int):=A0b
 have e4:=aD (i:=k) A0b;have p1:rs[k]?=some rs[k]:=io hkl;have p2:(rs.map aq)[((k:Nat):Int).toNat]?=some (aq rs[k]):=by rw[tl,Io,p1];rfl
 have hrm:rs[k]∈rs:=Y5 hkl;generalize rs[k]=r at p1 p2 hrm;obtain⟨r0,rl⟩:=hrr r hrm;have r2:r<(L0.length:Int):=A0b
 have r3:r.toNat+1<=L1.length:=by have:=hI.len;omega
 have c1:=aU hH2;obtain⟨y,hy⟩:∃y,L1[r.toNat]?=some y:=⟨_,io A0b ⟩;have p4:((L1.map iv).map V.x)[r.toNat]?=some (aq y):=by rw[ZT,Io,hy];rfl
 have hxf:x∈f1:=by rw[he];exact Zi _ hxm
 by_cases hyn:y= -1
 case neg=>
  have e5:decide (y= -1)=false:=YA hyn;simp +decide (maxDischargeDepth:=200) only[go_sem,Nat.reduceBEq,z52,YP,YC,eq,c1,e1,e2,e3,e4,p2,p4,r0,r2,e5];refine⟨⟨(k+1,f1,L1,tk),hI,hkl,⟨e,he⟩,hc,fun r' hr'=>?_⟩,⟨?_,?_,hH1,hH2⟩,by simp only;omega⟩
  . simp only at hr'⊢;rw[aF p1,YM,YF] at hr';rcases hr' with hr'|rfl
    . exact hdone r' hr'
    . rw[hy];exact fun h=>hyn (by cases h;rfl)
  . simp +decide (maxDischargeDepth:=200) only[go_sem,Nat.reduceBEq]
  . simp +decide (maxDischargeDepth:=200) only[go_sem,Nat.reduceBEq]
 subst hyn;have hI2:=hI.push h0 hxf (hrz▸hrm) r0 hy;have hfl2:(f1++[r]).length<=L0.length:=cO hI2.nd (fun x hx=>(hI2.mem x hx).1);rw[YD,Zv] at hfl2;have g1:=Hy (E:=(bP [] [] [] (fun d=>d==16) (fun _=>false))) (el:=3) (n:=1) OT OU OV A0c rfl (es:=f1.map aq) (v:=aq r) rfl A0v A0v (by rw[he];intro h;have:=List.map_eq_nil_iff.1 h;simp at this;rw[this.1] at hxm;cases hxm);have hsp:eR (L1.map iv) r.toNat [.int .i64 st]=(L1.set r.toNat st).map iv:=by rw[cE _ _ _ A0v,aaR]
 simp +decide (maxDischargeDepth:=200) only[go_sem,Nat.reduceBEq,z52,YP,YC,eq,c1,e1,e2,e3,e4,p2,p4,r0,r2,r3,g1,hsp];refine⟨⟨(k+1,f1++[r],L1.set r.toNat st,48),hI2,hkl,⟨e++[r],by rw[he,Zw]⟩,Hx hc h0 _,fun r' hr'=>?_⟩,⟨?_,?_,fun y hy=>(ag _ _ hy).trans (hH1 y hy),aj _ _ _⟩,by simp only;omega⟩
 . simp only at hr'⊢;rw[aF p1,YM,YF] at hr';rw[Zg];intro h;split at h
   . split at h
     . cases h;omega
     . cases h
   . rename_i hne;rcases hr' with hr'|rfl
     . exact hdone r' hr' h
     . exact hne rfl
 . simp +decide (maxDischargeDepth:=200) only[go_sem,Nat.reduceBEq,Y4]
 . simp +decide (maxDischargeDepth:=200) only[go_sem,Nat.reduceBEq]
theorem qi (rs:List Int):∃b z,rI rs= .sl b z (rs.map aq) none∧(rs≠[]->z=1):=⟨_,_,rfl,fun h=>by
 unfold SO;cases rs with
 |nil=>exact absurd rfl h
 |cons _ _=>rfl⟩
theorem fa {α:Type} (f:Nat->α) (i:Nat) (a b:α):upd (upd f i a) i b=upd f i b:=by funext k;rw[aE,aE,aE];split<;>rfl
def atI (l:List Int) (i:Int):Int:=(l[i.toNat]?).getD 0
variable {l:List Int}
theorem eu {i x:Int} (h:l[i.toNat]?=some x):atI l i=x:=by unfold atI;rw[h];rfl
theorem eS {i:Nat} {x:Int} (h:l[i]?=some x):atI l (i:Int)=x:=eu (by rwa [tl])
def w1 (h:List Int) (a:Int) (W:List Int) (r:Int):List Int:=if atI h r=a then W else W.set a.toNat (atI W a+1)
def Lh (R:List (List Int)) (h W:List Int) (i:Nat):List Int:=(rowZ R (i:Int)).foldl (w1 h (atI h (i:Int))) W
def bf (R:List (List Int)) (h:List Int) (n:Nat):List Int:=(List.range n).foldl (Lh R h) (List.replicate h.length 0)
theorem mc (R:List (List Int)) (h:List Int) (i:Nat):bf R h (i+1)=Lh R h (bf R h i) i:=by unfold bf;rw[aaC,aan];rfl
def HA (us:List V) (H:HH) (T:V->HH->Prop):Prop:=∃C R S hs,us=[gD C R S,.sl false 1 (hs.map aq) none]∧bK hs.length R∧(∀x∈hs,0<=x∧x.toNat<hs.length)∧
 ∀g ty,H g=none->T (.x (.slice (some ⟨g,0,none⟩) hs.length hs.length)) (upd H g (some (rowO ((bf R hs hs.length).map iv) ty)))
def okWt (n:Nat) (m:Int) (W:List Int):Prop:=W.length=n∧∀x∈W,0<=x∧x<=m
variable {m:Int} {W:List Int}
theorem okWt.mono {m':Int} (h:okWt n m W) (hm:m<=m'):okWt n m' W:=⟨h.1,fun x hx=>⟨(h.2 x hx).1,by have:=(h.2 x hx).2;omega⟩⟩
theorem okWt.set (h:okWt n m W) (i:Nat) {x:Int} (hx:0<=x∧x<=m):okWt n m (W.set i x):=⟨by rw[Za];exact h.1,fun y hy=>by
 rcases aaT hy with hy|rfl
 . exact h.2 y hy
 . exact hx⟩
theorem Dt:cn (bP [] [] [] (fun _=>false) (fun _=>false)) 20 HA:=by
 refine cg (F:={F:=fun _=>none,D:=fun d=>d==12}) (n:=45) (k:=2) (bw [] [] [] _ _ trivial trivial trivial) A0a (fun f C e=>by cases e) (fun t s C e=>by cases e) Tryz.func20 rfl (fun a w=>Tryz.call20 a w) Tryz.ntmps20 A0c A0c A0a ?_;rintro us H T ⟨C,R,S,hs,rfl,⟨hRl,hn4,hR⟩,hh,hT⟩ hdat;clear hdat;refine⟨rfl,?_⟩;simp only[gD];have m52:KW Tryz.prog 41=some (3,1,8,.int .i64 0):=A0a
 have z52:o5 Tryz.prog 41=some 1:=A0a
 have l1:((8:Nat):Int)*(hs.length:Int)<=281474976710656:=A0b
 have l2:(hs.length:Int)<=9223372036854775807:=A0b
 have l3:(0:Int)<=(hs.length:Int):=A0b
 simp +decide (maxDischargeDepth:=200) only[go_sem,Nat.reduceBEq,m52,z52,eq,l1,l2,l3,tl,YP];intro g hg;refine bp (X:={i:Nat//i<=hs.length∧okWt hs.length ((i:Int)*100000000) (bf R hs i)}) (fun i=>[(1,.sl false 1 (hs.map aq) none),(2,.ptr 2 0),(5,.x (.slice (some ⟨g,0,none⟩) hs.length hs.length)),(13,.sl false 1 (hs.map aq) none),(14,aq (hs.length:Int)),(15,aq ((i.1:Nat):Int))]) (fun _=>[(2,[.sl false 3 (C.map aa) none,.sl false 1 (R.map rI) none,.sl false 1 (S.map rI) none])]) (fun i H'=>H'=upd H g (some (rowO ((bf R hs i.1).map iv) 3))) (fun i=>hs.length-i.1) ⟨0,Zf _,by simp[bf],fun x hx=>by simp[bf] at hx;omega⟩ A0d A0d (by show upd H g _=_;simp[bf]) ?_;rintro⟨i,hi,hW⟩ H1 rfl;simp only at hi hW⊢;by_cases hil:i<hs.length
 case neg=>
  obtain rfl:i=hs.length:=A0b
  have d1:decide ((hs.length:Int)<(hs.length:Int))=false:=YA A0b;simp +decide (maxDischargeDepth:=200) only[go_sem,Nat.reduceBEq,eq,d1];exact hT g _ hg
 have d1:decide ((i:Int)<(hs.length:Int))=true:=Yz A0b;have d2:(0:Int)<=(i:Int):=A0b
 have d3:(i:Int)<(hs.length:Int):=A0b
 have d4:=aD (i:=i) A0b;have q1:hs[i]?=some hs[i]:=io hil;have q2:(hs.map aq)[((i:Nat):Int).toNat]?=some (aq hs[i]):=by rw[tl,Io,q1];rfl
 have qm:hs[i]∈hs:=Y5 hil;generalize hs[i]=a at q1 q2 qm;obtain⟨a0,al⟩:=hh a qm;have i2:(i:Int)<(R.length:Int):=A0b
 obtain⟨rs,hrsr⟩:∃rs,R[((i:Nat):Int).toNat]?=some rs:=⟨_,io A0b ⟩;obtain⟨br,zr,hbzr,hzr⟩:∃b z,rI rs= .sl b z (rs.map aq) none∧(rs≠[]->z=1):=qi rs;have arr:(R.map rI)[((i:Nat):Int).toNat]?=some (.sl br zr (rs.map aq) none):=by rw[Io,hrsr,<-hbzr];rfl
 obtain⟨hr8,hrr⟩:=hR rs (YB hrsr);have hrz:rowZ R (i:Int)=rs:=by unfold rowZ;rw[hrsr];rfl
 have hai:atI hs (i:Int)=a:=eS q1;simp +decide (maxDischargeDepth:=200) only[go_sem,Nat.reduceBEq,eq,d1,d2,d3,q2,i2,arr];refine bp (X:={k:Nat//k<=rs.length∧okWt hs.length ((i:Int)*100000000+(k:Int)) ((rs.take k).foldl (w1 hs a) (bf R hs i))}) (fun k=>[(1,.sl false 1 (hs.map aq) none),(2,.ptr 2 0),(5,.x (.slice (some ⟨g,0,none⟩) hs.length hs.length)),(7,aq a),(13,.sl false 1 (hs.map aq) none),(14,aq (hs.length:Int)),(15,aq (i:Int)),(24,.sl br zr (rs.map aq) none),(25,aq (rs.length:Int)),(26,aq ((k.1:Nat):Int))]) (fun _=>[(2,[.sl false 3 (C.map aa) none,.sl false 1 (R.map rI) none,.sl false 1 (S.map rI) none])]) (fun k H'=>H'=upd H g (some (rowO (((rs.take k.1).foldl (w1 hs a) (bf R hs i)).map iv) 3))) (fun k=>rs.length-k.1) ⟨0,Zf _,by simpa using hW⟩ A0d A0d A0j ?_;rintro⟨k,hk,hW1⟩ H1 rfl;simp only at hk hW1⊢;by_cases hkl:k<rs.length
 case neg=>
  have e1:decide ((k:Int)<(rs.length:Int))=false:=YA A0b;rw[YS A0b] at hW1⊢;have hs1:bf R hs (i+1)=rs.foldl (w1 hs a) (bf R hs i):=by rw[mc];unfold Lh;rw[hrz,hai]
  simp +decide (maxDischargeDepth:=200) only[go_sem,Nat.reduceBEq,eq,e1,d4];refine⟨⟨i+1,hil,by rw[hs1];exact hW1.mono A0b ⟩,⟨?_,?_,by simp only[hs1]⟩,by simp only;omega⟩
  . simp +decide (maxDischargeDepth:=200) only[go_sem,Nat.reduceBEq]
  . simp +decide (maxDischargeDepth:=200) only[go_sem,Nat.reduceBEq]
 obtain rfl:=hzr (fun h=>by rw[h] at hkl;cases hkl);have e1:decide ((k:Int)<(rs.length:Int))=true:=Yz A0b;have e2:(0:Int)<=(k:Int):=A0b
 have e3:(k:Int)<(rs.length:Int):=A0b
 have e4:=aD (i:=k) A0b;have p1:rs[k]?=some rs[k]:=io hkl;have p2:(rs.map aq)[((k:Nat):Int).toNat]?=some (aq rs[k]):=by rw[tl,Io,p1];rfl
 have pm:rs[k]∈rs:=Y5 hkl;generalize rs[k]=r at p1 p2 pm;obtain⟨r0,rl⟩:=hrr r pm;have r2:r<(hs.length:Int):=A0b
 obtain⟨y,hy⟩:∃y,hs[r.toNat]?=some y:=⟨_,io rl⟩;have p4:(hs.map aq)[r.toNat]?=some (aq y):=by rw[Io,hy];rfl
 have hst:(rs.take (k+1)).foldl (w1 hs a) (bf R hs i)=w1 hs a ((rs.take k).foldl (w1 hs a) (bf R hs i)) r:=by rw[aF p1,aan];rfl
 generalize hWW:(rs.take k).foldl (w1 hs a) (bf R hs i)=W at hW1 hst⊢;by_cases hya:y=a
 . have hst':(rs.take (k+1)).foldl (w1 hs a) (bf R hs i)=W:=by rw[hst];exact YG ((eu hy).trans hya)
   have e5:decide (y=a)=true:=Yz hya;simp +decide (maxDischargeDepth:=200) only[go_sem,Nat.reduceBEq,eq,e1,e2,e3,e4,p2,p4,r0,r2,e5,aao];refine⟨⟨k+1,hkl,by rw[hst'];exact hW1.mono A0b ⟩,⟨?_,?_,by simp only[hst']⟩,by simp only;omega⟩
   . simp +decide (maxDischargeDepth:=200) only[go_sem,Nat.reduceBEq]
   . simp +decide (maxDischargeDepth:=200) only[go_sem,Nat.reduceBEq]
 have e5:decide (y=a)=false:=YA hya;have hst':(rs.take (k+1)).foldl (w1 hs a) (bf R hs i)=W.set a.toNat (atI W a+1):=by rw[hst];exact YL (by rw[eu hy];exact hya)
 have aL:a.toNat<W.length:=by rw[hW1.1];exact al
 obtain⟨v,hv⟩:∃v,W[a.toNat]?=some v:=⟨_,io aL⟩;rw[eu hv] at hst';obtain⟨v0,v1⟩:=hW1.2 v (YB hv);have v2:aw .i64 (v+1)=v+1:=ak A0h;have c1:=aU (H:=upd H g (some (rowO (W.map iv) 3))) (aj _ _ _);have p5:((W.map iv).map V.x)[a.toNat]?=some (aq v):=by rw[ZT,Io,hv];rfl
 have a2:a<(hs.length:Int):=A0b
 have a3:a.toNat+1<=W.length:=aL;have hsp:eR (W.map iv) a.toNat [.int .i64 (v+1)]=(W.set a.toNat (v+1)).map iv:=by rw[cE _ _ _ (by rw[eq];exact aL),aaR]
 simp +decide (maxDischargeDepth:=200) only[go_sem,Nat.reduceBEq,z52,YP,YC,eq,e1,e2,e3,e4,p2,p4,p5,r0,r2,e5,c1,a0,a2,a3,v2,hsp,aa2];refine⟨⟨k+1,hkl,by rw[hst'];exact(hW1.mono A0b).set _ A0b ⟩,⟨?_,?_,by simp only[hst',fa]⟩,by simp only;omega⟩
 . simp +decide (maxDischargeDepth:=200) only[go_sem,Nat.reduceBEq]
 . simp +decide (maxDischargeDepth:=200) only[go_sem,Nat.reduceBEq]
def SS (us:List V) (H:HH) (T:V->HH->Prop):Prop:=∃a l c,us=[.x (.slice a l c)]∧T (aq (l:Int)) H
variable {H:HH} {v:Value} {es:List Int}
theorem RowJ.cell {i:Nat} {x:Int} (h:RowJ H v es) (hi:es[i]?=some x):∃g cap l ty,v= .slice (some ⟨g,0,none⟩) es.length cap∧H g=some (rowO l ty)∧es.length<=cap∧l.length=cap∧∀(j:Nat) (y:Int),es[j]?=some y->l[j]?=some (iv y):=by
 rcases h with⟨rfl,_⟩|⟨g,cap,cur,ty,rfl,hH,hc,hs,hl⟩
 . cases hi
 . exact⟨g,cap,cur.toList,ty,rfl,by rw[hH];simp[rowO],hc,by simpa using hs,fun j y hj=>by rw[YV];exact hl j y hj⟩
def SU (us:List V) (H:HH) (T:V->HH->Prop):Prop:=∃v es i j x y,us=[.x v,aq ((i:Nat):Int),aq ((j:Nat):Int)]∧RowJ H v es∧es[i]?=some x∧es[j]?=some y∧T (.x (.bool (decide (x<y)))) H
def cY (es:List Int) (i j:Nat) (x y:Int):List Int:=(es.set i y).set j x
def SV (us:List V) (H:HH) (T:V->HH->Prop):Prop:=∃v es i j x y,us=[.x v,aq ((i:Nat):Int),aq ((j:Nat):Int)]∧RowJ H v es∧es[i]?=some x∧es[j]?=some y∧∀g ob,blkOf v=some g->RowJ (upd H g (some ob)) v (cY es i j x y)->T (.tup []) (upd H g (some ob))
theorem vu:cn (bP [] [] [] (fun _=>false) (fun _=>false)) 22 SS:=by
 refine cg (F:={F:=fun _=>none,D:=fun _=>false}) (n:=5) (k:=1) (bw [] [] [] _ _ trivial trivial trivial) A0a (fun f C e=>by cases e) (fun t s C e=>by cases e) Tryz.func22 rfl (fun a w=>Tryz.call22 a w) Tryz.ntmps22 A0c A0c A0a ?_;rintro us H T ⟨a,l,c,rfl,hT⟩ hdat;refine⟨rfl,?_⟩;have z73:o5 Tryz.prog 60=some 1:=A0a
 simp +decide (maxDischargeDepth:=200) only[go_sem,Nat.reduceBEq,z73];exact hT
def SW (v:Value) (g i j:Nat) (x y:Int):Nat->V
 |7=> .x v|8=>aq (i:Int)|9=> .x (.pointer (some ⟨g,i,none⟩))|10=>aq x|11=> .x v|12=>aq (j:Int)|13=> .x (.pointer (some ⟨g,j,none⟩))|14=>aq y|_=> .x (.bool (decide (x<y)))
theorem Du:cn (bP [] [] [] (fun _=>false) (fun _=>false)) 130 SU:=by
 refine cg (F:={F:=fun _=>none,D:=fun _=>false,any:=fun i=>i==1}) (n:=16) (k:=3) (bw [] [] [] _ _ trivial trivial trivial) A0a (fun f C e=>by cases e) (fun t s C e=>by cases e) Tryz.func130 rfl (fun a w=>Tryz.call130 a w) Tryz.ntmps130 A0c A0c A0a ?_;rintro us H T ⟨v,es,i,j,x,y,rfl,hr,hi,hj,hT⟩ hdat;clear hdat;refine⟨rfl,?_⟩;have z73:o5 Tryz.prog 60=some 1:=A0a
 obtain⟨g,cap,l,ty,rfl,hH,hc,hl,hcell⟩:=hr.cell hi;have c1:=aU hH;have il:=(iO.1 hi).1;have jl:=(iO.1 hj).1;have p1:(l.map V.x)[i]?=some (aq x):=by rw[Io,hcell i x hi];rfl
 have p2:(l.map V.x)[j]?=some (aq y):=by rw[Io,hcell j y hj];rfl
 have i0:(0:Int)<=(i:Int):=A0b
 have j0:(0:Int)<=(j:Int):=A0b
 have i1:(i:Int)<(es.length:Int):=A0b
 have j1:(j:Int)<(es.length:Int):=A0b
 simp +decide (maxDischargeDepth:=200) only[go_sem,Nat.reduceBEq];refine lh (fun k=>match k with|2=>[7,8]|3=>[9]|6=>[11,12]|7=>[13]|8=>[10,14]|9=>[15]|_=>[]) (SW (.slice (some ⟨g,0,none⟩) es.length cap) g i j x y) [(6,.x (.bool (decide (x<y))))] [] A0a A0a ?_ ?_
 . intro st k o ho hn hb hbb;have b0:st.t 0= .x (.slice (some ⟨g,0,none⟩) es.length cap):=hb 0 A0a;have b1:st.t 1=aq (i:Int):=hb 1 A0a;have b2:st.t 2=aq (j:Int):=hb 2 A0a;clear hb;rcases k with _|_|_|_|_|_|_|_|_|_|k
   . cases ho;simp +decide (maxDischargeDepth:=200) only[go_sem,Nat.reduceBEq,b0,b1,b2,z73,c1,p1,p2,i0,i1,j0,j1,YP,YC,tl];exact⟨_,fun _ _=>rfl,rfl,Le.refl _⟩
   . cases ho;simp +decide (maxDischargeDepth:=200) only[go_sem,Nat.reduceBEq,b0,b1,b2,z73,c1,p1,p2,i0,i1,j0,j1,YP,YC,tl];exact⟨_,fun _ _=>rfl,rfl,Le.refl _⟩
   . cases ho;have h7:st.t 7= .x (.slice (some ⟨g,0,none⟩) es.length cap):=hn 7 A0c;have h8:st.t 8=aq (i:Int):=hn 8 A0c;simp +decide (maxDischargeDepth:=200) only[go_sem,Nat.reduceBEq,b0,b1,b2,h7,h8,z73,c1,p1,p2,i0,i1,j0,j1,YP,YC,tl];exact⟨_,fun _ _=>rfl,rfl,Le.refl _⟩
   . cases ho;have h9:st.t 9= .x (.pointer (some ⟨g,i,none⟩)):=hn 9 A0c;simp +decide (maxDischargeDepth:=200) only[go_sem,Nat.reduceBEq,b0,b1,b2,h9,z73,c1,p1,p2,i0,i1,j0,j1,YP,YC,tl];exact⟨_,fun _ _=>rfl,rfl,Le.refl _⟩
   . cases ho;simp +decide (maxDischargeDepth:=200) only[go_sem,Nat.reduceBEq,b0,b1,b2,z73,c1,p1,p2,i0,i1,j0,j1,YP,YC,tl];exact⟨_,fun _ _=>rfl,rfl,Le.refl _⟩
   . cases ho;simp +decide (maxDischargeDepth:=200) only[go_sem,Nat.reduceBEq,b0,b1,b2,z73,c1,p1,p2,i0,i1,j0,j1,YP,YC,tl];exact⟨_,fun _ _=>rfl,rfl,Le.refl _⟩
   . cases ho;have h11:st.t 11= .x (.slice (some ⟨g,0,none⟩) es.length cap):=hn 11 A0c;have h12:st.t 12=aq (j:Int):=hn 12 A0c;simp +decide (maxDischargeDepth:=200) only[go_sem,Nat.reduceBEq,b0,b1,b2,h11,h12,z73,c1,p1,p2,i0,i1,j0,j1,YP,YC,tl];exact⟨_,fun _ _=>rfl,rfl,Le.refl _⟩
   . cases ho;have h13:st.t 13= .x (.pointer (some ⟨g,j,none⟩)):=hn 13 A0c;simp +decide (maxDischargeDepth:=200) only[go_sem,Nat.reduceBEq,b0,b1,b2,h13,z73,c1,p1,p2,i0,i1,j0,j1,YP,YC,tl];exact⟨_,fun _ _=>rfl,rfl,Le.refl _⟩
   . cases ho;have h10:st.t 10=aq x:=hn 10 A0c;have h14:st.t 14=aq y:=hn 14 A0c;simp +decide (maxDischargeDepth:=200) only[go_sem,Nat.reduceBEq,b0,b1,b2,h10,h14,z73,c1,p1,p2,i0,i1,j0,j1,YP,YC,tl];exact⟨_,fun _ _=>rfl,rfl,Le.refl _⟩
   . cases ho;have h15:st.t 15= .x (.bool (decide (x<y))):=hn 15 A0c;simp +decide (maxDischargeDepth:=200) only[go_sem,Nat.reduceBEq,b0,b1,b2,h15,z73,c1,p1,p2,i0,i1,j0,j1,YP,YC,tl];exact⟨_,fun _ _=>rfl,rfl,Le.refl _⟩
   . cases ho
 . refine⟨⟨eL A0a,trivial⟩,trivial,?_⟩;simp +decide (maxDischargeDepth:=200) only[go_sem,Nat.reduceBEq];exact hT
variable {k:Nat}
theorem cR {ops:List Oper} {L:Nat} {o:Oper} (hcl:ClosedM ops L) (ho:ops[n]?=some o) (hk:(directV o).contains k=true) (hb:L.testBit k=false):L.testBit n=false:=by
 cases h:L.testBit n with
 |false=>rfl
 |true=>have:=hcl n o ho h k A1f;rw[hb] at this;cases this
def SX (v:Value) (g i j:Nat) (x y:Int):Nat->V
 |6=> .x v
 |7=>aq (i:Int)
 |8=> .x v
 |9=>aq (j:Int)
 |10=> .x v
 |11=>aq (j:Int)
 |12=> .x (.pointer (some ⟨g,j,none⟩))
 |13=>aq y
 |14=> .x v
 |15=>aq (i:Int)
 |16=> .x (.pointer (some ⟨g,i,none⟩))
 |17=>aq x
 |18=> .x (.pointer (some ⟨g,i,none⟩))
 |19=> .x (.pointer (some ⟨g,j,none⟩))
 |_=> .undef
def dN (l:List Value) (i j:Nat) (x y:Int) (L:Nat):List Value:=
 if L.testBit 15=true then (if L.testBit 13=true then l.set i (iv y) else l).set j (iv x) else if L.testBit 13=true then l.set i (iv y) else l
theorem bL (l:List Value) (i j:Nat) (x y:Int) (L:Nat) {k:Nat} (h1:k≠13) (h2:k≠15):dN l i j x y (L|||2^k)=dN l i j x y L:=by unfold dN;rw[av L h1,av L h2]
theorem Dv (l:List Value) (i j:Nat) (x y:Int) (L:Nat):(dN l i j x y L).length=l.length:=by unfold dN;split<;>split<;>simp
theorem ou (l:List Value) (i j:Nat) (x y:Int) {L:Nat} (h1:L.testBit 13=false) (h2:L.testBit 15=false):dN l i j x y L=l:=by unfold dN;simp[h1,h2]
variable {y:Int}
theorem HB {l:List Value} {i j:Nat} {x:Int} (hi:l[i]?=some (iv x)) (hj:l[j]?=some (iv y)) (L:Nat):dN l i j x y (L|||2^13)=(dN l i j x y L).set i (iv y):=by
 have hil:=(iO.1 hi).1;unfold dN;rw[av L (show 13≠15 by decide),cD];simp only[YX];split
 . split
   . by_cases e:i=j
     . subst e;rw[hi] at hj;cases hj;simp
     . rw[List.set_comm _ _ (fun h=>e h.symm)];simp
   . by_cases e:i=j
     . subst e;rw[hi] at hj;cases hj;simp
     . exact List.set_comm _ _ (fun h=>e h)
 . split<;>simp
theorem HC (l:List Value) (i j:Nat) (x y:Int) (L:Nat):dN l i j x y (L|||2^15)=(dN l i j x y L).set j (iv x):=by unfold dN;rw[av L (show 15≠13 by decide),cD];simp only[YX];split<;>split<;>simp
theorem Dw:cn (bP [] [] [] (fun _=>false) (fun _=>false)) 134 SV:=by
 refine cg (F:={F:=fun _=>none,D:=fun _=>false,any:=fun i=>i==0}) (n:=20) (k:=3) (bw [] [] [] _ _ trivial trivial trivial) A0a (fun f C e=>by cases e) (fun t s C e=>by cases e) Tryz.func134 rfl (fun a w=>Tryz.call134 a w) Tryz.ntmps134 A0c A0c A0a ?_;rintro us H T ⟨v,es,i,j,x,y,rfl,hr,hi,hj,hT⟩ hdat;clear hdat;refine⟨rfl,?_⟩;have z73:o5 Tryz.prog 60=some 1:=A0a
 obtain⟨g,cap,l,ty,rfl,hH,hc,hl,hcell⟩:=hr.cell hi;have il:=(iO.1 hi).1;have jl:=(iO.1 hj).1;have li:=hcell i x hi;have lj:=hcell j y hj;have i0:(0:Int)<=(i:Int):=A0b
 have j0:(0:Int)<=(j:Int):=A0b
 have i1:(i:Int)<(es.length:Int):=A0b
 have j1:(j:Int)<(es.length:Int):=A0b
 have i2:i+1<=l.length:=A0b
 have j2:j+1<=l.length:=A0b
 simp +decide (maxDischargeDepth:=200) only[go_sem,Nat.reduceBEq];refine jg (fun k=>match k with|6=>[10,11]|7=>[12]|10=>[14,15]|11=>[16]|12=>[6,7]|13=>[18,13]|14=>[8,9]|15=>[19,17]|_=>[]) (fun L H' val=>val=SX (.slice (some ⟨g,0,none⟩) es.length cap) g i j x y∧(∀q,q≠g->H' q=H q)∧H' g=some (rowO (dN l i j x y L) ty)) _ A0a A0a ⟨rfl,fun _ _=>rfl,by rw[ou _ _ _ _ _ A0j A0j];exact hH⟩ ?_ ?_
 . rintro L k o H' val st ho hb hdd hcl ⟨rfl,hq,hg⟩ hn hbase hbb;have b0:st.t 0= .x (.slice (some ⟨g,0,none⟩) es.length cap):=hbase 0 A0a;have b1:st.t 1=aq (i:Int):=hbase 1 A0a;have b2:st.t 2=aq (j:Int):=hbase 2 A0a;clear hbase hbb hdd;have c1:=aU hg;have hlen:=Dv l i j x y L;rcases k with _|_|_|_|_|_|_|_|_|_|_|_|_|_|_|_|k
   . cases ho;simp +decide (maxDischargeDepth:=200) only[go_sem,Nat.reduceBEq,b0,b1,b2,z73,YP,YC,tl];exact⟨_,fun _ _=>rfl,⟨rfl,hq,by rw[bL _ _ _ _ _ _ A0c A0c];exact hg⟩,Le.refl _⟩
   . cases ho;simp +decide (maxDischargeDepth:=200) only[go_sem,Nat.reduceBEq,b0,b1,b2,z73,YP,YC,tl];exact⟨_,fun _ _=>rfl,⟨rfl,hq,by rw[bL _ _ _ _ _ _ A0c A0c];exact hg⟩,Le.refl _⟩
   . cases ho;simp +decide (maxDischargeDepth:=200) only[go_sem,Nat.reduceBEq,b0,b1,b2,z73,YP,YC,tl];exact⟨_,fun _ _=>rfl,⟨rfl,hq,by rw[bL _ _ _ _ _ _ A0c A0c];exact hg⟩,Le.refl _⟩
   . cases ho;simp +decide (maxDischargeDepth:=200) only[go_sem,Nat.reduceBEq,b0,b1,b2,z73,YP,YC,tl];exact⟨_,fun _ _=>rfl,⟨rfl,hq,by rw[bL _ _ _ _ _ _ A0c A0c];exact hg⟩,Le.refl _⟩
   . cases ho;simp +decide (maxDischargeDepth:=200) only[go_sem,Nat.reduceBEq,b0,b1,b2,z73,YP,YC,tl];exact⟨_,fun _ _=>rfl,⟨rfl,hq,by rw[bL _ _ _ _ _ _ A0c A0c];exact hg⟩,Le.refl _⟩
   . cases ho;simp +decide (maxDischargeDepth:=200) only[go_sem,Nat.reduceBEq,b0,b1,b2,z73,YP,YC,tl];exact⟨_,fun _ _=>rfl,⟨rfl,hq,by rw[bL _ _ _ _ _ _ A0c A0c];exact hg⟩,Le.refl _⟩
   . cases ho;have h10:st.t 10= .x (.slice (some ⟨g,0,none⟩) es.length cap):=hn 10 A0c;have h11:st.t 11=aq (j:Int):=hn 11 A0c;simp +decide (maxDischargeDepth:=200) only[go_sem,Nat.reduceBEq,b0,b1,b2,h10,h11,z73,YP,YC,tl,j0,j1];exact⟨_,fun _ _=>rfl,⟨rfl,hq,by rw[bL _ _ _ _ _ _ A0c A0c];exact hg⟩,Le.refl _⟩
   . cases ho;have h12:st.t 12= .x (.pointer (some ⟨g,j,none⟩)):=hn 12 A0c;have p1:((dN l i j x y L).map V.x)[j]?=some (aq y):=by rw[ou _ _ _ _ _ (cR (n:=13) hcl rfl A0a hb) (cR (n:=15) hcl rfl A0a hb),Io,lj];rfl
     simp +decide (maxDischargeDepth:=200) only[go_sem,Nat.reduceBEq,b0,b1,b2,h12,z73,YP,YC,tl,c1,p1];exact⟨_,fun _ _=>rfl,⟨rfl,hq,by rw[bL _ _ _ _ _ _ A0c A0c];exact hg⟩,Le.refl _⟩
   . cases ho;simp +decide (maxDischargeDepth:=200) only[go_sem,Nat.reduceBEq,b0,b1,b2,z73,YP,YC,tl];exact⟨_,fun _ _=>rfl,⟨rfl,hq,by rw[bL _ _ _ _ _ _ A0c A0c];exact hg⟩,Le.refl _⟩
   . cases ho;simp +decide (maxDischargeDepth:=200) only[go_sem,Nat.reduceBEq,b0,b1,b2,z73,YP,YC,tl];exact⟨_,fun _ _=>rfl,⟨rfl,hq,by rw[bL _ _ _ _ _ _ A0c A0c];exact hg⟩,Le.refl _⟩
   . cases ho;have h14:st.t 14= .x (.slice (some ⟨g,0,none⟩) es.length cap):=hn 14 A0c;have h15:st.t 15=aq (i:Int):=hn 15 A0c;simp +decide (maxDischargeDepth:=200) only[go_sem,Nat.reduceBEq,b0,b1,b2,h14,h15,z73,YP,YC,tl,i0,i1];exact⟨_,fun _ _=>rfl,⟨rfl,hq,by rw[bL _ _ _ _ _ _ A0c A0c];exact hg⟩,Le.refl _⟩
   . cases ho;have h16:st.t 16= .x (.pointer (some ⟨g,i,none⟩)):=hn 16 A0c;have p1:((dN l i j x y L).map V.x)[i]?=some (aq x):=by rw[ou _ _ _ _ _ (cR (n:=13) hcl rfl A0a hb) (cR (n:=15) hcl rfl A0a hb),Io,li];rfl
     simp +decide (maxDischargeDepth:=200) only[go_sem,Nat.reduceBEq,b0,b1,b2,h16,z73,YP,YC,tl,c1,p1];exact⟨_,fun _ _=>rfl,⟨rfl,hq,by rw[bL _ _ _ _ _ _ A0c A0c];exact hg⟩,Le.refl _⟩
   . cases ho;have h6:st.t 6= .x (.slice (some ⟨g,0,none⟩) es.length cap):=hn 6 A0c;have h7:st.t 7=aq (i:Int):=hn 7 A0c;simp +decide (maxDischargeDepth:=200) only[go_sem,Nat.reduceBEq,b0,b1,b2,h6,h7,z73,YP,YC,tl,i0,i1];exact⟨_,fun _ _=>rfl,⟨rfl,hq,by rw[bL _ _ _ _ _ _ A0c A0c];exact hg⟩,Le.refl _⟩
   . cases ho;have h18:st.t 18= .x (.pointer (some ⟨g,i,none⟩)):=hn 18 A0c;have h13:st.t 13=aq y:=hn 13 A0c;have p1:i+1<=(dN l i j x y L).length:=A0b
     simp +decide (maxDischargeDepth:=200) only[go_sem,Nat.reduceBEq,b0,b1,b2,h18,h13,z73,YP,YC,tl,c1,p1];exact⟨_,fun _=>rfl,⟨rfl,fun q h=>(ag _ _ h).trans (hq q h),by rw[HB li lj,cE _ _ _ A0b]⟩,Le.refl _⟩
   . cases ho;have h8:st.t 8= .x (.slice (some ⟨g,0,none⟩) es.length cap):=hn 8 A0c;have h9:st.t 9=aq (j:Int):=hn 9 A0c;simp +decide (maxDischargeDepth:=200) only[go_sem,Nat.reduceBEq,b0,b1,b2,h8,h9,z73,YP,YC,tl,j0,j1];exact⟨_,fun _ _=>rfl,⟨rfl,hq,by rw[bL _ _ _ _ _ _ A0c A0c];exact hg⟩,Le.refl _⟩
   . cases ho;have h19:st.t 19= .x (.pointer (some ⟨g,j,none⟩)):=hn 19 A0c;have h17:st.t 17=aq x:=hn 17 A0c;have p1:j+1<=(dN l i j x y L).length:=A0b
     simp +decide (maxDischargeDepth:=200) only[go_sem,Nat.reduceBEq,b0,b1,b2,h19,h17,z73,YP,YC,tl,c1,p1];exact⟨_,fun _=>rfl,⟨rfl,fun q h=>(ag _ _ h).trans (hq q h),by rw[HC,cE _ _ _ A0b]⟩,Le.refl _⟩
   . cases ho
 . rintro H' val ⟨rfl,hq,hg⟩;refine⟨[],[],trivial,trivial,?_⟩;simp +decide (maxDischargeDepth:=200) only[go_sem,Nat.reduceBEq];have e:H'=upd H g (H' g):=by
    funext q;rw[aE];split
    . rename_i h;rw[h]
    . rename_i h;exact hq q h
   have hfull:H' g=some (rowO ((l.set i (iv y)).set j (iv x)) ty):=hg.trans (by show some (rowO (dN l i j x y 65535) ty)=_;unfold dN;rw[YG A0c,YG A0c])
   rw[e,hfull];have hsl:(cY es i j x y).length=es.length:=by simp[cY]
   refine hT g _ rfl (.inr ⟨g,cap,_,ty,by rw[hsl],aj _ _ _,by rw[hsl];exact hc,by simpa using hl,fun k z hk=>?_⟩);rw[ZL,Zg,Za,Zg];unfold cY at hk;rw[Zg,Za,Zg] at hk;simp only[jl,il,YX] at hk;split at hk
   . rename_i e;cases hk;rw[YG e,YG A0b]
   . rename_i e;rw[YL e];split at hk
     . rename_i e';cases hk;rw[YG e',YG A0b]
     . rename_i e';rw[YL e'];exact hcell k z hk
def QJ (H:HH) (p:Nat) (v:Value) (es:List Int):Prop:=H p=some (rowO [v] 62)∧RowJ H v es∧blkOf v≠some p∧v.oneCell'=true∧es.length<=100000000
def Oth (H H':HH) (p:Nat) (v:Value):Prop:=∀y ob,H y=some ob->y≠p->blkOf v≠some y->H' y=some ob
def Fr (H:HH) (v v':Value):Prop:=∀g,blkOf v'=some g->blkOf v=some g∨H g=none
theorem Oth.step {H H1 H2:HH} {p:Nat} {v v':Value} (h:Oth H H1 p v) (hf:Fr H v v') (k:Oth H1 H2 p v'):Oth H H2 p v:=fun y ob h0 h1 h2=>k y ob (h y ob h0 h1 h2) h1 (fun e=>by
 rcases hf y e with e|e
 . exact h2 e
 . rw[h0] at e;cases e)
theorem RowJ.other (h:RowJ H v es) {g:Nat} {o:Option Obj} (hne:blkOf v≠some g):RowJ (upd H g o) v es:=by refine h.imp id ?_;rintro⟨g',cap,cur,ty,rfl,hH,h⟩;exact⟨g',cap,cur,ty,rfl,by rw[ag _ _ (fun e=>hne (by rw[e];rfl))];exact hH,h⟩
theorem RowJ.one (h:RowJ H v es):v.oneCell'=true:=by rcases h with⟨_,rfl⟩|⟨g,cap,cur,ty,rfl,_⟩<;>rfl
abbrev jr (p:Nat):Value:= .pointer (some ⟨p,0,none⟩)
abbrev N5 (x:Int):Value:= .iface 3 (.int .i64 x)
def HD (us:List V) (H:HH) (T:V->HH->Prop):Prop:=∃p v es x,us=[.x (jr p),.x (N5 x)]∧QJ H p v es∧es.length+1<=100000000∧∀v' H',QJ H' p v' (es++[x])->Oth H H' p v->Fr H v v'->T (.tup []) H'
def Me (us:List V) (H:HH) (T:V->HH->Prop):Prop:=∃p v es x,us=[.x (jr p)]∧QJ H p v (es++[x])∧∀v' H',QJ H' p v' es->Oth H H' p v->Fr H v v'->T (.x (N5 x)) H'
theorem kD (h:v.oneCell'=true):kZ (.x v)=some [v]:=by show(if v.oneCell'=true then (GT []).map (v:: ·) else none)=_;rw[YG h];rfl
def jj (p:Nat) (v:Value) (x:Int) (v':Value):Nat->V
 |8=> .x v|9=> .x (N5 x)|10=>aq x|11=> .sl false 1 [aq x] none|12=> .x v'|_=> .x (jr p)
variable {p:Nat}
theorem zd {x:Int} (v' v'':Value) {k:Nat} (h:k≠12):jj p v x v'' k=jj p v x v' k:=by unfold jj;split<;>first|rfl|exact absurd rfl h
def IPush (H:HH) (p:Nat) (v:Value) (es:List Int) (x:Int) (L:Nat) (H':HH) (val:Nat->V):Prop:=∃v',val=jj p v x v'∧(L.testBit 8=false->H'=H)∧
 (L.testBit 8=true->∃g ob,blkOf v'=some g∧(blkOf v=some g∨H g=none)∧RowJ (upd H g (some ob)) v' (es++[x])∧H'=if L.testBit 11=true then upd (upd H g (some ob)) p (some (rowO [v'] 62)) else upd H g (some ob))
variable {H':HH}
theorem IPush.next {x:Int} {L:Nat} {val:Nat->V} (h:IPush H p v es x L H' val) {k:Nat} (h1:k≠8) (h2:k≠11):IPush H p v es x (L|||2^k) H' val:=by unfold IPush;rw[av L h1,av L h2];exact h
theorem IPush.cell {x:Int} {L:Nat} {val:Nat->V} (h:IPush H p v es x L H' val) (hq:QJ H p v es) (hb:L.testBit 11=false):ii H' p=some ([v],62):=by
 obtain⟨v',_,h0,h1⟩:=h;cases h8:L.testBit 8 with
 |false=>rw[h0 h8];exact aU hq.1
 | true=>
   obtain⟨g,ob,_,hg,_,rfl⟩:=h1 h8;rw[YL A09];refine aU ?_;rw[ag _ _ ?_]
   . exact hq.1
   . rintro rfl;rcases hg with hg|hg
     . exact hq.2.2.1 hg
     . rw[hq.1] at hg;cases hg
theorem Dx:cn (bP [] [] [] (fun _=>false) (fun _=>false)) 132 HD:=by
 refine cg (F:={F:=fun _=>none,D:=fun _=>false,any:=fun i=>i==0}) (n:=15) (k:=2) (bw [] [] [] _ _ trivial trivial trivial) A0a (fun f C e=>by cases e) (fun t s C e=>by cases e) Tryz.func132 rfl (fun a w=>Tryz.call132 a w) Tryz.ntmps132 A0c A0c A0a ?_;rintro us H T ⟨p,v,es,x,rfl,hq,hlen,hT⟩ hdat;clear hdat;refine⟨rfl,?_⟩;obtain⟨hp,hr,hne,h1,h8⟩:=id hq;have fq:GU Tryz.prog 62 0=some 0:=A0a
 have ha:GV Tryz.prog 60=true:=A0a
 have ni:o6 Tryz.prog 3=true:=A0a
 have c1:=aU hp;simp +decide (maxDischargeDepth:=200) only[go_sem,Nat.reduceBEq];refine jg (fun k=>match k with|2=>[5]|3=>[6]|4=>[7]|6=>[9]|7=>[10]|8=>[8,11]|9=>[4]|10=>[13]|11=>[14,12]|_=>[]) (IPush H p v es x) (jj p v x v) A0a A0a ⟨v,rfl,fun _=>rfl,fun h=>by simp at h⟩ ?_ ?_
 . intro L k o H' val st ho hb hdd hcl hI hn hbase hbb;have b0:st.t 0= .x (jr p):=hbase 0 A0a;have b1:st.t 1= .x (N5 x):=hbase 1 A0a;have hI0:=hI;obtain⟨v',rfl,hI1,hI2⟩:=hI0;clear hbase hbb;rcases k with _|_|_|_|_|_|_|_|_|_|_|_|k
   . cases ho;simp +decide (maxDischargeDepth:=200) only[go_sem,Nat.reduceBEq,b0,b1];exact⟨_,fun _ _=>rfl,hI.next A0c A0c,Le.refl _⟩
   . cases ho;simp +decide (maxDischargeDepth:=200) only[go_sem,Nat.reduceBEq,b0,b1];exact⟨_,fun _ _=>rfl,hI.next A0c A0c,Le.refl _⟩
   . cases ho;have h5:st.t 5= .x (jr p):=hn 5 A0c;simp +decide (maxDischargeDepth:=200) only[go_sem,Nat.reduceBEq,h5,b0,b1];exact⟨_,fun _ _=>rfl,hI.next A0c A0c,Le.refl _⟩
   . cases ho;have h6:st.t 6= .x (jr p):=hn 6 A0c;simp +decide (maxDischargeDepth:=200) only[go_sem,Nat.reduceBEq,h6,b0,b1,fq,ZE];exact⟨_,fun _ _=>rfl,hI.next A0c A0c,Le.refl _⟩
   . cases ho;have h7:st.t 7= .x (jr p):=hn 7 A0c;have c2:=hI.cell hq (cR (n:=11) hcl rfl A0a hb);simp +decide (maxDischargeDepth:=200) only[go_sem,Nat.reduceBEq,h7,b0,b1,c2];exact⟨_,fun _ _=>rfl,hI.next A0c A0c,Le.refl _⟩
   . cases ho;simp +decide (maxDischargeDepth:=200) only[go_sem,Nat.reduceBEq,b0,b1];exact⟨_,fun _ _=>rfl,hI.next A0c A0c,Le.refl _⟩
   . cases ho;have h9:st.t 9= .x (N5 x):=hn 9 A0c;simp +decide (maxDischargeDepth:=200) only[go_sem,Nat.reduceBEq,h9,b0,b1,ni];exact⟨_,fun _ _=>rfl,hI.next A0c A0c,Le.refl _⟩
   . cases ho;have h10:st.t 10=aq x:=hn 10 A0c;simp +decide (maxDischargeDepth:=200) only[go_sem,Nat.reduceBEq,h10,b0,b1];exact⟨_,fun _ _=>rfl,hI.next A0c A0c,Le.refl _⟩
   . cases ho;have h8:st.t 8= .x v:=hn 8 A0c;have h11:st.t 11= .sl false 1 [aq x] none:=hn 11 A0c;obtain rfl:=hI1 hb;simp +decide (maxDischargeDepth:=200) only[go_sem,Nat.reduceBEq,h8,h11,b0,b1,ha];refine⟨es,hr,hlen,fun v'' g ob hb' hg hr'=>⟨jj p v x v'',fun k hk=>zd _ _ (fun e=>hk A0U),⟨v'',rfl,fun h=>?_,fun _=>⟨g,ob,hb',hg,hr',?_⟩⟩,by rw[de];exact Le.refl _⟩⟩
     . have hs8:(L|||2^8).testBit 8=true:=cD L 8;exact absurd (hs8.symm.trans h) A0j
     . have h11:L.testBit 11=false:=cR (n:=11) hcl rfl A0a hb;have hn11:(L|||2^8).testBit 11=L.testBit 11:=av L A0c;rw[YL (by show¬(L|||2^8).testBit 11=true;rw[hn11,h11];simp)]
   . cases ho;have h4:st.t 4= .x (jr p):=hn 4 A0c;simp +decide (maxDischargeDepth:=200) only[go_sem,Nat.reduceBEq,h4,b0,b1];exact⟨_,fun _ _=>rfl,hI.next A0c A0c,Le.refl _⟩
   . cases ho;have h13:st.t 13= .x (jr p):=hn 13 A0c;simp +decide (maxDischargeDepth:=200) only[go_sem,Nat.reduceBEq,h13,b0,b1,fq,ZE];exact⟨_,fun _ _=>rfl,hI.next A0c A0c,Le.refl _⟩
   . cases ho;have h14:st.t 14= .x (jr p):=hn 14 A0c;have h12:st.t 12= .x v':=hn 12 A0c;have c2:=hI.cell hq hb;obtain⟨g,ob,hb',hg,hr',rfl⟩:=hI2 (hdd 8 A0D);have x1:=kD hr'.one;simp +decide (maxDischargeDepth:=200) only[go_sem,Nat.reduceBEq,h14,h12,b0,b1,c2,x1];refine⟨_,fun _=>rfl,⟨v',rfl,fun h=>?_,fun _=>⟨g,ob,hb',hg,hr',?_⟩⟩,Le.refl _⟩
     . have h8':L.testBit 8=true:=hdd 8 A0D;have hn8:(L|||2^11).testBit 8=L.testBit 8:=av L A0c;exact absurd ((hn8.trans h8').symm.trans h) A0j
     . rw[YL A09,YG (cD L 11)];rfl
   . cases ho
 . rintro H' val ⟨v',rfl,_,hI⟩;obtain⟨g,ob,hb,hg,hr',rfl⟩:=hI A0c;rw[YG A0c];refine⟨[],[],trivial,trivial,?_⟩;simp +decide (maxDischargeDepth:=200) only[go_sem,Nat.reduceBEq];have hgp:g≠p:=by
    rintro rfl;rcases hg with hg|hg
    . exact hne hg
    . rw[hp] at hg;cases hg
   refine hT v' _ ⟨aj _ _ _,hr'.other (by rw[hb];simpa using hgp),by rw[hb];simpa using hgp,hr'.one,by simpa using hlen⟩ (fun y ob' hy hyp hyv=>?_) (fun g' hg'=>by rw[hb] at hg';cases hg';exact hg);have hyg:y≠g:=by
    rintro rfl;rcases hg with hg|hg
    . exact hyv hg
    . rw[hy] at hg;cases hg
   rw[ag _ _ hyp,ag _ _ hyg];exact hy
theorem RowJ.init {x:Int} (h:RowJ H v (es++[x])):∃g cap l ty,v= .slice (some ⟨g,0,none⟩) (es.length+1) cap∧H g=some (rowO l ty)∧es.length+1<=cap∧(l.map V.x)[es.length]?=some (aq x)∧RowJ H (.slice (some ⟨g,0,none⟩) es.length cap) es:=by obtain⟨g,cap,l,ty,rfl,hH,hc,hl,hcell⟩:=h.cell (i:=es.length) (x:=x) A0j;rw[YD,Zv] at hc;refine⟨g,cap,l,ty,A0j,hH,hc,by rw[Io,hcell es.length x A0j];rfl,.inr ⟨g,cap,l.toArray,ty,rfl,hH,A0b,by simpa using hl,fun j i hj=>?_⟩⟩;rw[ZL];exact hcell j i (by rw[YN (iO.1 hj).1];exact hj)
theorem HE:cn (bP [] [] [] (fun _=>false) (fun _=>false)) 131 Me:=by
 refine cg (F:={F:=fun _=>none,D:=fun _=>false}) (n:=29) (k:=1) (bw [] [] [] _ _ trivial trivial trivial) A0a (fun f C e=>by cases e) (fun t s C e=>by cases e) Tryz.func131 rfl (fun a w=>Tryz.call131 a w) Tryz.ntmps131 A0c A0c A0a ?_;rintro us H T ⟨p,v,es,x,rfl,⟨hp,hr,hne,h1,h8⟩,hT⟩ hdat;clear hdat;refine⟨rfl,?_⟩;have fq:GU Tryz.prog 62 0=some 0:=A0a
 have z73:o5 Tryz.prog 60=some 1:=A0a
 have ni:o6 Tryz.prog 3=true:=A0a
 have c1:=aU hp;obtain⟨g,cap,l,ty,rfl,hH,hc,hx,hr'⟩:=hr.init;have c2:=aU hH;have w1:aw .i64 (((es.length+1:Nat):Int)-1)=(es.length:Int):=by rw[ak (by rw[YD,Zv] at h8;unfold inR;omega)];omega
 rw[YD,Zv] at h8;have e0:(0:Int)<=(es.length:Int):=A0b
 have e1:(es.length:Int)<((es.length+1:Nat):Int):=A0b
 have e2:(es.length:Int)<=(cap:Int):=A0b
 have hgp:g≠p:=fun e=>hne (by rw[e];rfl)
 have x1:kZ (.x (.slice (some ⟨g,0,none⟩) es.length cap))=some [.slice (some ⟨g,0,none⟩) es.length cap]:=rfl;simp +decide (maxDischargeDepth:=200) only[go_sem,Nat.reduceBEq,fq,z73,ni,c1,c2,w1,e0,e1,e2,hx,x1,ZE,YC,YP,tl];refine hT (.slice (some ⟨g,0,none⟩) es.length cap) _ ⟨aj _ _ _,hr'.other (fun e=>hgp (by cases e;rfl)),fun e=>hgp (by cases e;rfl),rfl,A0b⟩ (fun y ob' hy hyp hyv=>?_) (fun g' hg'=> .inl (by cases hg';rfl));rw[ag _ _ hyp];exact hy
def HF (v:Value) (us:List V) (H:HH) (T:V->HH->Prop):Prop:=∃p r es,v=jr p∧us=[]∧QJ H p r es∧T (aq (es.length:Int)) H
def ze (v:Value) (us:List V) (H:HH) (T:V->HH->Prop):Prop:=∃p r es i j x y,v=jr p∧us=[aq ((i:Nat):Int),aq ((j:Nat):Int)]∧QJ H p r es∧es[i]?=some x∧es[j]?=some y∧T (.x (.bool (decide (x<y)))) H
def zf (v:Value) (us:List V) (H:HH) (T:V->HH->Prop):Prop:=∃p r es i j x y,v=jr p∧us=[aq ((i:Nat):Int),aq ((j:Nat):Int)]∧QJ H p r es∧es[i]?=some x∧es[j]?=some y∧∀H',QJ H' p r (cY es i j x y)->Oth H H' p r->T (.tup []) H'
def zg (v:Value) (us:List V) (H:HH) (T:V->HH->Prop):Prop:=HD (.x v::us) H T
def HG (v:Value) (us:List V) (H:HH) (T:V->HH->Prop):Prop:=Me (.x v::us) H T
theorem RowJ.len (h:RowJ H v es):∃a c,v= .slice a es.length c:=by
 rcases h with⟨rfl,rfl⟩|⟨g,cap,_,_,rfl,_⟩
 . exact⟨_,_,rfl⟩
 . exact⟨_,_,rfl⟩
theorem HI:ij (bP [] [] [] (fun _=>false) (fun _=>false)) 59 "Len" HF:=by refine ll 62 0 60 0 0 (.slice 3) vu (Y9 A0a) A0a A0a A0a A0a A0a (fun e h=>by cases h) ?_;rintro v us H T ⟨p,r,es,rfl,rfl,h,hT⟩;obtain⟨a,c,rfl⟩:=h.2.1.len;exact⟨p,_,_,_,rfl,h.1,rfl,rfl,_,_,_,rfl,hT⟩
theorem Dy:ij (bP [] [] [] (fun _=>false) (fun _=>false)) 59 "Less" ze:=by refine ll 62 0 60 0 0 (.slice 3) Du (Y9 A0a) A0a A0a A0a A0a A0a (fun e h=>by cases h) ?_;rintro v us H T ⟨p,r,es,i,j,x,y,rfl,rfl,h,hi,hj,hT⟩;exact⟨p,r,_,_,rfl,h.1,rfl,AL h.2.2.2.1,r,es,i,j,x,y,rfl,h.2.1,hi,hj,hT⟩
theorem Dz:ij (bP [] [] [] (fun _=>false) (fun _=>false)) 59 "Swap" zf:=by
 refine ll 62 0 60 0 0 (.slice 3) Dw (Y9 A0a) A0a A0a A0a A0a A0a (fun e h=>by cases h) ?_;rintro v us H T ⟨p,r,es,i,j,x,y,rfl,rfl,h,hi,hj,hT⟩;refine⟨p,r,_,_,rfl,h.1,rfl,AL h.2.2.2.1,r,es,i,j,x,y,rfl,h.2.1,hi,hj,fun g ob hb hr=>hT _ ⟨?_,hr,h.2.2.1,h.2.2.2.1,by simpa[cY] using h.2.2.2.2⟩ (fun y' ob' hy hyp hyv=>?_)⟩
 . rw[ag _ _ (fun e=>h.2.2.1 (by rw[e];exact hb))];exact h.1
 . rw[ag _ _ (fun e=>hyv (by rw[e];exact hb))];exact hy
theorem DA:ij (bP [] [] [] (fun _=>false) (fun _=>false)) 59 "Push" zg:=u6 (e:=62) Dx (Y9 A0a) A0a A0a (fun v us H T h=>⟨by obtain⟨p,_,_,_,hus,_⟩:=id h;cases hus;rfl,h⟩)
theorem HJ:ij (bP [] [] [] (fun _=>false) (fun _=>false)) 59 "Pop" HG:=u6 (e:=62) HE (Y9 A0a) A0a A0a (fun v us H T h=>⟨by obtain⟨p,_,_,_,hus,_⟩:=id h;cases hus;rfl,h⟩)
def aN (l:List Int) (k:Nat):Int:=(l[k]?).getD 0
theorem fT {x:Int} (h:l[k]?=some x):aN l k=x:=by unfold aN;rw[h];rfl
def HeapN (es:List Int) (n:Nat):Prop:=∀k,0<k->k<n->aN es ((k-1)/2)<=aN es k
def N6 (es:List Int) (j:Nat):Prop:=(∀k,0<k->k<es.length->k≠j->aN es ((k-1)/2)<=aN es k)∧∀k,0<k->k<es.length->(k-1)/2=j->0<j->aN es ((j-1)/2)<=aN es k
def ov (es:List Int) (i n:Nat):Prop:=(∀k,0<k->k<n->(k-1)/2≠i->aN es ((k-1)/2)<=aN es k)∧∀k,0<k->k<n->(k-1)/2=i->0<i->aN es ((i-1)/2)<=aN es k
theorem lr (es:List Int) (i j:Nat) (x y:Int):(cY es i j x y).length=es.length:=by simp[cY]
theorem ey {i j:Nat} {x:Int} (hi:es[i]?=some x) (hj:es[j]?=some y) (k:Nat):aN (cY es i j x y) k=if k=j then x else if k=i then y else aN es k:=by
 have il:=(iO.1 hi).1;have jl:=(iO.1 hj).1;unfold aN cY;rw[Zg,Za,Zg];by_cases e:j=k
 . rw[YG e,YG jl,YG e.symm];rfl
 . rw[YL e,YL (ZY e)];by_cases e':i=k
   . rw[YG e',YG il,YG e'.symm];rfl
   . rw[YL e',YL (ZY e')]
theorem jX {i j:Nat} {x:Int} (hi:es[i]?=some x) (hj:es[j]?=some y):(cY es i j x y).Perm es:=by obtain⟨il,rfl⟩:=iO.1 hi;obtain⟨jl,rfl⟩:=iO.1 hj;exact Go.Sort.perm_set_set es i j il jl
theorem Li {i j:Nat} {x:Int} (h:N6 es j) (hij:(j-1)/2=i) (hne:i≠j) (hi:es[i]?=some x) (hj:es[j]?=some y) (hlt:y<x):N6 (cY es i j x y) i:=by
 have xi:=fT hi;have yj:=fT hj;unfold N6;rw[lr];refine⟨fun k k0 kl kne=>?_,fun k k0 kl kp i0=>?_⟩
 . have q1:=h.1 k k0 kl;have q2:=h.2 k k0 kl;rw[ey hi hj,ey hi hj];by_cases a1:(k-1)/2=j
   . rw[YG a1,YL A0b,YL kne];have:=q2 a1 A0b
     rwa [hij,xi] at this
   . rw[YL a1];by_cases a3:k=j
     . rw[YG a3,YG A0b];omega
     . rw[YL a3,YL kne];have q:=q1 a3;by_cases a4:(k-1)/2=i
       . rw[YG a4];rw[a4,xi] at q;omega
       . rw[YL a4];exact q
 . have q0:=h.1 i i0 A0b hne;rw[xi] at q0;rw[ey hi hj,ey hi hj,YL A0b,YL A0b];by_cases a3:k=j
   . rw[YG a3];exact q0
   . rw[YL a3,YL A0b];have q:=h.1 k k0 kl a3;rw[kp,xi] at q;omega
theorem AT {j:Nat} (h:N6 es j) (hd:(j-1)/2=j∨aN es ((j-1)/2)<=aN es j):HeapN es es.length:=fun k k0 kl=>by
 by_cases e:k=j
 . subst e;rcases hd with hd|hd
   . omega
   . exact hd
 . exact h.1 k k0 kl e
theorem DB {i j:Nat} {x:Int} (h:ov es i n) (hij:(j-1)/2=i) (j0:0<j) (jn:j<n) (hi:es[i]?=some x) (hj:es[j]?=some y) (hlt:y<x) (hmin:∀k,0<k->k<n->(k-1)/2=i->y<=aN es k):ov (cY es i j x y) j n:=by
 have xi:=fT hi;have yj:=fT hj;refine⟨fun k k0 kl kne=>?_,fun k k0 kl kp _=>?_⟩
 . rw[ey hi hj,ey hi hj,YL kne];by_cases a4:(k-1)/2=i
   . rw[YG a4];by_cases a3:k=j
     . rw[YG a3];omega
     . rw[YL a3,YL A0b];exact hmin k k0 kl a4
   . rw[YL a4,YL (fun e=>a4 (by rw[e];exact hij))];by_cases a5:k=i
     . rw[YG a5,a5];have:=h.2 j j0 jn hij A0b;omega
     . rw[YL a5];exact h.1 k k0 kl a4
 . rw[ey hi hj,ey hi hj,hij,YL A0b,YG rfl,YL A0b,YL A0b];have:=h.1 k k0 kl A0b
   rwa [kp,yj] at this
theorem DC {i:Nat} (h:ov es i n) (hd:∀k,0<k->k<n->(k-1)/2=i->aN es i<=aN es k):HeapN es n:=fun k k0 kl=>by
 by_cases e:(k-1)/2=i
 . rw[e];exact hd k k0 kl e
 . exact h.1 k k0 kl e
theorem HK (h:HeapN es n):∀k,k<n->aN es 0<=aN es k:=by
 intro k
 induction k using Nat.strongRecOn with
 | _ k ih=>
   intro hk;by_cases e:k=0
   . subst e;exact aa4 _
   . have:=ih ((k-1)/2) A0b A0b;have:=h k A0b hk;omega
theorem Oth.refl (H:HH) (p:Nat) (v:Value):Oth H H p v:=fun _ _ h _ _=>h
theorem Oth.trans {H2:HH} (h:Oth H H' p v) (k:Oth H' H2 p v):Oth H H2 p v:=fun y ob h0 h1 h2=>k y ob (h y ob h0 h1 h2) h1 h2
open Classical in
noncomputable def qI:TypeId->String->Option (Value->List V->HH->Tr):=fun t name=>if t=59 then (if name= "Len" then some HF else if name= "Less" then some ze else if name= "Swap" then some zf else if name= "Push" then some zg else if name= "Pop" then some HG else none) else none
theorem AU:∀t name C,qI t name=some C->ij (bP [] [] [] (fun _=>false) (fun _=>false)) t name C:=by
 intro t name C h;unfold qI at h;split at h
 case isFalse=>cases h
 rename_i e;subst e;split at h
 . rename_i e;subst e;cases h;exact HI
 split at h
 . rename_i e;subst e;cases h;exact Dy
 split at h
 . rename_i e;subst e;cases h;exact Dz
 split at h
 . rename_i e;subst e;cases h;exact DA
 split at h
 . rename_i e;subst e;cases h;exact HJ
 . cases h
theorem N7:qI 59 "Len" =some HF:=by unfold qI;simp
theorem Lj:qI 59 "Less" =some ze:=by unfold qI;simp
theorem Lk:qI 59 "Swap" =some zf:=by unfold qI;simp
theorem Ll:qI 59 "Push" =some zg:=by unfold qI;simp
theorem N8:qI 59 "Pop" =some HG:=by unfold qI;simp
attribute [go_sem] N7 Lj Lk Ll N8
abbrev Ox (p:Nat):Value:= .iface 59 (jr p)
def XL (us:List V) (H:HH) (T:V->HH->Prop):Prop:=∃p r es j,us=[.x (Ox p),aq ((j:Nat):Int)]∧QJ H p r es∧j<es.length∧N6 es j∧∀es' H',QJ H' p r es'->es'.Perm es->HeapN es' es'.length->Oth H H' p r->T (.tup []) H'
theorem N9:cn (bP [] [] [] (fun _=>false) (fun _=>false)) 53 XL:=by
 refine cg (F:={F:=fun _=>none,D:=fun _=>false,I:=qI}) (n:=23) (k:=2) (bw [] [] [] _ _ trivial trivial trivial) A0a (fun f C e=>by cases e) AU Tryz.func53 rfl (fun a w=>Tryz.call53 a w) Tryz.ntmps53 A0c A0c A0a ?_;rintro us H T ⟨p,r,es,j,rfl,hq,hj,hu,hT⟩ hdat;clear hdat;refine⟨rfl,?_⟩;simp +decide (maxDischargeDepth:=200) only[go_sem,Nat.reduceBEq];refine bp (X:={q:List Int×Nat//q.1.Perm es∧q.2<es.length∧N6 q.1 q.2}) (fun q=>[(0,.x (Ox p)),(1,aq ((q.1.2:Nat):Int))]) (fun _=>[]) (fun q H'=>QJ H' p r q.1.1∧Oth H H' p r) (fun q=>q.1.2) ⟨(es,j),List.Perm.refl _,hj,hu⟩ A0d A0d ⟨hq,.refl _ _ _⟩ ?_;clear hu hj;rintro⟨⟨e1,j⟩,hp,hj,hu⟩ H1 ⟨hq1,ho⟩;simp only at hp hj hu hq1⊢;have hl:=hp.length_eq;have h8:=hq1.2.2.2.2;have w1:aw .i64 ((j:Int)-1)=(j:Int)-1:=ak A0h;have w2:aw .i64 (Int.tdiv ((j:Int)-1) 2)=(((j-1)/2:Nat):Int):=by
  have e:Int.tdiv ((j:Int)-1) 2=(((j-1)/2:Nat):Int):=by
   by_cases h0:j=0
   . subst h0;rfl
   . rw[show(j:Int)-1=((j-1:Nat):Int) by omega];rfl
  rw[e,ak A0h]
 obtain⟨y,hy⟩:∃y,e1[j]?=some y:=⟨_,io A0b ⟩;generalize hi:(j-1)/2=i at w2;obtain⟨x,hx⟩:∃x,e1[i]?=some x:=⟨_,io A0b ⟩;by_cases hij:i=j
 . have d1:decide ((i:Int)=(j:Int))=true:=Yz A0b;simp +decide (maxDischargeDepth:=200) only[go_sem,Nat.reduceBEq,w1,w2,d1];exact hT e1 H1 hq1 hp (AT hu (.inl A0b)) ho
 have d1:decide ((i:Int)=(j:Int))=false:=YA A0b;simp +decide (maxDischargeDepth:=200) only[go_sem,Nat.reduceBEq,w1,w2,d1];refine⟨p,r,e1,j,i,y,x,rfl,rfl,hq1,hy,hx,?_⟩;by_cases hlt:y<x
 case neg=>have d2:decide (y<x)=false:=YA hlt;simp +decide (maxDischargeDepth:=200) only[go_sem,Nat.reduceBEq,d2];exact hT e1 H1 hq1 hp (AT hu (.inr (by rw[hi,fT hx,fT hy];omega))) ho
 have d2:decide (y<x)=true:=Yz hlt;simp +decide (maxDischargeDepth:=200) only[go_sem,Nat.reduceBEq,d2];refine⟨p,r,e1,i,j,x,y,rfl,rfl,hq1,hx,hy,fun H2 hq2 ho2=>?_⟩;simp +decide (maxDischargeDepth:=200) only[go_sem,Nat.reduceBEq];refine⟨⟨(cY e1 i j x y,i),(jX hx hy).trans hp,by simp only;omega,Li hu hi hij hx hy hlt⟩,⟨?_,?_,hq2,ho.trans ho2⟩,by simp only;omega⟩
 . simp +decide (maxDischargeDepth:=200) only[go_sem,Nat.reduceBEq]
 . simp +decide (maxDischargeDepth:=200) only[go_sem,Nat.reduceBEq]
def Mf (us:List V) (H:HH) (T:V->HH->Prop):Prop:=∃p r es n,us=[.x (Ox p),aq 0,aq ((n:Nat):Int)]∧QJ H p r es∧n<=es.length∧ov es 0 n∧∀es' H' b,QJ H' p r es'->es'.Perm es->(∀k,n<=k->es'[k]?=es[k]?)->HeapN es' n->Oth H H' p r->T (.x (.bool b)) H'
theorem HL {i j:Nat} {x:Int} (hi:i<n) (hj:j<n) (k:Nat) (hk:n<=k):(cY es i j x y)[k]?=es[k]?:=by unfold cY;rw[aab A0b,aab A0b]
theorem HM:cn (bP [] [] [] (fun _=>false) (fun _=>false)) 54 Mf:=by
 refine cg (F:={F:=fun _=>none,D:=fun _=>false,I:=qI}) (n:=48) (k:=3) (bw [] [] [] _ _ trivial trivial trivial) A0a (fun f C e=>by cases e) AU Tryz.func54 rfl (fun a w=>Tryz.call54 a w) Tryz.ntmps54 A0c A0c A0a ?_;rintro us H T ⟨p,r,es,n,rfl,hq,hn,hu,hT⟩ hdat;clear hdat;refine⟨rfl,?_⟩;simp +decide (maxDischargeDepth:=200) only[go_sem,Nat.reduceBEq];refine bp (X:={q:List Int×Nat//q.1.Perm es∧(∀k,n<=k->q.1[k]?=es[k]?)∧(q.2<n∨q.2=0)∧ov q.1 q.2 n}) (fun q=>[(0,.x (Ox p)),(1,aq 0),(2,aq (n:Int)),(7,aq ((q.1.2:Nat):Int))]) (fun _=>[]) (fun q H'=>QJ H' p r q.1.1∧Oth H H' p r) (fun q=>n-q.1.2) ⟨(es,0),List.Perm.refl _,fun _ _=>rfl,.inr rfl,hu⟩ A0d A0d ⟨hq,.refl _ _ _⟩ ?_;clear hu;rintro⟨⟨e1,i⟩,hp,hfar,hi,hu⟩ H1 ⟨hq1,ho⟩;simp only at hp hfar hi hu hq1⊢;have hl:=hp.length_eq;have h8:=hq1.2.2.2.2;have w1:aw .i64 (2*(i:Int))=((2*i:Nat):Int):=by rw[ak A0h];omega
 have w2:aw .i64 (((2*i:Nat):Int)+1)=((2*i+1:Nat):Int):=by rw[ak A0h];omega
 have fin:∀(hd:∀k,0<k->k<n->(k-1)/2=i->aN e1 i<=aN e1 k) b,T (.x (.bool b)) H1:=fun hd b=>hT e1 H1 b hq1 hp hfar (DC hu hd) ho
 by_cases hj1:2*i+1<n
 case neg=>have d1:decide (((2*i+1:Nat):Int)≥(n:Int))=true:=Yz A0b;simp +decide (maxDischargeDepth:=200) only[go_sem,Nat.reduceBEq,w1,w2,d1];exact fin (fun k k0 kn kp=>by omega) _
 have d1:decide (((2*i+1:Nat):Int)≥(n:Int))=false:=YA A0b;have d2:decide (((2*i+1:Nat):Int)<0)=false:=YA A0b;have w3:aw .i64 (((2*i+1:Nat):Int)+1)=((2*i+2:Nat):Int):=by rw[ak A0h];omega
 obtain⟨x,hx⟩:∃x,e1[i]?=some x:=⟨_,io A0b ⟩;obtain⟨y1,hy1⟩:∃y,e1[2*i+1]?=some y:=⟨_,io A0b ⟩
 have key:∀(j:Nat) (y:Int),e1[j]?=some y->(j-1)/2=i->0<j->j<n->(∀k,0<k->k<n->(k-1)/2=i->y<=aN e1 k)->(¬y<x->∀b,T (.x (.bool b)) H1)∧(y<x->ov (cY e1 i j x y) j n∧(cY e1 i j x y).Perm es∧∀k,n<=k->(cY e1 i j x y)[k]?=es[k]?):=fun j y hy hij j0 jn hmin=>
  ⟨fun hlt b=>fin (fun k k0 kn kp=>by have:=hmin k k0 kn kp;rw[fT hx];omega) b,fun hlt=>⟨DB hu hij j0 jn hx hy hlt hmin,(jX hx hy).trans hp,fun k hk=>(HL A0b jn k hk).trans (hfar k hk)⟩⟩
 by_cases hj2:2*i+2<n
 case neg=>
  have d3:decide (((2*i+2:Nat):Int)<(n:Int))=false:=YA A0b;simp +decide (maxDischargeDepth:=200) only[go_sem,Nat.reduceBEq,w1,w2,w3,d1,d2,d3];obtain⟨k1,k2⟩:=key (2*i+1) y1 hy1 A0b A0b A0b (by intro k k0 kn kp;rw[show k=2*i+1 by omega,fT hy1];exact aa4 _);refine⟨p,r,e1,2*i+1,i,y1,x,rfl,rfl,hq1,hy1,hx,?_⟩;by_cases hlt:y1<x
  case neg=>have d5:decide (y1<x)=false:=YA hlt;simp +decide (maxDischargeDepth:=200) only[go_sem,Nat.reduceBEq,d5];exact k1 hlt _
  have d5:decide (y1<x)=true:=Yz hlt;simp +decide (maxDischargeDepth:=200) only[go_sem,Nat.reduceBEq,d5];obtain⟨k3,k4,k5⟩:=k2 hlt;refine⟨p,r,e1,i,2*i+1,x,y1,rfl,rfl,hq1,hx,hy1,fun H2 hq2 ho2=>?_⟩;simp +decide (maxDischargeDepth:=200) only[go_sem,Nat.reduceBEq];refine⟨⟨(cY e1 i (2*i+1) x y1,2*i+1),k4,k5,.inl A0b,k3⟩,⟨?_,?_,hq2,ho.trans ho2⟩,by simp only;omega⟩
  . simp +decide (maxDischargeDepth:=200) only[go_sem,Nat.reduceBEq]
  . simp +decide (maxDischargeDepth:=200) only[go_sem,Nat.reduceBEq]
 have d3:decide (((2*i+2:Nat):Int)<(n:Int))=true:=Yz A0b;obtain⟨y2,hy2⟩:∃y,e1[2*i+2]?=some y:=⟨_,io A0b ⟩;simp +decide (maxDischargeDepth:=200) only[go_sem,Nat.reduceBEq,w1,w2,w3,d1,d2,d3];refine⟨p,r,e1,2*i+2,2*i+1,y2,y1,rfl,rfl,hq1,hy2,hy1,?_⟩;by_cases h12:y2<y1
 case neg=>
  have d4:decide (y2<y1)=false:=YA h12;simp +decide (maxDischargeDepth:=200) only[go_sem,Nat.reduceBEq,d4];obtain⟨k1,k2⟩:=key (2*i+1) y1 hy1 A0b A0b A0b (by intro k k0 kn kp;by_cases ek:k=2*i+1;(rw[ek,fT hy1];exact aa4 _);rw[show k=2*i+2 by omega,fT hy2];omega);refine⟨p,r,e1,2*i+1,i,y1,x,rfl,rfl,hq1,hy1,hx,?_⟩;by_cases hlt:y1<x
  case neg=>have d5:decide (y1<x)=false:=YA hlt;simp +decide (maxDischargeDepth:=200) only[go_sem,Nat.reduceBEq,d5];exact k1 hlt _
  have d5:decide (y1<x)=true:=Yz hlt;simp +decide (maxDischargeDepth:=200) only[go_sem,Nat.reduceBEq,d5];obtain⟨k3,k4,k5⟩:=k2 hlt;refine⟨p,r,e1,i,2*i+1,x,y1,rfl,rfl,hq1,hx,hy1,fun H2 hq2 ho2=>?_⟩;simp +decide (maxDischargeDepth:=200) only[go_sem,Nat.reduceBEq];refine⟨⟨(cY e1 i (2*i+1) x y1,2*i+1),k4,k5,.inl A0b,k3⟩,⟨?_,?_,hq2,ho.trans ho2⟩,by simp only;omega⟩
  . simp +decide (maxDischargeDepth:=200) only[go_sem,Nat.reduceBEq]
  . simp +decide (maxDischargeDepth:=200) only[go_sem,Nat.reduceBEq]
 have d4:decide (y2<y1)=true:=Yz h12;simp +decide (maxDischargeDepth:=200) only[go_sem,Nat.reduceBEq,d4];obtain⟨k1,k2⟩:=key (2*i+2) y2 hy2 A0b A0b A0b (by intro k k0 kn kp;by_cases ek:k=2*i+2;(rw[ek,fT hy2];exact aa4 _);rw[show k=2*i+1 by omega,fT hy1];omega);refine⟨p,r,e1,2*i+2,i,y2,x,rfl,rfl,hq1,hy2,hx,?_⟩;by_cases hlt:y2<x
 case neg=>have d5:decide (y2<x)=false:=YA hlt;simp +decide (maxDischargeDepth:=200) only[go_sem,Nat.reduceBEq,d5];exact k1 hlt _
 have d5:decide (y2<x)=true:=Yz hlt;simp +decide (maxDischargeDepth:=200) only[go_sem,Nat.reduceBEq,d5];obtain⟨k3,k4,k5⟩:=k2 hlt;refine⟨p,r,e1,i,2*i+2,x,y2,rfl,rfl,hq1,hx,hy2,fun H2 hq2 ho2=>?_⟩;simp +decide (maxDischargeDepth:=200) only[go_sem,Nat.reduceBEq];refine⟨⟨(cY e1 i (2*i+2) x y2,2*i+2),k4,k5,.inl A0b,k3⟩,⟨?_,?_,hq2,ho.trans ho2⟩,by simp only;omega⟩
 . simp +decide (maxDischargeDepth:=200) only[go_sem,Nat.reduceBEq]
 . simp +decide (maxDischargeDepth:=200) only[go_sem,Nat.reduceBEq]
theorem HN (h:HeapN es es.length) (x:Int):N6 (es++[x]) es.length:=by
 have ha:∀k,k<es.length->aN (es++[x]) k=aN es k:=fun k hk=>by unfold aN;rw[YN hk]
 refine⟨fun k k0 kl kne=>?_,fun k k0 kl kp=>?_⟩
 . rw[YD,Zv] at kl;rw[ha _ A0b,ha _ A0b];exact h k k0 A0b
 . rw[YD,Zv] at kl;omega
def HO (us:List V) (H:HH) (T:V->HH->Prop):Prop:=∃p r es x,us=[.x (Ox p),.x (N5 x)]∧QJ H p r es∧es.length+1<=100000000∧HeapN es es.length∧∀r' es' H',QJ H' p r' es'->es'.Perm (es++[x])->HeapN es' es'.length->Oth H H' p r->Fr H r r'->T (.tup []) H'
theorem DD:cn (bP [] [] [] (fun _=>false) (fun _=>false)) 39 HO:=by
 refine cg (F:={F:=uX [(53,XL)],D:=fun _=>false,I:=qI}) (n:=12) (k:=2) (bw [] [] [] _ _ trivial trivial trivial) A0a (fA ⟨N9,trivial⟩) AU Tryz.func39 rfl (fun a w=>Tryz.call39 a w) Tryz.ntmps39 A0c A0c A0a ?_;rintro us H T ⟨p,r,es,x,rfl,hq,hlen,hh,hT⟩ hdat;clear hdat;refine⟨rfl,?_⟩;simp +decide (maxDischargeDepth:=200) only[go_sem,Nat.reduceBEq];refine⟨p,r,es,x,rfl,hq,hlen,fun v' H1 hq1 ho hf=>?_⟩;simp +decide (maxDischargeDepth:=200) only[go_sem,Nat.reduceBEq];refine⟨p,v',es++[x],rfl,rfl,hq1,?_⟩;have w1:aw .i64 (((es++[x]).length:Int)-1)=(es.length:Int):=by rw[YD,Zv,ak A0h];omega
 simp +decide (maxDischargeDepth:=200) only[go_sem,Nat.reduceBEq,w1,YX];refine⟨p,v',es++[x],es.length,rfl,hq1,A0j,HN hh x,fun es' H2 hq2 hp hh2 ho2=>?_⟩;simp +decide (maxDischargeDepth:=200) only[go_sem,Nat.reduceBEq];exact hT v' es' H2 hq2 hp hh2 (ho.step hf ho2) hf
def Mg (us:List V) (H:HH) (T:V->HH->Prop):Prop:=∃p r es,us=[.x (Ox p)]∧QJ H p r es∧es≠[]∧HeapN es es.length∧∀r' x es' H',QJ H' p r' es'->es.Perm (x::es')->(∀y∈es,x<=y)->HeapN es' es'.length->Oth H H' p r->Fr H r r'->T (.x (N5 x)) H'
theorem zh {x:Int} (h:HeapN es es.length) (hn:es.length=n+1) (hx:es[0]?=some x) (hy:es[n]?=some y):ov (cY es 0 n x y) 0 n:=by refine⟨fun k k0 kl kp=>?_,fun k _ _ _ h0=>absurd h0 (Nat.lt_irrefl _)⟩;rw[ey hx hy,ey hx hy,YL A0b,YL kp,YL A0b,YL A0b];exact h k k0 A0b
theorem HR:cn (bP [] [] [] (fun _=>false) (fun _=>false)) 40 Mg:=by
 refine cg (F:={F:=uX [(54,Mf)],D:=fun _=>false,I:=qI}) (n:=15) (k:=1) (bw [] [] [] _ _ trivial trivial trivial) A0a (fA ⟨HM,trivial⟩) AU Tryz.func40 rfl (fun a w=>Tryz.call40 a w) Tryz.ntmps40 A0c A0c A0a ?_;rintro us H T ⟨p,r,es,rfl,hq,hne,hh,hT⟩ hdat;clear hdat;refine⟨rfl,?_⟩;have h8:=hq.2.2.2.2;obtain⟨n,hn⟩:∃n,es.length=n+1:=⟨es.length-1,by have:=List.length_pos_iff.2 hne;omega⟩;obtain⟨x,hx⟩:∃x,es[0]?=some x:=⟨_,io A0b ⟩;obtain⟨y,hy⟩:∃y,es[n]?=some y:=⟨_,io A0b ⟩;simp +decide (maxDischargeDepth:=200) only[go_sem,Nat.reduceBEq];refine⟨p,r,es,rfl,rfl,hq,?_⟩;have w1:aw .i64 ((es.length:Int)-1)=(n:Int):=by rw[ak A0h];omega
 simp +decide (maxDischargeDepth:=200) only[go_sem,Nat.reduceBEq,w1];refine⟨p,r,es,0,n,x,y,rfl,rfl,hq,hx,hy,fun H1 hq1 ho1=>?_⟩;simp +decide (maxDischargeDepth:=200) only[go_sem,Nat.reduceBEq,YX];refine⟨p,r,cY es 0 n x y,n,rfl,hq1,by rw[lr];omega,zh hh hn hx hy,fun es2 H2 b hq2 hp2 hfar hh2 ho2=>?_⟩;simp +decide (maxDischargeDepth:=200) only[go_sem,Nat.reduceBEq];have hl2:es2.length=n+1:=by rw[hp2.length_eq,lr,hn]
 have hlast:es2[n]?=some x:=by rw[hfar n (YJ _)];unfold cY;rw[Zg,YG rfl,YG (by rw[Za];omega)]
 obtain⟨es3,rfl⟩:∃es3,es2=es3++[x]:=by refine⟨es2.take n,?_⟩;have:=aF hlast;rw[YS A0b] at this;exact this
 rw[YD,Zv] at hl2;have h3:es3.length=n:=A0b
 refine⟨p,r,es3,x,rfl,hq2,fun v' H3 hq3 ho3 hf3=>?_⟩;simp +decide (maxDischargeDepth:=200) only[go_sem,Nat.reduceBEq];have hperm:es.Perm (x::es3):=((jX hx hy).symm.trans hp2.symm).trans (List.perm_append_singleton x es3);have ho12:Oth H H2 p r:=ho1.trans ho2;refine hT v' x es3 H3 hq3 hperm (fun z hz=>?_) (fun k k0 kl=>?_) (ho12.trans ho3) (fun g hg=>?_)
 . obtain⟨k,hk⟩:=ZW hz;have:=HK hh k (iO.1 hk).1
   rwa [fT hx,fT hk] at this
 . have:=hh2 k k0 A0b;unfold aN at this⊢
   rwa [YN A0b,YN kl] at this
 . rcases hf3 g hg with h|h
   . exact .inl h
   . cases e:H g with
     |none=>exact .inr rfl
     | some ob=>
       by_cases e1:g=p
       . subst e1;rw[hq2.1] at h;cases h
       . by_cases e2:blkOf r=some g
         . exact .inl e2
         . rw[ho12 g ob e e1 e2] at h;cases h
def SY (us:List V) (H:HH) (T:V->HH->Prop):Prop:=∃p r es x,us=[.x (jr p),aq x]∧QJ H p r es∧es.length+1<=100000000∧HeapN es es.length∧∀r' es' H',QJ H' p r' es'->es'.Perm (es++[x])->HeapN es' es'.length->Oth H H' p r->Fr H r r'->T (.tup []) H'
def Mh (us:List V) (H:HH) (T:V->HH->Prop):Prop:=∃p r es,us=[.x (jr p)]∧QJ H p r es∧es≠[]∧HeapN es es.length∧∀r' x es' H',QJ H' p r' es'->es.Perm (x::es')->(∀y∈es,x<=y)->HeapN es' es'.length->Oth H H' p r->Fr H r r'->T (aq x) H'
theorem Lm:cn (bP [] [] [] (fun _=>false) (fun _=>false)) 21 SY:=by
 refine cg (F:={F:=uX [(39,HO)],D:=fun _=>false}) (n:=9) (k:=2) (bw [] [] [] _ _ trivial trivial trivial) A0a (fA ⟨DD,trivial⟩) (fun t s C e=>by cases e) Tryz.func21 rfl (fun a w=>Tryz.call21 a w) Tryz.ntmps21 A0c A0c A0a ?_;rintro us H T ⟨p,r,es,x,rfl,hq,hlen,hh,hT⟩ hdat;clear hdat;refine⟨rfl,?_⟩;have n1:o6 Tryz.prog 59=true:=A0a
 have n2:o6 Tryz.prog 3=true:=A0a
 simp +decide (maxDischargeDepth:=200) only[go_sem,Nat.reduceBEq,n1,n2,YX];refine⟨p,r,es,x,rfl,hq,hlen,hh,fun r' es' H' h1 h2 h3 h4 h5=>?_⟩;simp +decide (maxDischargeDepth:=200) only[go_sem,Nat.reduceBEq];exact hT r' es' H' h1 h2 h3 h4 h5
theorem HS:cn (bP [] [] [] (fun _=>false) (fun _=>false)) 23 Mh:=by
 refine cg (F:={F:=uX [(40,Mg)],D:=fun _=>false}) (n:=7) (k:=1) (bw [] [] [] _ _ trivial trivial trivial) A0a (fA ⟨HR,trivial⟩) (fun t s C e=>by cases e) Tryz.func23 rfl (fun a w=>Tryz.call23 a w) Tryz.ntmps23 A0c A0c A0a ?_;rintro us H T ⟨p,r,es,rfl,hq,hne,hh,hT⟩ hdat;clear hdat;refine⟨rfl,?_⟩;have n1:o6 Tryz.prog 59=true:=A0a
 have n2:o6 Tryz.prog 3=true:=A0a
 simp +decide (maxDischargeDepth:=200) only[go_sem,Nat.reduceBEq,n1,YX];refine⟨p,r,es,rfl,hq,hne,hh,fun r' x es' H' h1 h2 h3 h4 h5 h6=>?_⟩;simp +decide (maxDischargeDepth:=200) only[go_sem,Nat.reduceBEq,n2];exact hT r' x es' H' h1 h2 h3 h4 h5 h6
end Go.Proofs.YtmfojhkjbkombaaGreat
