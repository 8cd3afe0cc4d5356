/- Chapter 13: the knots: what hangs on a place, of those whose heads are not known yet. -/
import Derived.Test.YtmfojhkjbkombaaMHx
import Derived.Test.YtmfojhkjbkombaaMK
import Derived.Test.YtmfojhkjbkombaaMPO
import Derived.Sort.Lot0
namespace Go.Proofs.Ytmfojhkjbkombaa
set_option linter.unusedSimpArgs false
set_option maxHeartbeats 64000000
set_option maxRecDepth 100000
open Go Go.RowKit
attribute [go_sem] Try.results9 Try.results10 Try.results11 Try.results12 Try.results20 Try.results22 Try.results23 Try.results34 Try.results106 Try.results107 Try.results108 Try.results110
abbrev iv (i:Int):Value:= .int .i64 i
def gF (C:List C3) (R S:List (List Int)):V:= .agg [.sl false 3 (C.map aa) none,.sl false 1 (R.map rI) none,.sl false 1 (S.map rI) none]
def rowZ (S:List (List Int)) (i:Int):List Int:=(S[i.toNat]?).getD []
def bE (n:Nat) (S:List (List Int)):Prop:=S.length=n∧n<=400∧∀r∈S,r.length<=100000000∧∀i∈r,0<=i∧i.toNat<n
inductive ReachU (S:List (List Int)) (L0:List Int) (st:Int):Int->Prop
 |refl:ReachU S L0 st st
 |step {x r:Int} (h:ReachU S L0 st x) (hr:r∈rowZ S x) (hn:L0[r.toNat]?=some (-1)):ReachU S L0 st r
structure HangI (S:List (List Int)) (L0:List Int) (st:Int) (f L:List Int):Prop where
 len:L.length=L0.length
 nd:f.Nodup
 mem:∀x∈f,(0<=x∧x.toNat<L0.length)∧L0[x.toNat]?=some (-1)∧ReachU S L0 st x
 val:∀j:Nat,L[j]?=if ((j:Nat):Int)∈f then some st else L0[j]?
 start:st∈f
def zE (S:List (List Int)) (L x:List Int):Prop:=∀y∈x,∀r∈rowZ S y,L[r.toNat]?≠some (-1)
def Mv (us:List V) (H:HH) (T:V->HH->Prop):Prop:=∃C R S st g L0 ty,us=[gF C R S,au st,.x (.slice (some ⟨g,0,none⟩) L0.length L0.length)]∧bE L0.length S∧H g=some (rowO (L0.map iv) ty)∧0<=st∧L0[st.toNat]?=some (-1)∧
 ∀f L H',HangI S L0 st f L->zE S L f->(∀y,y≠g->H' y=H y)->H' g=some (rowO (L.map iv) ty)->T (.sl false 1 (f.map au) none) H'
variable {S:List (List Int)} {L0:List Int} {st:Int}
theorem HangI.first (h0:0<=st) (hs:L0[st.toNat]?=some (-1)):HangI S L0 st [st] (L0.set st.toNat st):=by
 have hl:=(tl.1 hs).1;refine⟨ZW,(aaV _ _),fun x hx=>?_,fun j=>?_,Zn.2 rfl⟩
 . rw[Zn] at hx;subst hx;exact⟨⟨h0,hl⟩,hs,.refl⟩
 . rw[ZU];by_cases e:st.toNat=j
   . subst e;rw[Zp rfl,Zp hl,Zp (by rw[Zn];omega)]
   . rw[Zs e,Zs (by rw[Zn];omega)]
variable {f L:List Int}
theorem HangI.neg (h:HangI S L0 st f L) (h0:0<=st) {r:Int} (hr:0<=r) (hn:L[r.toNat]?=some (-1)):r∉f∧L0[r.toNat]?=some (-1):=by
 have:=h.val r.toNat;rw[hn] at this;split at this
 . cases this;omega
 . rename_i e;exact⟨fun hm=>e (by rwa [aal hr]),this.symm⟩
theorem HangI.push (h:HangI S L0 st f L) (h0:0<=st) {x r:Int} (hx:x∈f) (hr:r∈rowZ S x) (hr0:0<=r) (hn:L[r.toNat]?=some (-1)):HangI S L0 st (f++[r]) (L.set r.toNat st):=by
 obtain⟨h1,h2⟩:=h.neg h0 hr0 hn;have hl:=(tl.1 hn).1;refine⟨by rw[ZW];exact h.len,aaI.2 ⟨h.nd,(aaV _ _),fun a ha b hb=>?_⟩,fun y hy=>?_,fun j=>?_,Z6 _ h.start⟩
 . rw[Zn] at hb;subst hb;exact fun e=>h1 (e▸ha)
 . rcases Zv.1 hy with hy|hy
   . exact h.mem y hy
   . rw[Zn] at hy;subst hy;exact⟨⟨hr0,by have:=h.len;omega⟩,h2,.step (h.mem x hx).2.2 hr h2⟩
 . rw[ZU];by_cases e:r.toNat=j
   . subst e;rw[Zp rfl,Zp hl,Zp (aaL _ (by rw[Zn];omega))]
   . rw[Zs e,h.val j];have hiff:((j:Nat):Int)∈f↔((j:Nat):Int)∈f++[r]:=by rw[Zv,Zn];exact⟨.inl,fun h=>h.resolve_right A0c ⟩
     simp only[hiff]
theorem H6 {x:List Int} (h:zE S L x) (h0:0<=st) (i:Nat):zE S (L.set i st) x:=fun y hy r hr e=>by
 rw[ZU] at e;split at e
 . split at e
   . cases e;omega
   . cases e
 . exact h y hy r hr e
variable {n:Nat}
theorem H7 {E:Env} {el by':Nat} {z:List V} (h1:aY E.P el=some n) (hby:bN E.P el=some by') (hz:az E.P el=some z) (h4:n≠0) (h5:z.length=n) {es:List V} {v:V} (hc:v.cells.all V.cell=true) (hb:(es.length+1)*by'<=140737488355328) (hl:es.length+1<=9223372036854775807) (hne:es≠[]) (st:St) (d tok:Nat) (nl:Bool) (t':Option Nat):
 cS E st (some d) el (.sl false n es (some tok)) (.sl nl n [v] t')=some ⟨upd (strip tok (strip d st.t)) d (.sl false n (es++[v]) (some d)),aC E tok (aC E d st.b)⟩:=by
 have:=ff h1 hby hz h4 h5 hc hb hl st d tok nl t'
 rwa [show es.isEmpty=false by cases es<;>simp_all] at this
theorem H8:cn (bz [] [] [] (fun d=>d==16) (fun _=>false)) 20 Mv:=by
 refine cf (F:={F:=fun _=>none,D:=fun _=>false}) (n:=51) (k:=3) (bi [] [] [] _ _ trivial trivial trivial) A0a (fun f C e=>by cases e) (fun t s C e=>by cases e) Try.func20 rfl (fun a w=>Try.call20 a w) Try.ntmps20 A0b A0b A0a ?_;rintro us H T ⟨C,R,S,st,g,L0,ty,rfl,⟨hSl,hn4,hS⟩,hH,h0,hs,hT⟩ hdat;clear hdat;refine⟨rfl,?_⟩;have hl0:=(tl.1 hs).1;have c0:=aS hH;have hx:∀{L:List Int} {i:Int},0<=i->(((L.map iv).map V.x)[i.toNat]?=(L[i.toNat]?).map au):=fun {L i} _=>by rw[aat,Io];rfl
 simp only[gF];have z52:pj Try.prog 43=some 1:=A0a
 have hl1:st<(L0.length:Int):=A0c
 have hl2:st.toNat+1<=L0.length:=A0c
 have hsp0:eL (L0.map iv) st.toNat [.int .i64 st]=(L0.set st.toNat st).map iv:=by rw[cz _ _ _ A0z,abO]
 simp +decide (maxDischargeDepth:=200) only[go_sem,Nat.reduceBEq,z52,Zx,Zm,io,c0,h0,hl1,hl2,hsp0];refine bf (X:={q:Nat×List Int×List Int×Nat//HangI S L0 st q.2.1 q.2.2.1∧q.1<=q.2.1.length∧zE S q.2.2.1 (q.2.1.take q.1)}) (fun q=>[(1,au st),(2,.x (.slice (some ⟨g,0,none⟩) L0.length L0.length)),(3,.ptr 3 0),(7,.sl false 1 (q.1.2.1.map au) (some q.1.2.2.2)),(8,au ((q.1.1:Nat):Int))]) (fun _=>[(3,[.sl false 3 (C.map aa) none,.sl false 1 (R.map rI) none,.sl false 1 (S.map rI) none])]) (fun q H'=>(∀y,y≠g->H' y=H y)∧H' g=some (rowO (q.1.2.2.1.map iv) ty)) (fun q=>L0.length-q.1.1) ⟨(0,[st],L0.set st.toNat st,16),.first h0 hs,Z0 _,fun y hy=>by simp at hy⟩ A0e A0e ⟨fun y hy=>ag _ _ hy,ai _ _ _⟩ ?_;rintro⟨⟨i,f,L,tok⟩,hI,hi,hc⟩ H1 ⟨hH1,hH2⟩;simp only at hI hi hc hH1 hH2⊢;have hfl:f.length<=L0.length:=cK hI.nd (fun x hx=>(hI.mem x hx).1);by_cases hil:i<f.length
 case neg=>have d1:decide ((i:Int)<(f.length:Int))=false:=Zl A0c;rw[ZX A0c] at hc;simp +decide (maxDischargeDepth:=200) only[go_sem,Nat.reduceBEq,io,d1];exact hT f L H1 hI hc hH1 hH2
 have d1:decide ((i:Int)<(f.length:Int))=true:=Zk A0c;have d2:(0:Int)<=(i:Int):=A0c
 have d3:(i:Int)<(f.length:Int):=A0c
 have d4:=aQ (i:=i) A0c;have q1:f[i]?=some f[i]:=eq hil;have q2:(f.map au)[((i:Nat):Int).toNat]?=some (au f[i]):=by rw[iO,Io,q1];rfl
 have hxm:f[i]∈f:=Z1 hil;generalize f[i]=x at q1 q2 hxm;obtain⟨⟨x0,xl⟩,_,_⟩:=hI.mem x hxm;have b2:x<(S.length:Int):=A0c
 obtain⟨rs,hrs⟩:∃rs,S[x.toNat]?=some rs:=⟨_,eq A0c ⟩;have hrz:rowZ S x=rs:=by unfold rowZ;rw[hrs];rfl
 obtain⟨hr8,hrr⟩:=hS rs (Zo hrs)
 obtain⟨b,z,hbz,hz1⟩:∃b z,rI rs= .sl b z (rs.map au) none∧(rs≠[]->z=1):=⟨_,_,rfl,fun h=>by unfold Tk;cases rs with
  |nil=>exact absurd rfl h
  |cons _ _=>rfl⟩
 have a2:(S.map rI)[x.toNat]?=some (.sl b z (rs.map au) none):=by rw[Io,hrs,<-hbz];rfl
 simp +decide (maxDischargeDepth:=200) only[go_sem,Nat.reduceBEq,io,d1,d2,d3,q2,x0,b2,a2];refine bf (X:={q:Nat×List Int×List Int×Nat//HangI S L0 st q.2.1 q.2.2.1∧q.1<=rs.length∧(∃e,q.2.1=f++e)∧zE S q.2.2.1 (f.take i)∧∀r∈rs.take q.1,q.2.2.1[r.toNat]?≠some (-1)}) (fun q=>[(1,au st),(2,.x (.slice (some ⟨g,0,none⟩) L0.length L0.length)),(3,.ptr 3 0),(7,.sl false 1 (q.1.2.1.map au) (some q.1.2.2.2)),(8,au (i:Int)),(30,.sl b z (rs.map au) none),(31,au (rs.length:Int)),(32,au ((q.1.1:Nat):Int))]) (fun _=>[(3,[.sl false 3 (C.map aa) none,.sl false 1 (R.map rI) none,.sl false 1 (S.map rI) none])]) (fun q H'=>(∀y,y≠g->H' y=H y)∧H' g=some (rowO (q.1.2.2.1.map iv) ty)) (fun q=>rs.length-q.1.1) ⟨(0,f,L,tok),hI,Z0 _,⟨[],(aaw _).symm⟩,hc,fun r hr=>by simp at hr⟩ A0e A0e ⟨hH1,hH2⟩ ?_;clear hI hi hc hH1 hH2 H1 hfl;rintro⟨⟨k,f1,L1,tk⟩,hI,hk,⟨e,he⟩,hc,hdone⟩ H1 ⟨hH1,hH2⟩;simp only at hI hk he hc hdone hH1 hH2⊢;have hfl:f1.length<=L0.length:=cK hI.nd (fun x hx=>(hI.mem x hx).1);by_cases hkl:k<rs.length
 case neg=>
  have e1:decide ((k:Int)<(rs.length:Int))=false:=Zl A0c;rw[ZX A0c] at hdone;simp +decide (maxDischargeDepth:=200) only[go_sem,Nat.reduceBEq,io,e1,d4];have hi1:i+1<=f1.length:=by rw[he,Zr];omega
  refine⟨⟨(i+1,f1,L1,tk),hI,hi1,fun y hy=>?_⟩,⟨?_,?_,hH1,hH2⟩,by simp only;omega⟩
  . simp only[he] at hy⊢;rw[aaj A0c,aO q1,Zv,Zn] at hy;rcases hy with hy|rfl
    . exact hc y hy
    . rw[hrz];exact hdone
  . simp +decide (maxDischargeDepth:=200) only[go_sem,Nat.reduceBEq]
  . simp +decide (maxDischargeDepth:=200) only[go_sem,Nat.reduceBEq]
 obtain rfl:=hz1 (fun h=>by rw[h] at hkl;cases hkl);have e1:decide ((k:Int)<(rs.length:Int))=true:=Zk A0c;have e2:(0:Int)<=(k:Int):=A0c
 have e3:(k:Int)<(rs.length:Int):=A0c
 have e4:=aQ (i:=k) A0c;have p1:rs[k]?=some rs[k]:=eq hkl;have p2:(rs.map au)[((k:Nat):Int).toNat]?=some (au rs[k]):=by rw[iO,Io,p1];rfl
 have hrm:rs[k]∈rs:=Z1 hkl;generalize rs[k]=r at p1 p2 hrm;obtain⟨r0,rl⟩:=hrr r hrm;have r2:r<(L0.length:Int):=A0c
 have r3:r.toNat+1<=L1.length:=by have:=hI.len;omega
 have c1:=aS hH2;obtain⟨y,hy⟩:∃y,L1[r.toNat]?=some y:=⟨_,eq A0c ⟩;have p4:((L1.map iv).map V.x)[r.toNat]?=some (au y):=by rw[aat,Io,hy];rfl
 have hxf:x∈f1:=by rw[he];exact Z6 _ hxm
 by_cases hyn:y= -1
 case neg=>
  have e5:decide (y= -1)=false:=Zl hyn;simp +decide (maxDischargeDepth:=200) only[go_sem,Nat.reduceBEq,z52,Zx,Zm,io,c1,e1,e2,e3,e4,p2,p4,r0,r2,e5];refine⟨⟨(k+1,f1,L1,tk),hI,hkl,⟨e,he⟩,hc,fun r' hr'=>?_⟩,⟨?_,?_,hH1,hH2⟩,by simp only;omega⟩
  . simp only at hr'⊢;rw[aO p1,Zv,Zn] at hr';rcases hr' with hr'|rfl
    . exact hdone r' hr'
    . rw[hy];exact fun h=>hyn (by cases h;rfl)
  . simp +decide (maxDischargeDepth:=200) only[go_sem,Nat.reduceBEq]
  . simp +decide (maxDischargeDepth:=200) only[go_sem,Nat.reduceBEq]
 subst hyn;have hI2:=hI.push h0 hxf (hrz▸hrm) r0 hy;have hfl2:(f1++[r]).length<=L0.length:=cK hI2.nd (fun x hx=>(hI2.mem x hx).1);rw[Zr,aai] at hfl2;have g1:=H7 (E:=(bz [] [] [] (fun d=>d==16) (fun _=>false))) (el:=3) (n:=1) OR OS OT A0b rfl (es:=f1.map au) (v:=au r) rfl A0z A0z (by rw[he];intro h;have:=List.map_eq_nil_iff.1 h;simp at this;rw[this.1] at hxm;cases hxm);have hsp:eL (L1.map iv) r.toNat [.int .i64 st]=(L1.set r.toNat st).map iv:=by rw[cz _ _ _ A0z,abO]
 simp +decide (maxDischargeDepth:=200) only[go_sem,Nat.reduceBEq,z52,Zx,Zm,io,c1,e1,e2,e3,e4,p2,p4,r0,r2,r3,g1,hsp];refine⟨⟨(k+1,f1++[r],L1.set r.toNat st,48),hI2,hkl,⟨e++[r],by rw[he,aam]⟩,H6 hc h0 _,fun r' hr'=>?_⟩,⟨?_,?_,fun y hy=>(ag _ _ hy).trans (hH1 y hy),ai _ _ _⟩,by simp only;omega⟩
 . simp only at hr'⊢;rw[aO p1,Zv,Zn] at hr';rw[ZU];intro h;split at h
   . split at h
     . cases h;omega
     . cases h
   . rename_i hne;rcases hr' with hr'|rfl
     . exact hdone r' hr' h
     . exact hne rfl
 . simp +decide (maxDischargeDepth:=200) only[go_sem,Nat.reduceBEq,ZY]
 . simp +decide (maxDischargeDepth:=200) only[go_sem,Nat.reduceBEq]
theorem qn (rs:List Int):∃b z,rI rs= .sl b z (rs.map au) none∧(rs≠[]->z=1):=⟨_,_,rfl,fun h=>by
 unfold Tk;cases rs with
 |nil=>exact absurd rfl h
 |cons _ _=>rfl⟩
theorem e7 {α:Type} (f:Nat->α) (i:Nat) (a b:α):upd (upd f i a) i b=upd f i b:=by funext k;rw[aB,aB,aB];split<;>rfl
def atI (l:List Int) (i:Int):Int:=(l[i.toNat]?).getD 0
variable {l:List Int}
theorem eg {i x:Int} (h:l[i.toNat]?=some x):atI l i=x:=by unfold atI;rw[h];rfl
theorem eM {i:Nat} {x:Int} (h:l[i]?=some x):atI l (i:Int)=x:=eg (by rwa [iO])
def w1 (h:List Int) (a:Int) (W:List Int) (r:Int):List Int:=if atI h r=a then W else W.set a.toNat (atI W a+1)
def Lz (R:List (List Int)) (h W:List Int) (i:Nat):List Int:=(rowZ R (i:Int)).foldl (w1 h (atI h (i:Int))) W
def aW (R:List (List Int)) (h:List Int) (n:Nat):List Int:=(List.range n).foldl (Lz R h) (List.replicate h.length 0)
theorem mq (R:List (List Int)) (h:List Int) (i:Nat):aW R h (i+1)=Lz R h (aW R h i) i:=by unfold aW;rw[abg,abb];rfl
def H9 (us:List V) (H:HH) (T:V->HH->Prop):Prop:=∃C R S hs,us=[gF C R S,.sl false 1 (hs.map au) none]∧bE hs.length R∧(∀x∈hs,0<=x∧x.toNat<hs.length)∧
 ∀g ty,H g=none->T (.x (.slice (some ⟨g,0,none⟩) hs.length hs.length)) (upd H g (some (rowO ((aW R hs hs.length).map iv) ty)))
def okWt (n:Nat) (m:Int) (W:List Int):Prop:=W.length=n∧∀x∈W,0<=x∧x<=m
variable {m:Int} {W:List Int}
theorem okWt.mono {m':Int} (h:okWt n m W) (hm:m<=m'):okWt n m' W:=⟨h.1,fun x hx=>⟨(h.2 x hx).1,by have:=(h.2 x hx).2;omega⟩⟩
theorem okWt.set (h:okWt n m W) (i:Nat) {x:Int} (hx:0<=x∧x<=m):okWt n m (W.set i x):=⟨by rw[ZW];exact h.1,fun y hy=>by
 rcases abH hy with hy|rfl
 . exact h.2 y hy
 . exact hx⟩
theorem DV:cn (bz [] [] [] (fun _=>false) (fun _=>false)) 9 H9:=by
 refine cf (F:={F:=fun _=>none,D:=fun d=>d==12}) (n:=45) (k:=2) (bi [] [] [] _ _ trivial trivial trivial) A0a (fun f C e=>by cases e) (fun t s C e=>by cases e) Try.func9 rfl (fun a w=>Try.call9 a w) Try.ntmps9 A0b A0b A0a ?_;rintro us H T ⟨C,R,S,hs,rfl,⟨hRl,hn4,hR⟩,hh,hT⟩ hdat;clear hdat;refine⟨rfl,?_⟩;simp only[gF];have m52:Lg Try.prog 43=some (3,1,8,.int .i64 0):=A0a
 have z52:pj Try.prog 43=some 1:=A0a
 have l1:((8:Nat):Int)*(hs.length:Int)<=281474976710656:=A0c
 have l2:(hs.length:Int)<=9223372036854775807:=A0c
 have l3:(0:Int)<=(hs.length:Int):=A0c
 simp +decide (maxDischargeDepth:=200) only[go_sem,Nat.reduceBEq,m52,z52,io,l1,l2,l3,iO,Zx];intro g hg;refine bf (X:={i:Nat//i<=hs.length∧okWt hs.length ((i:Int)*100000000) (aW R hs i)}) (fun i=>[(1,.sl false 1 (hs.map au) none),(2,.ptr 2 0),(5,.x (.slice (some ⟨g,0,none⟩) hs.length hs.length)),(13,.sl false 1 (hs.map au) none),(14,au (hs.length:Int)),(15,au ((i.1:Nat):Int))]) (fun _=>[(2,[.sl false 3 (C.map aa) none,.sl false 1 (R.map rI) none,.sl false 1 (S.map rI) none])]) (fun i H'=>H'=upd H g (some (rowO ((aW R hs i.1).map iv) 3))) (fun i=>hs.length-i.1) ⟨0,Z0 _,by simp[aW],fun x hx=>by simp[aW] at hx;omega⟩ A0e A0e (by show upd H g _=_;simp[aW]) ?_;rintro⟨i,hi,hW⟩ H1 rfl;simp only at hi hW⊢;by_cases hil:i<hs.length
 case neg=>
  obtain rfl:i=hs.length:=A0c
  have d1:decide ((hs.length:Int)<(hs.length:Int))=false:=Zl A0c;simp +decide (maxDischargeDepth:=200) only[go_sem,Nat.reduceBEq,io,d1];exact hT g _ hg
 have d1:decide ((i:Int)<(hs.length:Int))=true:=Zk A0c;have d2:(0:Int)<=(i:Int):=A0c
 have d3:(i:Int)<(hs.length:Int):=A0c
 have d4:=aQ (i:=i) A0c;have q1:hs[i]?=some hs[i]:=eq hil;have q2:(hs.map au)[((i:Nat):Int).toNat]?=some (au hs[i]):=by rw[iO,Io,q1];rfl
 have qm:hs[i]∈hs:=Z1 hil;generalize hs[i]=a at q1 q2 qm;obtain⟨a0,al⟩:=hh a qm;have i2:(i:Int)<(R.length:Int):=A0c
 obtain⟨rs,hrsr⟩:∃rs,R[((i:Nat):Int).toNat]?=some rs:=⟨_,eq A0c ⟩;obtain⟨br,zr,hbzr,hzr⟩:∃b z,rI rs= .sl b z (rs.map au) none∧(rs≠[]->z=1):=qn rs;have arr:(R.map rI)[((i:Nat):Int).toNat]?=some (.sl br zr (rs.map au) none):=by rw[Io,hrsr,<-hbzr];rfl
 obtain⟨hr8,hrr⟩:=hR rs (Zo hrsr);have hrz:rowZ R (i:Int)=rs:=by unfold rowZ;rw[hrsr];rfl
 have hai:atI hs (i:Int)=a:=eM q1;simp +decide (maxDischargeDepth:=200) only[go_sem,Nat.reduceBEq,io,d1,d2,d3,q2,i2,arr];refine bf (X:={k:Nat//k<=rs.length∧okWt hs.length ((i:Int)*100000000+(k:Int)) ((rs.take k).foldl (w1 hs a) (aW R hs i))}) (fun k=>[(1,.sl false 1 (hs.map au) none),(2,.ptr 2 0),(5,.x (.slice (some ⟨g,0,none⟩) hs.length hs.length)),(7,au a),(13,.sl false 1 (hs.map au) none),(14,au (hs.length:Int)),(15,au (i:Int)),(24,.sl br zr (rs.map au) none),(25,au (rs.length:Int)),(26,au ((k.1:Nat):Int))]) (fun _=>[(2,[.sl false 3 (C.map aa) none,.sl false 1 (R.map rI) none,.sl false 1 (S.map rI) none])]) (fun k H'=>H'=upd H g (some (rowO (((rs.take k.1).foldl (w1 hs a) (aW R hs i)).map iv) 3))) (fun k=>rs.length-k.1) ⟨0,Z0 _,by simpa using hW⟩ A0e A0e A0l ?_;rintro⟨k,hk,hW1⟩ H1 rfl;simp only at hk hW1⊢;by_cases hkl:k<rs.length
 case neg=>
  have e1:decide ((k:Int)<(rs.length:Int))=false:=Zl A0c;rw[ZX A0c] at hW1⊢;have hs1:aW R hs (i+1)=rs.foldl (w1 hs a) (aW R hs i):=by rw[mq];unfold Lz;rw[hrz,hai]
  simp +decide (maxDischargeDepth:=200) only[go_sem,Nat.reduceBEq,io,e1,d4];refine⟨⟨i+1,hil,by rw[hs1];exact hW1.mono A0c ⟩,⟨?_,?_,by simp only[hs1]⟩,by simp only;omega⟩
  . simp +decide (maxDischargeDepth:=200) only[go_sem,Nat.reduceBEq]
  . simp +decide (maxDischargeDepth:=200) only[go_sem,Nat.reduceBEq]
 obtain rfl:=hzr (fun h=>by rw[h] at hkl;cases hkl);have e1:decide ((k:Int)<(rs.length:Int))=true:=Zk A0c;have e2:(0:Int)<=(k:Int):=A0c
 have e3:(k:Int)<(rs.length:Int):=A0c
 have e4:=aQ (i:=k) A0c;have p1:rs[k]?=some rs[k]:=eq hkl;have p2:(rs.map au)[((k:Nat):Int).toNat]?=some (au rs[k]):=by rw[iO,Io,p1];rfl
 have pm:rs[k]∈rs:=Z1 hkl;generalize rs[k]=r at p1 p2 pm;obtain⟨r0,rl⟩:=hrr r pm;have r2:r<(hs.length:Int):=A0c
 obtain⟨y,hy⟩:∃y,hs[r.toNat]?=some y:=⟨_,eq rl⟩;have p4:(hs.map au)[r.toNat]?=some (au y):=by rw[Io,hy];rfl
 have hst:(rs.take (k+1)).foldl (w1 hs a) (aW R hs i)=w1 hs a ((rs.take k).foldl (w1 hs a) (aW R hs i)) r:=by rw[aO p1,abb];rfl
 generalize hWW:(rs.take k).foldl (w1 hs a) (aW R hs i)=W at hW1 hst⊢;by_cases hya:y=a
 . have hst':(rs.take (k+1)).foldl (w1 hs a) (aW R hs i)=W:=by rw[hst];exact Zp ((eg hy).trans hya)
   have e5:decide (y=a)=true:=Zk hya;simp +decide (maxDischargeDepth:=200) only[go_sem,Nat.reduceBEq,io,e1,e2,e3,e4,p2,p4,r0,r2,e5,abd];refine⟨⟨k+1,hkl,by rw[hst'];exact hW1.mono A0c ⟩,⟨?_,?_,by simp only[hst']⟩,by simp only;omega⟩
   . simp +decide (maxDischargeDepth:=200) only[go_sem,Nat.reduceBEq]
   . simp +decide (maxDischargeDepth:=200) only[go_sem,Nat.reduceBEq]
 have e5:decide (y=a)=false:=Zl hya;have hst':(rs.take (k+1)).foldl (w1 hs a) (aW R hs i)=W.set a.toNat (atI W a+1):=by rw[hst];exact Zs (by rw[eg hy];exact hya)
 have aL:a.toNat<W.length:=by rw[hW1.1];exact al
 obtain⟨v,hv⟩:∃v,W[a.toNat]?=some v:=⟨_,eq aL⟩;rw[eg hv] at hst';obtain⟨v0,v1⟩:=hW1.2 v (Zo hv);have v2:aw .i64 (v+1)=v+1:=aj A0j;have c1:=aS (H:=upd H g (some (rowO (W.map iv) 3))) (ai _ _ _);have p5:((W.map iv).map V.x)[a.toNat]?=some (au v):=by rw[aat,Io,hv];rfl
 have a2:a<(hs.length:Int):=A0c
 have a3:a.toNat+1<=W.length:=aL;have hsp:eL (W.map iv) a.toNat [.int .i64 (v+1)]=(W.set a.toNat (v+1)).map iv:=by rw[cz _ _ _ (by rw[io];exact aL),abO]
 simp +decide (maxDischargeDepth:=200) only[go_sem,Nat.reduceBEq,z52,Zx,Zm,io,e1,e2,e3,e4,p2,p4,p5,r0,r2,e5,c1,a0,a2,a3,v2,hsp,abR];refine⟨⟨k+1,hkl,by rw[hst'];exact(hW1.mono A0c).set _ A0c ⟩,⟨?_,?_,by simp only[hst',e7]⟩,by simp only;omega⟩
 . simp +decide (maxDischargeDepth:=200) only[go_sem,Nat.reduceBEq]
 . simp +decide (maxDischargeDepth:=200) only[go_sem,Nat.reduceBEq]
def To (us:List V) (H:HH) (T:V->HH->Prop):Prop:=∃a l c,us=[.x (.slice a l c)]∧T (au (l:Int)) H
variable {H:HH} {v:Value} {es:List Int}
theorem RowJ.cell {i:Nat} {x:Int} (h:RowJ H v es) (hi:es[i]?=some x):∃g cap l ty,v= .slice (some ⟨g,0,none⟩) es.length cap∧H g=some (rowO l ty)∧es.length<=cap∧l.length=cap∧∀(j:Nat) (y:Int),es[j]?=some y->l[j]?=some (iv y):=by
 rcases h with⟨rfl,_⟩|⟨g,cap,cur,ty,rfl,hH,hc,hs,hl⟩
 . cases hi
 . exact⟨g,cap,cur.toList,ty,rfl,by rw[hH];simp[rowO],hc,by simpa using hs,fun j y hj=>by rw[ZG];exact hl j y hj⟩
def Tp (us:List V) (H:HH) (T:V->HH->Prop):Prop:=∃v es i j x y,us=[.x v,au ((i:Nat):Int),au ((j:Nat):Int)]∧RowJ H v es∧es[i]?=some x∧es[j]?=some y∧T (.x (.bool (decide (x<y)))) H
def cY (es:List Int) (i j:Nat) (x y:Int):List Int:=(es.set i y).set j x
def Tq (us:List V) (H:HH) (T:V->HH->Prop):Prop:=∃v es i j x y,us=[.x v,au ((i:Nat):Int),au ((j:Nat):Int)]∧RowJ H v es∧es[i]?=some x∧es[j]?=some y∧∀g ob,blkOf v=some g->RowJ (upd H g (some ob)) v (cY es i j x y)->T (.tup []) (upd H g (some ob))
theorem vW:cn (bz [] [] [] (fun _=>false) (fun _=>false)) 11 To:=by
 refine cf (F:={F:=fun _=>none,D:=fun _=>false}) (n:=5) (k:=1) (bi [] [] [] _ _ trivial trivial trivial) A0a (fun f C e=>by cases e) (fun t s C e=>by cases e) Try.func11 rfl (fun a w=>Try.call11 a w) Try.ntmps11 A0b A0b A0a ?_;rintro us H T ⟨a,l,c,rfl,hT⟩ hdat;refine⟨rfl,?_⟩;have z73:pj Try.prog 48=some 1:=A0a
 simp +decide (maxDischargeDepth:=200) only[go_sem,Nat.reduceBEq,z73];exact hT
def Ts (v:Value) (g i j:Nat) (x y:Int):Nat->V
 |7=> .x v|8=>au (i:Int)|9=> .x (.pointer (some ⟨g,i,none⟩))|10=>au x|11=> .x v|12=>au (j:Int)|13=> .x (.pointer (some ⟨g,j,none⟩))|14=>au y|_=> .x (.bool (decide (x<y)))
theorem DW:cn (bz [] [] [] (fun _=>false) (fun _=>false)) 106 Tp:=by
 refine cf (F:={F:=fun _=>none,D:=fun _=>false,any:=fun i=>i==1}) (n:=16) (k:=3) (bi [] [] [] _ _ trivial trivial trivial) A0a (fun f C e=>by cases e) (fun t s C e=>by cases e) Try.func106 rfl (fun a w=>Try.call106 a w) Try.ntmps106 A0b A0b A0a ?_;rintro us H T ⟨v,es,i,j,x,y,rfl,hr,hi,hj,hT⟩ hdat;clear hdat;refine⟨rfl,?_⟩;have z73:pj Try.prog 48=some 1:=A0a
 obtain⟨g,cap,l,ty,rfl,hH,hc,hl,hcell⟩:=hr.cell hi;have c1:=aS hH;have il:=(tl.1 hi).1;have jl:=(tl.1 hj).1;have p1:(l.map V.x)[i]?=some (au x):=by rw[Io,hcell i x hi];rfl
 have p2:(l.map V.x)[j]?=some (au y):=by rw[Io,hcell j y hj];rfl
 have i0:(0:Int)<=(i:Int):=A0c
 have j0:(0:Int)<=(j:Int):=A0c
 have i1:(i:Int)<(es.length:Int):=A0c
 have j1:(j:Int)<(es.length:Int):=A0c
 simp +decide (maxDischargeDepth:=200) only[go_sem,Nat.reduceBEq];refine lG (fun k=>match k with|2=>[7,8]|3=>[9]|6=>[11,12]|7=>[13]|8=>[10,14]|9=>[15]|_=>[]) (Ts (.slice (some ⟨g,0,none⟩) es.length cap) g i j x y) [(6,.x (.bool (decide (x<y))))] [] A0a A0a ?_ ?_
 . intro st k o ho hn hb hbb;have b0:st.t 0= .x (.slice (some ⟨g,0,none⟩) es.length cap):=hb 0 A0a;have b1:st.t 1=au (i:Int):=hb 1 A0a;have b2:st.t 2=au (j:Int):=hb 2 A0a;clear hb;rcases k with _|_|_|_|_|_|_|_|_|_|k
   . cases ho;simp +decide (maxDischargeDepth:=200) only[go_sem,Nat.reduceBEq,b0,b1,b2,z73,c1,p1,p2,i0,i1,j0,j1,Zx,Zm,iO];exact⟨_,fun _ _=>rfl,rfl,Le.refl _⟩
   . cases ho;simp +decide (maxDischargeDepth:=200) only[go_sem,Nat.reduceBEq,b0,b1,b2,z73,c1,p1,p2,i0,i1,j0,j1,Zx,Zm,iO];exact⟨_,fun _ _=>rfl,rfl,Le.refl _⟩
   . cases ho;have h7:st.t 7= .x (.slice (some ⟨g,0,none⟩) es.length cap):=hn 7 A0b;have h8:st.t 8=au (i:Int):=hn 8 A0b;simp +decide (maxDischargeDepth:=200) only[go_sem,Nat.reduceBEq,b0,b1,b2,h7,h8,z73,c1,p1,p2,i0,i1,j0,j1,Zx,Zm,iO];exact⟨_,fun _ _=>rfl,rfl,Le.refl _⟩
   . cases ho;have h9:st.t 9= .x (.pointer (some ⟨g,i,none⟩)):=hn 9 A0b;simp +decide (maxDischargeDepth:=200) only[go_sem,Nat.reduceBEq,b0,b1,b2,h9,z73,c1,p1,p2,i0,i1,j0,j1,Zx,Zm,iO];exact⟨_,fun _ _=>rfl,rfl,Le.refl _⟩
   . cases ho;simp +decide (maxDischargeDepth:=200) only[go_sem,Nat.reduceBEq,b0,b1,b2,z73,c1,p1,p2,i0,i1,j0,j1,Zx,Zm,iO];exact⟨_,fun _ _=>rfl,rfl,Le.refl _⟩
   . cases ho;simp +decide (maxDischargeDepth:=200) only[go_sem,Nat.reduceBEq,b0,b1,b2,z73,c1,p1,p2,i0,i1,j0,j1,Zx,Zm,iO];exact⟨_,fun _ _=>rfl,rfl,Le.refl _⟩
   . cases ho;have h11:st.t 11= .x (.slice (some ⟨g,0,none⟩) es.length cap):=hn 11 A0b;have h12:st.t 12=au (j:Int):=hn 12 A0b;simp +decide (maxDischargeDepth:=200) only[go_sem,Nat.reduceBEq,b0,b1,b2,h11,h12,z73,c1,p1,p2,i0,i1,j0,j1,Zx,Zm,iO];exact⟨_,fun _ _=>rfl,rfl,Le.refl _⟩
   . cases ho;have h13:st.t 13= .x (.pointer (some ⟨g,j,none⟩)):=hn 13 A0b;simp +decide (maxDischargeDepth:=200) only[go_sem,Nat.reduceBEq,b0,b1,b2,h13,z73,c1,p1,p2,i0,i1,j0,j1,Zx,Zm,iO];exact⟨_,fun _ _=>rfl,rfl,Le.refl _⟩
   . cases ho;have h10:st.t 10=au x:=hn 10 A0b;have h14:st.t 14=au y:=hn 14 A0b;simp +decide (maxDischargeDepth:=200) only[go_sem,Nat.reduceBEq,b0,b1,b2,h10,h14,z73,c1,p1,p2,i0,i1,j0,j1,Zx,Zm,iO];exact⟨_,fun _ _=>rfl,rfl,Le.refl _⟩
   . cases ho;have h15:st.t 15= .x (.bool (decide (x<y))):=hn 15 A0b;simp +decide (maxDischargeDepth:=200) only[go_sem,Nat.reduceBEq,b0,b1,b2,h15,z73,c1,p1,p2,i0,i1,j0,j1,Zx,Zm,iO];exact⟨_,fun _ _=>rfl,rfl,Le.refl _⟩
   . cases ho
 . refine⟨⟨eF A0a,trivial⟩,trivial,?_⟩;simp +decide (maxDischargeDepth:=200) only[go_sem,Nat.reduceBEq];exact hT
variable {k:Nat}
theorem cP {ops:List Oper} {L:Nat} {o:Oper} (hcl:ClosedM ops L) (ho:ops[n]?=some o) (hk:(directV o).contains k=true) (hb:L.testBit k=false):L.testBit n=false:=by
 cases h:L.testBit n with
 |false=>rfl
 |true=>have:=hcl n o ho h k A05;rw[hb] at this;cases this
def Tt (v:Value) (g i j:Nat) (x y:Int):Nat->V
 |6=> .x v
 |7=>au (i:Int)
 |8=> .x v
 |9=>au (j:Int)
 |10=> .x v
 |11=>au (j:Int)
 |12=> .x (.pointer (some ⟨g,j,none⟩))
 |13=>au y
 |14=> .x v
 |15=>au (i:Int)
 |16=> .x (.pointer (some ⟨g,i,none⟩))
 |17=>au x
 |18=> .x (.pointer (some ⟨g,i,none⟩))
 |19=> .x (.pointer (some ⟨g,j,none⟩))
 |_=> .undef
def dL (l:List Value) (i j:Nat) (x y:Int) (L:Nat):List Value:=
 if L.testBit 15=true then (if L.testBit 13=true then l.set i (iv y) else l).set j (iv x) else if L.testBit 13=true then l.set i (iv y) else l
theorem bF (l:List Value) (i j:Nat) (x y:Int) (L:Nat) {k:Nat} (h1:k≠13) (h2:k≠15):dL l i j x y (L|||2^k)=dL l i j x y L:=by unfold dL;rw[ar L h1,ar L h2]
theorem DX (l:List Value) (i j:Nat) (x y:Int) (L:Nat):(dL l i j x y L).length=l.length:=by unfold dL;split<;>split<;>simp
theorem oA (l:List Value) (i j:Nat) (x y:Int) {L:Nat} (h1:L.testBit 13=false) (h2:L.testBit 15=false):dL l i j x y L=l:=by unfold dL;simp[h1,h2]
variable {y:Int}
theorem Ia {l:List Value} {i j:Nat} {x:Int} (hi:l[i]?=some (iv x)) (hj:l[j]?=some (iv y)) (L:Nat):dL l i j x y (L|||2^13)=(dL l i j x y L).set i (iv y):=by
 have hil:=(tl.1 hi).1;unfold dL;rw[ar L (show 13≠15 by decide),bR];simp only[ZD];split
 . split
   . by_cases e:i=j
     . subst e;rw[hi] at hj;cases hj;simp
     . rw[List.set_comm _ _ (fun h=>e h.symm)];simp
   . by_cases e:i=j
     . subst e;rw[hi] at hj;cases hj;simp
     . exact List.set_comm _ _ (fun h=>e h)
 . split<;>simp
theorem Ib (l:List Value) (i j:Nat) (x y:Int) (L:Nat):dL l i j x y (L|||2^15)=(dL l i j x y L).set j (iv x):=by unfold dL;rw[ar L (show 15≠13 by decide),bR];simp only[ZD];split<;>split<;>simp
theorem DY:cn (bz [] [] [] (fun _=>false) (fun _=>false)) 110 Tq:=by
 refine cf (F:={F:=fun _=>none,D:=fun _=>false,any:=fun i=>i==0}) (n:=20) (k:=3) (bi [] [] [] _ _ trivial trivial trivial) A0a (fun f C e=>by cases e) (fun t s C e=>by cases e) Try.func110 rfl (fun a w=>Try.call110 a w) Try.ntmps110 A0b A0b A0a ?_;rintro us H T ⟨v,es,i,j,x,y,rfl,hr,hi,hj,hT⟩ hdat;clear hdat;refine⟨rfl,?_⟩;have z73:pj Try.prog 48=some 1:=A0a
 obtain⟨g,cap,l,ty,rfl,hH,hc,hl,hcell⟩:=hr.cell hi;have il:=(tl.1 hi).1;have jl:=(tl.1 hj).1;have li:=hcell i x hi;have lj:=hcell j y hj;have i0:(0:Int)<=(i:Int):=A0c
 have j0:(0:Int)<=(j:Int):=A0c
 have i1:(i:Int)<(es.length:Int):=A0c
 have j1:(j:Int)<(es.length:Int):=A0c
 have i2:i+1<=l.length:=A0c
 have j2:j+1<=l.length:=A0c
 simp +decide (maxDischargeDepth:=200) only[go_sem,Nat.reduceBEq];refine jp (fun k=>match k with|6=>[10,11]|7=>[12]|10=>[14,15]|11=>[16]|12=>[6,7]|13=>[18,13]|14=>[8,9]|15=>[19,17]|_=>[]) (fun L H' val=>val=Tt (.slice (some ⟨g,0,none⟩) es.length cap) g i j x y∧(∀q,q≠g->H' q=H q)∧H' g=some (rowO (dL l i j x y L) ty)) _ A0a A0a ⟨rfl,fun _ _=>rfl,by rw[oA _ _ _ _ _ A0l A0l];exact hH⟩ ?_ ?_
 . rintro L k o H' val st ho hb hdd hcl ⟨rfl,hq,hg⟩ hn hbase hbb;have b0:st.t 0= .x (.slice (some ⟨g,0,none⟩) es.length cap):=hbase 0 A0a;have b1:st.t 1=au (i:Int):=hbase 1 A0a;have b2:st.t 2=au (j:Int):=hbase 2 A0a;clear hbase hbb hdd;have c1:=aS hg;have hlen:=DX l i j x y L;rcases k with _|_|_|_|_|_|_|_|_|_|_|_|_|_|_|_|k
   . cases ho;simp +decide (maxDischargeDepth:=200) only[go_sem,Nat.reduceBEq,b0,b1,b2,z73,Zx,Zm,iO];exact⟨_,fun _ _=>rfl,⟨rfl,hq,by rw[bF _ _ _ _ _ _ A0b A0b];exact hg⟩,Le.refl _⟩
   . cases ho;simp +decide (maxDischargeDepth:=200) only[go_sem,Nat.reduceBEq,b0,b1,b2,z73,Zx,Zm,iO];exact⟨_,fun _ _=>rfl,⟨rfl,hq,by rw[bF _ _ _ _ _ _ A0b A0b];exact hg⟩,Le.refl _⟩
   . cases ho;simp +decide (maxDischargeDepth:=200) only[go_sem,Nat.reduceBEq,b0,b1,b2,z73,Zx,Zm,iO];exact⟨_,fun _ _=>rfl,⟨rfl,hq,by rw[bF _ _ _ _ _ _ A0b A0b];exact hg⟩,Le.refl _⟩
   . cases ho;simp +decide (maxDischargeDepth:=200) only[go_sem,Nat.reduceBEq,b0,b1,b2,z73,Zx,Zm,iO];exact⟨_,fun _ _=>rfl,⟨rfl,hq,by rw[bF _ _ _ _ _ _ A0b A0b];exact hg⟩,Le.refl _⟩
   . cases ho;simp +decide (maxDischargeDepth:=200) only[go_sem,Nat.reduceBEq,b0,b1,b2,z73,Zx,Zm,iO];exact⟨_,fun _ _=>rfl,⟨rfl,hq,by rw[bF _ _ _ _ _ _ A0b A0b];exact hg⟩,Le.refl _⟩
   . cases ho;simp +decide (maxDischargeDepth:=200) only[go_sem,Nat.reduceBEq,b0,b1,b2,z73,Zx,Zm,iO];exact⟨_,fun _ _=>rfl,⟨rfl,hq,by rw[bF _ _ _ _ _ _ A0b A0b];exact hg⟩,Le.refl _⟩
   . cases ho;have h10:st.t 10= .x (.slice (some ⟨g,0,none⟩) es.length cap):=hn 10 A0b;have h11:st.t 11=au (j:Int):=hn 11 A0b;simp +decide (maxDischargeDepth:=200) only[go_sem,Nat.reduceBEq,b0,b1,b2,h10,h11,z73,Zx,Zm,iO,j0,j1];exact⟨_,fun _ _=>rfl,⟨rfl,hq,by rw[bF _ _ _ _ _ _ A0b A0b];exact hg⟩,Le.refl _⟩
   . cases ho;have h12:st.t 12= .x (.pointer (some ⟨g,j,none⟩)):=hn 12 A0b;have p1:((dL l i j x y L).map V.x)[j]?=some (au y):=by rw[oA _ _ _ _ _ (cP (n:=13) hcl rfl A0a hb) (cP (n:=15) hcl rfl A0a hb),Io,lj];rfl
     simp +decide (maxDischargeDepth:=200) only[go_sem,Nat.reduceBEq,b0,b1,b2,h12,z73,Zx,Zm,iO,c1,p1];exact⟨_,fun _ _=>rfl,⟨rfl,hq,by rw[bF _ _ _ _ _ _ A0b A0b];exact hg⟩,Le.refl _⟩
   . cases ho;simp +decide (maxDischargeDepth:=200) only[go_sem,Nat.reduceBEq,b0,b1,b2,z73,Zx,Zm,iO];exact⟨_,fun _ _=>rfl,⟨rfl,hq,by rw[bF _ _ _ _ _ _ A0b A0b];exact hg⟩,Le.refl _⟩
   . cases ho;simp +decide (maxDischargeDepth:=200) only[go_sem,Nat.reduceBEq,b0,b1,b2,z73,Zx,Zm,iO];exact⟨_,fun _ _=>rfl,⟨rfl,hq,by rw[bF _ _ _ _ _ _ A0b A0b];exact hg⟩,Le.refl _⟩
   . cases ho;have h14:st.t 14= .x (.slice (some ⟨g,0,none⟩) es.length cap):=hn 14 A0b;have h15:st.t 15=au (i:Int):=hn 15 A0b;simp +decide (maxDischargeDepth:=200) only[go_sem,Nat.reduceBEq,b0,b1,b2,h14,h15,z73,Zx,Zm,iO,i0,i1];exact⟨_,fun _ _=>rfl,⟨rfl,hq,by rw[bF _ _ _ _ _ _ A0b A0b];exact hg⟩,Le.refl _⟩
   . cases ho;have h16:st.t 16= .x (.pointer (some ⟨g,i,none⟩)):=hn 16 A0b;have p1:((dL l i j x y L).map V.x)[i]?=some (au x):=by rw[oA _ _ _ _ _ (cP (n:=13) hcl rfl A0a hb) (cP (n:=15) hcl rfl A0a hb),Io,li];rfl
     simp +decide (maxDischargeDepth:=200) only[go_sem,Nat.reduceBEq,b0,b1,b2,h16,z73,Zx,Zm,iO,c1,p1];exact⟨_,fun _ _=>rfl,⟨rfl,hq,by rw[bF _ _ _ _ _ _ A0b A0b];exact hg⟩,Le.refl _⟩
   . cases ho;have h6:st.t 6= .x (.slice (some ⟨g,0,none⟩) es.length cap):=hn 6 A0b;have h7:st.t 7=au (i:Int):=hn 7 A0b;simp +decide (maxDischargeDepth:=200) only[go_sem,Nat.reduceBEq,b0,b1,b2,h6,h7,z73,Zx,Zm,iO,i0,i1];exact⟨_,fun _ _=>rfl,⟨rfl,hq,by rw[bF _ _ _ _ _ _ A0b A0b];exact hg⟩,Le.refl _⟩
   . cases ho;have h18:st.t 18= .x (.pointer (some ⟨g,i,none⟩)):=hn 18 A0b;have h13:st.t 13=au y:=hn 13 A0b;have p1:i+1<=(dL l i j x y L).length:=A0c
     simp +decide (maxDischargeDepth:=200) only[go_sem,Nat.reduceBEq,b0,b1,b2,h18,h13,z73,Zx,Zm,iO,c1,p1];exact⟨_,fun _=>rfl,⟨rfl,fun q h=>(ag _ _ h).trans (hq q h),by rw[Ia li lj,cz _ _ _ A0c]⟩,Le.refl _⟩
   . cases ho;have h8:st.t 8= .x (.slice (some ⟨g,0,none⟩) es.length cap):=hn 8 A0b;have h9:st.t 9=au (j:Int):=hn 9 A0b;simp +decide (maxDischargeDepth:=200) only[go_sem,Nat.reduceBEq,b0,b1,b2,h8,h9,z73,Zx,Zm,iO,j0,j1];exact⟨_,fun _ _=>rfl,⟨rfl,hq,by rw[bF _ _ _ _ _ _ A0b A0b];exact hg⟩,Le.refl _⟩
   . cases ho;have h19:st.t 19= .x (.pointer (some ⟨g,j,none⟩)):=hn 19 A0b;have h17:st.t 17=au x:=hn 17 A0b;have p1:j+1<=(dL l i j x y L).length:=A0c
     simp +decide (maxDischargeDepth:=200) only[go_sem,Nat.reduceBEq,b0,b1,b2,h19,h17,z73,Zx,Zm,iO,c1,p1];exact⟨_,fun _=>rfl,⟨rfl,fun q h=>(ag _ _ h).trans (hq q h),by rw[Ib,cz _ _ _ A0c]⟩,Le.refl _⟩
   . cases ho
 . rintro H' val ⟨rfl,hq,hg⟩;refine⟨[],[],trivial,trivial,?_⟩;simp +decide (maxDischargeDepth:=200) only[go_sem,Nat.reduceBEq];have e:H'=upd H g (H' g):=by
    funext q;rw[aB];split
    . rename_i h;rw[h]
    . rename_i h;exact hq q h
   have hfull:H' g=some (rowO ((l.set i (iv y)).set j (iv x)) ty):=hg.trans (by show some (rowO (dL l i j x y 65535) ty)=_;unfold dL;rw[Zp A0b,Zp A0b])
   rw[e,hfull];have hsl:(cY es i j x y).length=es.length:=by simp[cY]
   refine hT g _ rfl (.inr ⟨g,cap,_,ty,by rw[hsl],ai _ _ _,by rw[hsl];exact hc,by simpa using hl,fun k z hk=>?_⟩);rw[aaD,ZU,ZW,ZU];unfold cY at hk;rw[ZU,ZW,ZU] at hk;simp only[jl,il,ZD] at hk;split at hk
   . rename_i e;cases hk;rw[Zp e,Zp A0c]
   . rename_i e;rw[Zs e];split at hk
     . rename_i e';cases hk;rw[Zp e',Zp A0c]
     . rename_i e';rw[Zs e'];exact hcell k z hk
def QJ (H:HH) (p:Nat) (v:Value) (es:List Int):Prop:=H p=some (rowO [v] 50)∧RowJ H v es∧blkOf v≠some p∧v.oneCell'=true∧es.length<=100000000
def Oth (H H':HH) (p:Nat) (v:Value):Prop:=∀y ob,H y=some ob->y≠p->blkOf v≠some y->H' y=some ob
def Fr (H:HH) (v v':Value):Prop:=∀g,blkOf v'=some g->blkOf v=some g∨H g=none
theorem Oth.step {H H1 H2:HH} {p:Nat} {v v':Value} (h:Oth H H1 p v) (hf:Fr H v v') (k:Oth H1 H2 p v'):Oth H H2 p v:=fun y ob h0 h1 h2=>k y ob (h y ob h0 h1 h2) h1 (fun e=>by
 rcases hf y e with e|e
 . exact h2 e
 . rw[h0] at e;cases e)
theorem RowJ.other (h:RowJ H v es) {g:Nat} {o:Option Obj} (hne:blkOf v≠some g):RowJ (upd H g o) v es:=by refine h.imp id ?_;rintro⟨g',cap,cur,ty,rfl,hH,h⟩;exact⟨g',cap,cur,ty,rfl,by rw[ag _ _ (fun e=>hne (by rw[e];rfl))];exact hH,h⟩
theorem RowJ.one (h:RowJ H v es):v.oneCell'=true:=by rcases h with⟨_,rfl⟩|⟨g,cap,cur,ty,rfl,_⟩<;>rfl
abbrev jx (p:Nat):Value:= .pointer (some ⟨p,0,none⟩)
abbrev Oy (x:Int):Value:= .iface 3 (.int .i64 x)
def Ic (us:List V) (H:HH) (T:V->HH->Prop):Prop:=∃p v es x,us=[.x (jx p),.x (Oy x)]∧QJ H p v es∧es.length+1<=100000000∧∀v' H',QJ H' p v' (es++[x])->Oth H H' p v->Fr H v v'->T (.tup []) H'
def Mw (us:List V) (H:HH) (T:V->HH->Prop):Prop:=∃p v es x,us=[.x (jx p)]∧QJ H p v (es++[x])∧∀v' H',QJ H' p v' es->Oth H H' p v->Fr H v v'->T (.x (Oy x)) H'
theorem kG (h:v.oneCell'=true):lA (.x v)=some [v]:=by show(if v.oneCell'=true then (Hp []).map (v:: ·) else none)=_;rw[Zp h];rfl
def jr (p:Nat) (v:Value) (x:Int) (v':Value):Nat->V
 |8=> .x v|9=> .x (Oy x)|10=>au x|11=> .sl false 1 [au x] none|12=> .x v'|_=> .x (jx p)
variable {p:Nat}
theorem zF {x:Int} (v' v'':Value) {k:Nat} (h:k≠12):jr p v x v'' k=jr p v x v' k:=by unfold jr;split<;>first|rfl|exact absurd rfl h
def IPush (H:HH) (p:Nat) (v:Value) (es:List Int) (x:Int) (L:Nat) (H':HH) (val:Nat->V):Prop:=∃v',val=jr p v x v'∧(L.testBit 8=false->H'=H)∧
 (L.testBit 8=true->∃g ob,blkOf v'=some g∧(blkOf v=some g∨H g=none)∧RowJ (upd H g (some ob)) v' (es++[x])∧H'=if L.testBit 11=true then upd (upd H g (some ob)) p (some (rowO [v'] 50)) else upd H g (some ob))
variable {H':HH}
theorem IPush.next {x:Int} {L:Nat} {val:Nat->V} (h:IPush H p v es x L H' val) {k:Nat} (h1:k≠8) (h2:k≠11):IPush H p v es x (L|||2^k) H' val:=by unfold IPush;rw[ar L h1,ar L h2];exact h
theorem IPush.cell {x:Int} {L:Nat} {val:Nat->V} (h:IPush H p v es x L H' val) (hq:QJ H p v es) (hb:L.testBit 11=false):ik H' p=some ([v],50):=by
 obtain⟨v',_,h0,h1⟩:=h;cases h8:L.testBit 8 with
 |false=>rw[h0 h8];exact aS hq.1
 | true=>
   obtain⟨g,ob,_,hg,_,rfl⟩:=h1 h8;rw[Zs A1c];refine aS ?_;rw[ag _ _ ?_]
   . exact hq.1
   . rintro rfl;rcases hg with hg|hg
     . exact hq.2.2.1 hg
     . rw[hq.1] at hg;cases hg
theorem DZ:cn (bz [] [] [] (fun _=>false) (fun _=>false)) 108 Ic:=by
 refine cf (F:={F:=fun _=>none,D:=fun _=>false,any:=fun i=>i==0}) (n:=15) (k:=2) (bi [] [] [] _ _ trivial trivial trivial) A0a (fun f C e=>by cases e) (fun t s C e=>by cases e) Try.func108 rfl (fun a w=>Try.call108 a w) Try.ntmps108 A0b A0b A0a ?_;rintro us H T ⟨p,v,es,x,rfl,hq,hlen,hT⟩ hdat;clear hdat;refine⟨rfl,?_⟩;obtain⟨hp,hr,hne,h1,h8⟩:=id hq;have fq:Hq Try.prog 50 0=some 0:=A0a
 have ha:Hr Try.prog 48=true:=A0a
 have ni:pk Try.prog 3=true:=A0a
 have c1:=aS hp;simp +decide (maxDischargeDepth:=200) only[go_sem,Nat.reduceBEq];refine jp (fun k=>match k with|2=>[5]|3=>[6]|4=>[7]|6=>[9]|7=>[10]|8=>[8,11]|9=>[4]|10=>[13]|11=>[14,12]|_=>[]) (IPush H p v es x) (jr p v x v) A0a A0a ⟨v,rfl,fun _=>rfl,fun h=>by simp at h⟩ ?_ ?_
 . intro L k o H' val st ho hb hdd hcl hI hn hbase hbb;have b0:st.t 0= .x (jx p):=hbase 0 A0a;have b1:st.t 1= .x (Oy x):=hbase 1 A0a;have hI0:=hI;obtain⟨v',rfl,hI1,hI2⟩:=hI0;clear hbase hbb;rcases k with _|_|_|_|_|_|_|_|_|_|_|_|k
   . cases ho;simp +decide (maxDischargeDepth:=200) only[go_sem,Nat.reduceBEq,b0,b1];exact⟨_,fun _ _=>rfl,hI.next A0b A0b,Le.refl _⟩
   . cases ho;simp +decide (maxDischargeDepth:=200) only[go_sem,Nat.reduceBEq,b0,b1];exact⟨_,fun _ _=>rfl,hI.next A0b A0b,Le.refl _⟩
   . cases ho;have h5:st.t 5= .x (jx p):=hn 5 A0b;simp +decide (maxDischargeDepth:=200) only[go_sem,Nat.reduceBEq,h5,b0,b1];exact⟨_,fun _ _=>rfl,hI.next A0b A0b,Le.refl _⟩
   . cases ho;have h6:st.t 6= .x (jx p):=hn 6 A0b;simp +decide (maxDischargeDepth:=200) only[go_sem,Nat.reduceBEq,h6,b0,b1,fq,aas];exact⟨_,fun _ _=>rfl,hI.next A0b A0b,Le.refl _⟩
   . cases ho;have h7:st.t 7= .x (jx p):=hn 7 A0b;have c2:=hI.cell hq (cP (n:=11) hcl rfl A0a hb);simp +decide (maxDischargeDepth:=200) only[go_sem,Nat.reduceBEq,h7,b0,b1,c2];exact⟨_,fun _ _=>rfl,hI.next A0b A0b,Le.refl _⟩
   . cases ho;simp +decide (maxDischargeDepth:=200) only[go_sem,Nat.reduceBEq,b0,b1];exact⟨_,fun _ _=>rfl,hI.next A0b A0b,Le.refl _⟩
   . cases ho;have h9:st.t 9= .x (Oy x):=hn 9 A0b;simp +decide (maxDischargeDepth:=200) only[go_sem,Nat.reduceBEq,h9,b0,b1,ni];exact⟨_,fun _ _=>rfl,hI.next A0b A0b,Le.refl _⟩
   . cases ho;have h10:st.t 10=au x:=hn 10 A0b;simp +decide (maxDischargeDepth:=200) only[go_sem,Nat.reduceBEq,h10,b0,b1];exact⟨_,fun _ _=>rfl,hI.next A0b A0b,Le.refl _⟩
   . cases ho;have h8:st.t 8= .x v:=hn 8 A0b;have h11:st.t 11= .sl false 1 [au x] none:=hn 11 A0b;obtain rfl:=hI1 hb;simp +decide (maxDischargeDepth:=200) only[go_sem,Nat.reduceBEq,h8,h11,b0,b1,ha];refine⟨es,hr,hlen,fun v'' g ob hb' hg hr'=>⟨jr p v x v'',fun k hk=>zF _ _ (fun e=>hk A0Z),⟨v'',rfl,fun h=>?_,fun _=>⟨g,ob,hb',hg,hr',?_⟩⟩,by rw[cM];exact Le.refl _⟩⟩
     . have hs8:(L|||2^8).testBit 8=true:=bR L 8;exact absurd (hs8.symm.trans h) A0l
     . have h11:L.testBit 11=false:=cP (n:=11) hcl rfl A0a hb;have hn11:(L|||2^8).testBit 11=L.testBit 11:=ar L A0b;rw[Zs (by show¬(L|||2^8).testBit 11=true;rw[hn11,h11];simp)]
   . cases ho;have h4:st.t 4= .x (jx p):=hn 4 A0b;simp +decide (maxDischargeDepth:=200) only[go_sem,Nat.reduceBEq,h4,b0,b1];exact⟨_,fun _ _=>rfl,hI.next A0b A0b,Le.refl _⟩
   . cases ho;have h13:st.t 13= .x (jx p):=hn 13 A0b;simp +decide (maxDischargeDepth:=200) only[go_sem,Nat.reduceBEq,h13,b0,b1,fq,aas];exact⟨_,fun _ _=>rfl,hI.next A0b A0b,Le.refl _⟩
   . cases ho;have h14:st.t 14= .x (jx p):=hn 14 A0b;have h12:st.t 12= .x v':=hn 12 A0b;have c2:=hI.cell hq hb;obtain⟨g,ob,hb',hg,hr',rfl⟩:=hI2 (hdd 8 A0L);have x1:=kG hr'.one;simp +decide (maxDischargeDepth:=200) only[go_sem,Nat.reduceBEq,h14,h12,b0,b1,c2,x1];refine⟨_,fun _=>rfl,⟨v',rfl,fun h=>?_,fun _=>⟨g,ob,hb',hg,hr',?_⟩⟩,Le.refl _⟩
     . have h8':L.testBit 8=true:=hdd 8 A0L;have hn8:(L|||2^11).testBit 8=L.testBit 8:=ar L A0b;exact absurd ((hn8.trans h8').symm.trans h) A0l
     . rw[Zs A1c,Zp (bR L 11)];rfl
   . cases ho
 . rintro H' val ⟨v',rfl,_,hI⟩;obtain⟨g,ob,hb,hg,hr',rfl⟩:=hI A0b;rw[Zp A0b];refine⟨[],[],trivial,trivial,?_⟩;simp +decide (maxDischargeDepth:=200) only[go_sem,Nat.reduceBEq];have hgp:g≠p:=by
    rintro rfl;rcases hg with hg|hg
    . exact hne hg
    . rw[hp] at hg;cases hg
   refine hT v' _ ⟨ai _ _ _,hr'.other (by rw[hb];simpa using hgp),by rw[hb];simpa using hgp,hr'.one,by simpa using hlen⟩ (fun y ob' hy hyp hyv=>?_) (fun g' hg'=>by rw[hb] at hg';cases hg';exact hg);have hyg:y≠g:=by
    rintro rfl;rcases hg with hg|hg
    . exact hyv hg
    . rw[hy] at hg;cases hg
   rw[ag _ _ hyp,ag _ _ hyg];exact hy
theorem RowJ.init {x:Int} (h:RowJ H v (es++[x])):∃g cap l ty,v= .slice (some ⟨g,0,none⟩) (es.length+1) cap∧H g=some (rowO l ty)∧es.length+1<=cap∧(l.map V.x)[es.length]?=some (au x)∧RowJ H (.slice (some ⟨g,0,none⟩) es.length cap) es:=by obtain⟨g,cap,l,ty,rfl,hH,hc,hl,hcell⟩:=h.cell (i:=es.length) (x:=x) A0l;rw[Zr,aai] at hc;refine⟨g,cap,l,ty,A0l,hH,hc,by rw[Io,hcell es.length x A0l];rfl,.inr ⟨g,cap,l.toArray,ty,rfl,hH,A0c,by simpa using hl,fun j i hj=>?_⟩⟩;rw[aaD];exact hcell j i (by rw[Zy (tl.1 hj).1];exact hj)
theorem Ie:cn (bz [] [] [] (fun _=>false) (fun _=>false)) 107 Mw:=by
 refine cf (F:={F:=fun _=>none,D:=fun _=>false}) (n:=29) (k:=1) (bi [] [] [] _ _ trivial trivial trivial) A0a (fun f C e=>by cases e) (fun t s C e=>by cases e) Try.func107 rfl (fun a w=>Try.call107 a w) Try.ntmps107 A0b A0b A0a ?_;rintro us H T ⟨p,v,es,x,rfl,⟨hp,hr,hne,h1,h8⟩,hT⟩ hdat;clear hdat;refine⟨rfl,?_⟩;have fq:Hq Try.prog 50 0=some 0:=A0a
 have z73:pj Try.prog 48=some 1:=A0a
 have ni:pk Try.prog 3=true:=A0a
 have c1:=aS hp;obtain⟨g,cap,l,ty,rfl,hH,hc,hx,hr'⟩:=hr.init;have c2:=aS hH;have w1:aw .i64 (((es.length+1:Nat):Int)-1)=(es.length:Int):=by rw[aj (by rw[Zr,aai] at h8;unfold inR;omega)];omega
 rw[Zr,aai] at h8;have e0:(0:Int)<=(es.length:Int):=A0c
 have e1:(es.length:Int)<((es.length+1:Nat):Int):=A0c
 have e2:(es.length:Int)<=(cap:Int):=A0c
 have hgp:g≠p:=fun e=>hne (by rw[e];rfl)
 have x1:lA (.x (.slice (some ⟨g,0,none⟩) es.length cap))=some [.slice (some ⟨g,0,none⟩) es.length cap]:=rfl;simp +decide (maxDischargeDepth:=200) only[go_sem,Nat.reduceBEq,fq,z73,ni,c1,c2,w1,e0,e1,e2,hx,x1,aas,Zm,Zx,iO];refine hT (.slice (some ⟨g,0,none⟩) es.length cap) _ ⟨ai _ _ _,hr'.other (fun e=>hgp (by cases e;rfl)),fun e=>hgp (by cases e;rfl),rfl,A0c⟩ (fun y ob' hy hyp hyv=>?_) (fun g' hg'=> .inl (by cases hg';rfl));rw[ag _ _ hyp];exact hy
def If (v:Value) (us:List V) (H:HH) (T:V->HH->Prop):Prop:=∃p r es,v=jx p∧us=[]∧QJ H p r es∧T (au (es.length:Int)) H
def zG (v:Value) (us:List V) (H:HH) (T:V->HH->Prop):Prop:=∃p r es i j x y,v=jx p∧us=[au ((i:Nat):Int),au ((j:Nat):Int)]∧QJ H p r es∧es[i]?=some x∧es[j]?=some y∧T (.x (.bool (decide (x<y)))) H
def zH (v:Value) (us:List V) (H:HH) (T:V->HH->Prop):Prop:=∃p r es i j x y,v=jx p∧us=[au ((i:Nat):Int),au ((j:Nat):Int)]∧QJ H p r es∧es[i]?=some x∧es[j]?=some y∧∀H',QJ H' p r (cY es i j x y)->Oth H H' p r->T (.tup []) H'
def zI (v:Value) (us:List V) (H:HH) (T:V->HH->Prop):Prop:=Ic (.x v::us) H T
def Ig (v:Value) (us:List V) (H:HH) (T:V->HH->Prop):Prop:=Mw (.x v::us) H T
theorem RowJ.len (h:RowJ H v es):∃a c,v= .slice a es.length c:=by
 rcases h with⟨rfl,rfl⟩|⟨g,cap,_,_,rfl,_⟩
 . exact⟨_,_,rfl⟩
 . exact⟨_,_,rfl⟩
theorem Ih:im (bz [] [] [] (fun _=>false) (fun _=>false)) 47 "Len" If:=by refine lH 50 0 48 0 0 (.slice 3) vW (ZO A0a) A0a A0a A0a A0a A0a (fun e h=>by cases h) ?_;rintro v us H T ⟨p,r,es,rfl,rfl,h,hT⟩;obtain⟨a,c,rfl⟩:=h.2.1.len;exact⟨p,_,_,_,rfl,h.1,rfl,rfl,_,_,_,rfl,hT⟩
theorem D3:im (bz [] [] [] (fun _=>false) (fun _=>false)) 47 "Less" zG:=by refine lH 50 0 48 0 0 (.slice 3) DW (ZO A0a) A0a A0a A0a A0a A0a (fun e h=>by cases h) ?_;rintro v us H T ⟨p,r,es,i,j,x,y,rfl,rfl,h,hi,hj,hT⟩;exact⟨p,r,_,_,rfl,h.1,rfl,Ba h.2.2.2.1,r,es,i,j,x,y,rfl,h.2.1,hi,hj,hT⟩
theorem D4:im (bz [] [] [] (fun _=>false) (fun _=>false)) 47 "Swap" zH:=by
 refine lH 50 0 48 0 0 (.slice 3) DY (ZO A0a) A0a A0a A0a A0a A0a (fun e h=>by cases h) ?_;rintro v us H T ⟨p,r,es,i,j,x,y,rfl,rfl,h,hi,hj,hT⟩;refine⟨p,r,_,_,rfl,h.1,rfl,Ba h.2.2.2.1,r,es,i,j,x,y,rfl,h.2.1,hi,hj,fun g ob hb hr=>hT _ ⟨?_,hr,h.2.2.1,h.2.2.2.1,by simpa[cY] using h.2.2.2.2⟩ (fun y' ob' hy hyp hyv=>?_)⟩
 . rw[ag _ _ (fun e=>h.2.2.1 (by rw[e];exact hb))];exact h.1
 . rw[ag _ _ (fun e=>hyv (by rw[e];exact hb))];exact hy
theorem D5:im (bz [] [] [] (fun _=>false) (fun _=>false)) 47 "Push" zI:=vC (e:=50) DZ (ZO A0a) A0a A0a (fun v us H T h=>⟨by obtain⟨p,_,_,_,hus,_⟩:=id h;cases hus;rfl,h⟩)
theorem Ii:im (bz [] [] [] (fun _=>false) (fun _=>false)) 47 "Pop" Ig:=vC (e:=50) Ie (ZO A0a) A0a A0a (fun v us H T h=>⟨by obtain⟨p,_,_,_,hus,_⟩:=id h;cases hus;rfl,h⟩)
def aN (l:List Int) (k:Nat):Int:=(l[k]?).getD 0
theorem f8 {x:Int} (h:l[k]?=some x):aN l k=x:=by unfold aN;rw[h];rfl
def HeapN (es:List Int) (n:Nat):Prop:=∀k,0<k->k<n->aN es ((k-1)/2)<=aN es k
def Oz (es:List Int) (j:Nat):Prop:=(∀k,0<k->k<es.length->k≠j->aN es ((k-1)/2)<=aN es k)∧∀k,0<k->k<es.length->(k-1)/2=j->0<j->aN es ((j-1)/2)<=aN es k
def oB (es:List Int) (i n:Nat):Prop:=(∀k,0<k->k<n->(k-1)/2≠i->aN es ((k-1)/2)<=aN es k)∧∀k,0<k->k<n->(k-1)/2=i->0<i->aN es ((i-1)/2)<=aN es k
theorem lJ (es:List Int) (i j:Nat) (x y:Int):(cY es i j x y).length=es.length:=by simp[cY]
theorem eh {i j:Nat} {x:Int} (hi:es[i]?=some x) (hj:es[j]?=some y) (k:Nat):aN (cY es i j x y) k=if k=j then x else if k=i then y else aN es k:=by
 have il:=(tl.1 hi).1;have jl:=(tl.1 hj).1;unfold aN cY;rw[ZU,ZW,ZU];by_cases e:j=k
 . rw[Zp e,Zp jl,Zp e.symm];rfl
 . rw[Zs e,Zs (aaJ e)];by_cases e':i=k
   . rw[Zp e',Zp il,Zp e'.symm];rfl
   . rw[Zs e',Zs (aaJ e')]
theorem j4 {i j:Nat} {x:Int} (hi:es[i]?=some x) (hj:es[j]?=some y):(cY es i j x y).Perm es:=by obtain⟨il,rfl⟩:=tl.1 hi;obtain⟨jl,rfl⟩:=tl.1 hj;exact Go.Sort.perm_set_set es i j il jl
theorem LA {i j:Nat} {x:Int} (h:Oz es j) (hij:(j-1)/2=i) (hne:i≠j) (hi:es[i]?=some x) (hj:es[j]?=some y) (hlt:y<x):Oz (cY es i j x y) i:=by
 have xi:=f8 hi;have yj:=f8 hj;unfold Oz;rw[lJ];refine⟨fun k k0 kl kne=>?_,fun k k0 kl kp i0=>?_⟩
 . have q1:=h.1 k k0 kl;have q2:=h.2 k k0 kl;rw[eh hi hj,eh hi hj];by_cases a1:(k-1)/2=j
   . rw[Zp a1,Zs A0c,Zs kne];have:=q2 a1 A0c
     rwa [hij,xi] at this
   . rw[Zs a1];by_cases a3:k=j
     . rw[Zp a3,Zp A0c];omega
     . rw[Zs a3,Zs kne];have q:=q1 a3;by_cases a4:(k-1)/2=i
       . rw[Zp a4];rw[a4,xi] at q;omega
       . rw[Zs a4];exact q
 . have q0:=h.1 i i0 A0c hne;rw[xi] at q0;rw[eh hi hj,eh hi hj,Zs A0c,Zs A0c];by_cases a3:k=j
   . rw[Zp a3];exact q0
   . rw[Zs a3,Zs A0c];have q:=h.1 k k0 kl a3;rw[kp,xi] at q;omega
theorem Bh {j:Nat} (h:Oz es j) (hd:(j-1)/2=j∨aN es ((j-1)/2)<=aN es j):HeapN es es.length:=fun k k0 kl=>by
 by_cases e:k=j
 . subst e;rcases hd with hd|hd
   . omega
   . exact hd
 . exact h.1 k k0 kl e
theorem D6 {i j:Nat} {x:Int} (h:oB es i n) (hij:(j-1)/2=i) (j0:0<j) (jn:j<n) (hi:es[i]?=some x) (hj:es[j]?=some y) (hlt:y<x) (hmin:∀k,0<k->k<n->(k-1)/2=i->y<=aN es k):oB (cY es i j x y) j n:=by
 have xi:=f8 hi;have yj:=f8 hj;refine⟨fun k k0 kl kne=>?_,fun k k0 kl kp _=>?_⟩
 . rw[eh hi hj,eh hi hj,Zs kne];by_cases a4:(k-1)/2=i
   . rw[Zp a4];by_cases a3:k=j
     . rw[Zp a3];omega
     . rw[Zs a3,Zs A0c];exact hmin k k0 kl a4
   . rw[Zs a4,Zs (fun e=>a4 (by rw[e];exact hij))];by_cases a5:k=i
     . rw[Zp a5,a5];have:=h.2 j j0 jn hij A0c;omega
     . rw[Zs a5];exact h.1 k k0 kl a4
 . rw[eh hi hj,eh hi hj,hij,Zs A0c,Zp rfl,Zs A0c,Zs A0c];have:=h.1 k k0 kl A0c
   rwa [kp,yj] at this
theorem D7 {i:Nat} (h:oB es i n) (hd:∀k,0<k->k<n->(k-1)/2=i->aN es i<=aN es k):HeapN es n:=fun k k0 kl=>by
 by_cases e:(k-1)/2=i
 . rw[e];exact hd k k0 kl e
 . exact h.1 k k0 kl e
theorem Ij (h:HeapN es n):∀k,k<n->aN es 0<=aN es k:=by
 intro k
 induction k using Nat.strongRecOn with
 | _ k ih=>
   intro hk;by_cases e:k=0
   . subst e;exact aa5 _
   . have:=ih ((k-1)/2) A0c A0c;have:=h k A0c hk;omega
theorem Oth.refl (H:HH) (p:Nat) (v:Value):Oth H H p v:=fun _ _ h _ _=>h
theorem Oth.trans {H2:HH} (h:Oth H H' p v) (k:Oth H' H2 p v):Oth H H2 p v:=fun y ob h0 h1 h2=>k y ob (h y ob h0 h1 h2) h1 h2
open Classical in
noncomputable def qI:TypeId->String->Option (Value->List V->HH->Tr):=fun t name=>if t=47 then (if name= "Len" then some If else if name= "Less" then some zG else if name= "Swap" then some zH else if name= "Push" then some zI else if name= "Pop" then some Ig else none) else none
theorem Bi:∀t name C,qI t name=some C->im (bz [] [] [] (fun _=>false) (fun _=>false)) t name C:=by
 intro t name C h;unfold qI at h;split at h
 case isFalse=>cases h
 rename_i e;subst e;split at h
 . rename_i e;subst e;cases h;exact Ih
 split at h
 . rename_i e;subst e;cases h;exact D3
 split at h
 . rename_i e;subst e;cases h;exact D4
 split at h
 . rename_i e;subst e;cases h;exact D5
 split at h
 . rename_i e;subst e;cases h;exact Ii
 . cases h
theorem OA:qI 47 "Len" =some If:=by unfold qI;simp
theorem LB:qI 47 "Less" =some zG:=by unfold qI;simp
theorem LC:qI 47 "Swap" =some zH:=by unfold qI;simp
theorem LD:qI 47 "Push" =some zI:=by unfold qI;simp
theorem OB:qI 47 "Pop" =some Ig:=by unfold qI;simp
attribute [go_sem] OA LB LC LD OB
abbrev OU (p:Nat):Value:= .iface 47 (jx p)
def YA (us:List V) (H:HH) (T:V->HH->Prop):Prop:=∃p r es j,us=[.x (OU p),au ((j:Nat):Int)]∧QJ H p r es∧j<es.length∧Oz es j∧∀es' H',QJ H' p r es'->es'.Perm es->HeapN es' es'.length->Oth H H' p r->T (.tup []) H'
theorem OC:cn (bz [] [] [] (fun _=>false) (fun _=>false)) 33 YA:=by
 refine cf (F:={F:=fun _=>none,D:=fun _=>false,I:=qI}) (n:=23) (k:=2) (bi [] [] [] _ _ trivial trivial trivial) A0a (fun f C e=>by cases e) Bi Try.func33 rfl (fun a w=>Try.call33 a w) Try.ntmps33 A0b A0b A0a ?_;rintro us H T ⟨p,r,es,j,rfl,hq,hj,hu,hT⟩ hdat;clear hdat;refine⟨rfl,?_⟩;simp +decide (maxDischargeDepth:=200) only[go_sem,Nat.reduceBEq];refine bf (X:={q:List Int×Nat//q.1.Perm es∧q.2<es.length∧Oz q.1 q.2}) (fun q=>[(0,.x (OU p)),(1,au ((q.1.2:Nat):Int))]) (fun _=>[]) (fun q H'=>QJ H' p r q.1.1∧Oth H H' p r) (fun q=>q.1.2) ⟨(es,j),List.Perm.refl _,hj,hu⟩ A0e A0e ⟨hq,.refl _ _ _⟩ ?_;clear hu hj;rintro⟨⟨e1,j⟩,hp,hj,hu⟩ H1 ⟨hq1,ho⟩;simp only at hp hj hu hq1⊢;have hl:=hp.length_eq;have h8:=hq1.2.2.2.2;have w1:aw .i64 ((j:Int)-1)=(j:Int)-1:=aj A0j;have w2:aw .i64 (Int.tdiv ((j:Int)-1) 2)=(((j-1)/2:Nat):Int):=by
  have e:Int.tdiv ((j:Int)-1) 2=(((j-1)/2:Nat):Int):=by
   by_cases h0:j=0
   . subst h0;rfl
   . rw[show(j:Int)-1=((j-1:Nat):Int) by omega];rfl
  rw[e,aj A0j]
 obtain⟨y,hy⟩:∃y,e1[j]?=some y:=⟨_,eq A0c ⟩;generalize hi:(j-1)/2=i at w2;obtain⟨x,hx⟩:∃x,e1[i]?=some x:=⟨_,eq A0c ⟩;by_cases hij:i=j
 . have d1:decide ((i:Int)=(j:Int))=true:=Zk A0c;simp +decide (maxDischargeDepth:=200) only[go_sem,Nat.reduceBEq,w1,w2,d1];exact hT e1 H1 hq1 hp (Bh hu (.inl A0c)) ho
 have d1:decide ((i:Int)=(j:Int))=false:=Zl A0c;simp +decide (maxDischargeDepth:=200) only[go_sem,Nat.reduceBEq,w1,w2,d1];refine⟨p,r,e1,j,i,y,x,rfl,rfl,hq1,hy,hx,?_⟩;by_cases hlt:y<x
 case neg=>have d2:decide (y<x)=false:=Zl hlt;simp +decide (maxDischargeDepth:=200) only[go_sem,Nat.reduceBEq,d2];exact hT e1 H1 hq1 hp (Bh hu (.inr (by rw[hi,f8 hx,f8 hy];omega))) ho
 have d2:decide (y<x)=true:=Zk hlt;simp +decide (maxDischargeDepth:=200) only[go_sem,Nat.reduceBEq,d2];refine⟨p,r,e1,i,j,x,y,rfl,rfl,hq1,hx,hy,fun H2 hq2 ho2=>?_⟩;simp +decide (maxDischargeDepth:=200) only[go_sem,Nat.reduceBEq];refine⟨⟨(cY e1 i j x y,i),(j4 hx hy).trans hp,by simp only;omega,LA hu hi hij hx hy hlt⟩,⟨?_,?_,hq2,ho.trans ho2⟩,by simp only;omega⟩
 . simp +decide (maxDischargeDepth:=200) only[go_sem,Nat.reduceBEq]
 . simp +decide (maxDischargeDepth:=200) only[go_sem,Nat.reduceBEq]
def Mx (us:List V) (H:HH) (T:V->HH->Prop):Prop:=∃p r es n,us=[.x (OU p),au 0,au ((n:Nat):Int)]∧QJ H p r es∧n<=es.length∧oB es 0 n∧∀es' H' b,QJ H' p r es'->es'.Perm es->(∀k,n<=k->es'[k]?=es[k]?)->HeapN es' n->Oth H H' p r->T (.x (.bool b)) H'
theorem Ik {i j:Nat} {x:Int} (hi:i<n) (hj:j<n) (k:Nat) (hk:n<=k):(cY es i j x y)[k]?=es[k]?:=by unfold cY;rw[abm A0c,abm A0c]
theorem Il:cn (bz [] [] [] (fun _=>false) (fun _=>false)) 34 Mx:=by
 refine cf (F:={F:=fun _=>none,D:=fun _=>false,I:=qI}) (n:=48) (k:=3) (bi [] [] [] _ _ trivial trivial trivial) A0a (fun f C e=>by cases e) Bi Try.func34 rfl (fun a w=>Try.call34 a w) Try.ntmps34 A0b A0b A0a ?_;rintro us H T ⟨p,r,es,n,rfl,hq,hn,hu,hT⟩ hdat;clear hdat;refine⟨rfl,?_⟩;simp +decide (maxDischargeDepth:=200) only[go_sem,Nat.reduceBEq];refine bf (X:={q:List Int×Nat//q.1.Perm es∧(∀k,n<=k->q.1[k]?=es[k]?)∧(q.2<n∨q.2=0)∧oB q.1 q.2 n}) (fun q=>[(0,.x (OU p)),(1,au 0),(2,au (n:Int)),(7,au ((q.1.2:Nat):Int))]) (fun _=>[]) (fun q H'=>QJ H' p r q.1.1∧Oth H H' p r) (fun q=>n-q.1.2) ⟨(es,0),List.Perm.refl _,fun _ _=>rfl,.inr rfl,hu⟩ A0e A0e ⟨hq,.refl _ _ _⟩ ?_;clear hu;rintro⟨⟨e1,i⟩,hp,hfar,hi,hu⟩ H1 ⟨hq1,ho⟩;simp only at hp hfar hi hu hq1⊢;have hl:=hp.length_eq;have h8:=hq1.2.2.2.2;have w1:aw .i64 (2*(i:Int))=((2*i:Nat):Int):=by rw[aj A0j];omega
 have w2:aw .i64 (((2*i:Nat):Int)+1)=((2*i+1:Nat):Int):=by rw[aj A0j];omega
 have fin:∀(hd:∀k,0<k->k<n->(k-1)/2=i->aN e1 i<=aN e1 k) b,T (.x (.bool b)) H1:=fun hd b=>hT e1 H1 b hq1 hp hfar (D7 hu hd) ho
 by_cases hj1:2*i+1<n
 case neg=>have d1:decide (((2*i+1:Nat):Int)≥(n:Int))=true:=Zk A0c;simp +decide (maxDischargeDepth:=200) only[go_sem,Nat.reduceBEq,w1,w2,d1];exact fin (fun k k0 kn kp=>by omega) _
 have d1:decide (((2*i+1:Nat):Int)≥(n:Int))=false:=Zl A0c;have d2:decide (((2*i+1:Nat):Int)<0)=false:=Zl A0c;have w3:aw .i64 (((2*i+1:Nat):Int)+1)=((2*i+2:Nat):Int):=by rw[aj A0j];omega
 obtain⟨x,hx⟩:∃x,e1[i]?=some x:=⟨_,eq A0c ⟩;obtain⟨y1,hy1⟩:∃y,e1[2*i+1]?=some y:=⟨_,eq A0c ⟩
 have key:∀(j:Nat) (y:Int),e1[j]?=some y->(j-1)/2=i->0<j->j<n->(∀k,0<k->k<n->(k-1)/2=i->y<=aN e1 k)->(¬y<x->∀b,T (.x (.bool b)) H1)∧(y<x->oB (cY e1 i j x y) j n∧(cY e1 i j x y).Perm es∧∀k,n<=k->(cY e1 i j x y)[k]?=es[k]?):=fun j y hy hij j0 jn hmin=>
  ⟨fun hlt b=>fin (fun k k0 kn kp=>by have:=hmin k k0 kn kp;rw[f8 hx];omega) b,fun hlt=>⟨D6 hu hij j0 jn hx hy hlt hmin,(j4 hx hy).trans hp,fun k hk=>(Ik A0c jn k hk).trans (hfar k hk)⟩⟩
 by_cases hj2:2*i+2<n
 case neg=>
  have d3:decide (((2*i+2:Nat):Int)<(n:Int))=false:=Zl A0c;simp +decide (maxDischargeDepth:=200) only[go_sem,Nat.reduceBEq,w1,w2,w3,d1,d2,d3];obtain⟨k1,k2⟩:=key (2*i+1) y1 hy1 A0c A0c A0c (by intro k k0 kn kp;rw[show k=2*i+1 by omega,f8 hy1];exact aa5 _);refine⟨p,r,e1,2*i+1,i,y1,x,rfl,rfl,hq1,hy1,hx,?_⟩;by_cases hlt:y1<x
  case neg=>have d5:decide (y1<x)=false:=Zl hlt;simp +decide (maxDischargeDepth:=200) only[go_sem,Nat.reduceBEq,d5];exact k1 hlt _
  have d5:decide (y1<x)=true:=Zk hlt;simp +decide (maxDischargeDepth:=200) only[go_sem,Nat.reduceBEq,d5];obtain⟨k3,k4,k5⟩:=k2 hlt;refine⟨p,r,e1,i,2*i+1,x,y1,rfl,rfl,hq1,hx,hy1,fun H2 hq2 ho2=>?_⟩;simp +decide (maxDischargeDepth:=200) only[go_sem,Nat.reduceBEq];refine⟨⟨(cY e1 i (2*i+1) x y1,2*i+1),k4,k5,.inl A0c,k3⟩,⟨?_,?_,hq2,ho.trans ho2⟩,by simp only;omega⟩
  . simp +decide (maxDischargeDepth:=200) only[go_sem,Nat.reduceBEq]
  . simp +decide (maxDischargeDepth:=200) only[go_sem,Nat.reduceBEq]
 have d3:decide (((2*i+2:Nat):Int)<(n:Int))=true:=Zk A0c;obtain⟨y2,hy2⟩:∃y,e1[2*i+2]?=some y:=⟨_,eq A0c ⟩;simp +decide (maxDischargeDepth:=200) only[go_sem,Nat.reduceBEq,w1,w2,w3,d1,d2,d3];refine⟨p,r,e1,2*i+2,2*i+1,y2,y1,rfl,rfl,hq1,hy2,hy1,?_⟩;by_cases h12:y2<y1
 case neg=>
  have d4:decide (y2<y1)=false:=Zl h12;simp +decide (maxDischargeDepth:=200) only[go_sem,Nat.reduceBEq,d4];obtain⟨k1,k2⟩:=key (2*i+1) y1 hy1 A0c A0c A0c (by intro k k0 kn kp;by_cases ek:k=2*i+1;(rw[ek,f8 hy1];exact aa5 _);rw[show k=2*i+2 by omega,f8 hy2];omega);refine⟨p,r,e1,2*i+1,i,y1,x,rfl,rfl,hq1,hy1,hx,?_⟩;by_cases hlt:y1<x
  case neg=>have d5:decide (y1<x)=false:=Zl hlt;simp +decide (maxDischargeDepth:=200) only[go_sem,Nat.reduceBEq,d5];exact k1 hlt _
  have d5:decide (y1<x)=true:=Zk hlt;simp +decide (maxDischargeDepth:=200) only[go_sem,Nat.reduceBEq,d5];obtain⟨k3,k4,k5⟩:=k2 hlt;refine⟨p,r,e1,i,2*i+1,x,y1,rfl,rfl,hq1,hx,hy1,fun H2 hq2 ho2=>?_⟩;simp +decide (maxDischargeDepth:=200) only[go_sem,Nat.reduceBEq];refine⟨⟨(cY e1 i (2*i+1) x y1,2*i+1),k4,k5,.inl A0c,k3⟩,⟨?_,?_,hq2,ho.trans ho2⟩,by simp only;omega⟩
  . simp +decide (maxDischargeDepth:=200) only[go_sem,Nat.reduceBEq]
  . simp +decide (maxDischargeDepth:=200) only[go_sem,Nat.reduceBEq]
 have d4:decide (y2<y1)=true:=Zk h12;simp +decide (maxDischargeDepth:=200) only[go_sem,Nat.reduceBEq,d4];obtain⟨k1,k2⟩:=key (2*i+2) y2 hy2 A0c A0c A0c (by intro k k0 kn kp;by_cases ek:k=2*i+2;(rw[ek,f8 hy2];exact aa5 _);rw[show k=2*i+1 by omega,f8 hy1];omega);refine⟨p,r,e1,2*i+2,i,y2,x,rfl,rfl,hq1,hy2,hx,?_⟩;by_cases hlt:y2<x
 case neg=>have d5:decide (y2<x)=false:=Zl hlt;simp +decide (maxDischargeDepth:=200) only[go_sem,Nat.reduceBEq,d5];exact k1 hlt _
 have d5:decide (y2<x)=true:=Zk hlt;simp +decide (maxDischargeDepth:=200) only[go_sem,Nat.reduceBEq,d5];obtain⟨k3,k4,k5⟩:=k2 hlt;refine⟨p,r,e1,i,2*i+2,x,y2,rfl,rfl,hq1,hx,hy2,fun H2 hq2 ho2=>?_⟩;simp +decide (maxDischargeDepth:=200) only[go_sem,Nat.reduceBEq];refine⟨⟨(cY e1 i (2*i+2) x y2,2*i+2),k4,k5,.inl A0c,k3⟩,⟨?_,?_,hq2,ho.trans ho2⟩,by simp only;omega⟩
 . simp +decide (maxDischargeDepth:=200) only[go_sem,Nat.reduceBEq]
 . simp +decide (maxDischargeDepth:=200) only[go_sem,Nat.reduceBEq]
theorem Im (h:HeapN es es.length) (x:Int):Oz (es++[x]) es.length:=by
 have ha:∀k,k<es.length->aN (es++[x]) k=aN es k:=fun k hk=>by unfold aN;rw[Zy hk]
 refine⟨fun k k0 kl kne=>?_,fun k k0 kl kp=>?_⟩
 . rw[Zr,aai] at kl;rw[ha _ A0c,ha _ A0c];exact h k k0 A0c
 . rw[Zr,aai] at kl;omega
def In (us:List V) (H:HH) (T:V->HH->Prop):Prop:=∃p r es x,us=[.x (OU p),.x (Oy x)]∧QJ H p r es∧es.length+1<=100000000∧HeapN es es.length∧∀r' es' H',QJ H' p r' es'->es'.Perm (es++[x])->HeapN es' es'.length->Oth H H' p r->Fr H r r'->T (.tup []) H'
theorem D8:cn (bz [] [] [] (fun _=>false) (fun _=>false)) 22 In:=by
 refine cf (F:={F:=vz [(33,YA)],D:=fun _=>false,I:=qI}) (n:=12) (k:=2) (bi [] [] [] _ _ trivial trivial trivial) A0a (fD ⟨OC,trivial⟩) Bi Try.func22 rfl (fun a w=>Try.call22 a w) Try.ntmps22 A0b A0b A0a ?_;rintro us H T ⟨p,r,es,x,rfl,hq,hlen,hh,hT⟩ hdat;clear hdat;refine⟨rfl,?_⟩;simp +decide (maxDischargeDepth:=200) only[go_sem,Nat.reduceBEq];refine⟨p,r,es,x,rfl,hq,hlen,fun v' H1 hq1 ho hf=>?_⟩;simp +decide (maxDischargeDepth:=200) only[go_sem,Nat.reduceBEq];refine⟨p,v',es++[x],rfl,rfl,hq1,?_⟩;have w1:aw .i64 (((es++[x]).length:Int)-1)=(es.length:Int):=by rw[Zr,aai,aj A0j];omega
 simp +decide (maxDischargeDepth:=200) only[go_sem,Nat.reduceBEq,w1,ZD];refine⟨p,v',es++[x],es.length,rfl,hq1,A0l,Im hh x,fun es' H2 hq2 hp hh2 ho2=>?_⟩;simp +decide (maxDischargeDepth:=200) only[go_sem,Nat.reduceBEq];exact hT v' es' H2 hq2 hp hh2 (ho.step hf ho2) hf
def My (us:List V) (H:HH) (T:V->HH->Prop):Prop:=∃p r es,us=[.x (OU p)]∧QJ H p r es∧es≠[]∧HeapN es es.length∧∀r' x es' H',QJ H' p r' es'->es.Perm (x::es')->(∀y∈es,x<=y)->HeapN es' es'.length->Oth H H' p r->Fr H r r'->T (.x (Oy x)) H'
theorem zJ {x:Int} (h:HeapN es es.length) (hn:es.length=n+1) (hx:es[0]?=some x) (hy:es[n]?=some y):oB (cY es 0 n x y) 0 n:=by refine⟨fun k k0 kl kp=>?_,fun k _ _ _ h0=>absurd h0 (act _)⟩;rw[eh hx hy,eh hx hy,Zs A0c,Zs kp,Zs A0c,Zs A0c];exact h k k0 A0c
theorem Ip:cn (bz [] [] [] (fun _=>false) (fun _=>false)) 23 My:=by
 refine cf (F:={F:=vz [(34,Mx)],D:=fun _=>false,I:=qI}) (n:=15) (k:=1) (bi [] [] [] _ _ trivial trivial trivial) A0a (fD ⟨Il,trivial⟩) Bi Try.func23 rfl (fun a w=>Try.call23 a w) Try.ntmps23 A0b A0b A0a ?_;rintro us H T ⟨p,r,es,rfl,hq,hne,hh,hT⟩ hdat;clear hdat;refine⟨rfl,?_⟩;have h8:=hq.2.2.2.2;obtain⟨n,hn⟩:∃n,es.length=n+1:=⟨es.length-1,by have:=List.length_pos_iff.2 hne;omega⟩;obtain⟨x,hx⟩:∃x,es[0]?=some x:=⟨_,eq A0c ⟩;obtain⟨y,hy⟩:∃y,es[n]?=some y:=⟨_,eq A0c ⟩;simp +decide (maxDischargeDepth:=200) only[go_sem,Nat.reduceBEq];refine⟨p,r,es,rfl,rfl,hq,?_⟩;have w1:aw .i64 ((es.length:Int)-1)=(n:Int):=by rw[aj A0j];omega
 simp +decide (maxDischargeDepth:=200) only[go_sem,Nat.reduceBEq,w1];refine⟨p,r,es,0,n,x,y,rfl,rfl,hq,hx,hy,fun H1 hq1 ho1=>?_⟩;simp +decide (maxDischargeDepth:=200) only[go_sem,Nat.reduceBEq,ZD];refine⟨p,r,cY es 0 n x y,n,rfl,hq1,by rw[lJ];omega,zJ hh hn hx hy,fun es2 H2 b hq2 hp2 hfar hh2 ho2=>?_⟩;simp +decide (maxDischargeDepth:=200) only[go_sem,Nat.reduceBEq];have hl2:es2.length=n+1:=by rw[hp2.length_eq,lJ,hn]
 have hlast:es2[n]?=some x:=by rw[hfar n (Zt _)];unfold cY;rw[ZU,Zp rfl,Zp (by rw[ZW];omega)]
 obtain⟨es3,rfl⟩:∃es3,es2=es3++[x]:=by refine⟨es2.take n,?_⟩;have:=aO hlast;rw[ZX A0c] at this;exact this
 rw[Zr,aai] at hl2;have h3:es3.length=n:=A0c
 refine⟨p,r,es3,x,rfl,hq2,fun v' H3 hq3 ho3 hf3=>?_⟩;simp +decide (maxDischargeDepth:=200) only[go_sem,Nat.reduceBEq];have hperm:es.Perm (x::es3):=((j4 hx hy).symm.trans hp2.symm).trans (List.perm_append_singleton x es3);have ho12:Oth H H2 p r:=ho1.trans ho2;refine hT v' x es3 H3 hq3 hperm (fun z hz=>?_) (fun k k0 kl=>?_) (ho12.trans ho3) (fun g hg=>?_)
 . obtain⟨k,hk⟩:=aaO hz;have:=Ij hh k (tl.1 hk).1
   rwa [f8 hx,f8 hk] at this
 . have:=hh2 k k0 A0c;unfold aN at this⊢
   rwa [Zy A0c,Zy kl] at this
 . rcases hf3 g hg with h|h
   . exact .inl h
   . cases e:H g with
     |none=>exact .inr rfl
     | some ob=>
       by_cases e1:g=p
       . subst e1;rw[hq2.1] at h;cases h
       . by_cases e2:blkOf r=some g
         . exact .inl e2
         . rw[ho12 g ob e e1 e2] at h;cases h
def Tu (us:List V) (H:HH) (T:V->HH->Prop):Prop:=∃p r es x,us=[.x (jx p),au x]∧QJ H p r es∧es.length+1<=100000000∧HeapN es es.length∧∀r' es' H',QJ H' p r' es'->es'.Perm (es++[x])->HeapN es' es'.length->Oth H H' p r->Fr H r r'->T (.tup []) H'
def Mz (us:List V) (H:HH) (T:V->HH->Prop):Prop:=∃p r es,us=[.x (jx p)]∧QJ H p r es∧es≠[]∧HeapN es es.length∧∀r' x es' H',QJ H' p r' es'->es.Perm (x::es')->(∀y∈es,x<=y)->HeapN es' es'.length->Oth H H' p r->Fr H r r'->T (au x) H'
theorem LE:cn (bz [] [] [] (fun _=>false) (fun _=>false)) 10 Tu:=by
 refine cf (F:={F:=vz [(22,In)],D:=fun _=>false}) (n:=9) (k:=2) (bi [] [] [] _ _ trivial trivial trivial) A0a (fD ⟨D8,trivial⟩) (fun t s C e=>by cases e) Try.func10 rfl (fun a w=>Try.call10 a w) Try.ntmps10 A0b A0b A0a ?_;rintro us H T ⟨p,r,es,x,rfl,hq,hlen,hh,hT⟩ hdat;clear hdat;refine⟨rfl,?_⟩;have n1:pk Try.prog 47=true:=A0a
 have n2:pk Try.prog 3=true:=A0a
 simp +decide (maxDischargeDepth:=200) only[go_sem,Nat.reduceBEq,n1,n2,ZD];refine⟨p,r,es,x,rfl,hq,hlen,hh,fun r' es' H' h1 h2 h3 h4 h5=>?_⟩;simp +decide (maxDischargeDepth:=200) only[go_sem,Nat.reduceBEq];exact hT r' es' H' h1 h2 h3 h4 h5
theorem Iq:cn (bz [] [] [] (fun _=>false) (fun _=>false)) 12 Mz:=by
 refine cf (F:={F:=vz [(23,My)],D:=fun _=>false}) (n:=7) (k:=1) (bi [] [] [] _ _ trivial trivial trivial) A0a (fD ⟨Ip,trivial⟩) (fun t s C e=>by cases e) Try.func12 rfl (fun a w=>Try.call12 a w) Try.ntmps12 A0b A0b A0a ?_;rintro us H T ⟨p,r,es,rfl,hq,hne,hh,hT⟩ hdat;clear hdat;refine⟨rfl,?_⟩;have n1:pk Try.prog 47=true:=A0a
 have n2:pk Try.prog 3=true:=A0a
 simp +decide (maxDischargeDepth:=200) only[go_sem,Nat.reduceBEq,n1,ZD];refine⟨p,r,es,rfl,hq,hne,hh,fun r' x es' H' h1 h2 h3 h4 h5 h6=>?_⟩;simp +decide (maxDischargeDepth:=200) only[go_sem,Nat.reduceBEq,n2];exact hT r' x es' H' h1 h2 h3 h4 h5 h6
end Go.Proofs.Ytmfojhkjbkombaa
