/- Chapter 12: what New tells, against what the document says, plainly. -/
import Derived.Test.YtmfojhkjbkombaaMN
import Derived.Test.YtmfojhkjbkombaaMK
namespace Go.Proofs.Ytmfojhkjbkombaa
set_option linter.unusedSimpArgs false
set_option maxRecDepth 100000
open Go Go.RowKit
theorem ww (L:List CI) (d c:C3) (v:Int):ct L c=true∨c=d->ct (fF L d v) c=true:=by
 intro h;unfold fF;split
 . rename_i hd;have hc:ct L c=true:=by
    rcases h with h|rfl
    . exact h
    . exact hd
   rw[cX] at hc⊢;obtain⟨p,hp,rfl⟩:=ZA.1 hc;refine ZA.2 ⟨_,ZA.2 ⟨p,hp,rfl⟩,?_⟩;split<;>rfl
 . rw[cX,ZY,Zv];rcases h with h|rfl
   . exact .inl (cX.1 h)
   . exact .inr A0l
variable {l:List En} {c:C3}
theorem zQ:∀n:Nat,n<=l.length->ct (ak (l.take n)) c=true->∃k e,k<n∧cJ (ak (l.take n)) c=((k:Nat):Int)∧l[k]?=some e∧e.1=c∧∀j f,k<j->j<n->l[j]?=some f->f.1≠c:=by
 intro n
 induction n with
 |zero=>intro _ h;simp[ak,jI,ct,jH] at h
 | succ n ih=>
   intro hn h;have q1:l[n]?=some l[n]:=eq A0c;have e:ak (l.take (n+1))=fF (ak (l.take n)) (l[n]).1 ((n:Nat):Int):=by unfold ak;rw[aO q1,ef,ZS,Zm,aaW A0c]
   rw[e] at h⊢;rw[wh _ _ _ _ h];by_cases hc:c=(l[n]).1
   . rw[Zp hc];exact⟨n,l[n],A0c,rfl,q1,hc.symm,fun j f h1 h2=>by omega⟩
   . rw[Zs hc];obtain⟨k,e,hk,e2,e3,e4,e5⟩:=ih A0c (sd _ _ _ _ hc h);refine⟨k,e,A0c,e2,e3,e4,fun j f h1 h2 hf=>?_⟩;by_cases hj:j=n
     . subst hj;rw[q1] at hf;cases hf;exact fun h=>hc h.symm
     . exact e5 j f h1 A0c hf
theorem oK (h:ct (ak l) c=true):∃e,l[(cJ (ak l) c).toNat]?=some e∧e.1=c∧e∈cC l:=by
 obtain⟨k,e,hk,h1,h2,h3,h4⟩:=zQ (l:=l) (c:=c) l.length (Zt _) (by rw[aak];exact h);rw[aak] at h1;refine⟨e,by rw[h1,iO];exact h2,h3,(vH l e).2 ⟨l.take k,l.drop (k+1),?_,fun y hy=>?_⟩⟩
 . have he:=(tl.1 h2).2;rw[<-he,<-List.drop_eq_getElem_cons,abC]
 . obtain⟨j,hj⟩:=aaO hy;rw[aay] at hj;rw[h3];exact h4 (k+1+j) y A0c (tl.1 hj).1 hj
variable {e:En}
theorem Eo:∀n:Nat,n<=l.length->e∈l.take n->ct (ak (l.take n)) e.1=true:=by
 intro n
 induction n with
 |zero=>intro _ h;simp at h
 | succ n ih=>
   intro hn h;have q1:l[n]?=some l[n]:=eq A0c;have e:ak (l.take (n+1))=fF (ak (l.take n)) (l[n]).1 ((n:Nat):Int):=by unfold ak;rw[aO q1,ef,ZS,Zm,aaW A0c]
   rw[e];rw[aO q1,Zv] at h;rcases h with h|h
   . exact ww _ _ _ _ (.inl (ih A0c h))
   . rw[Zn.1 h];exact ww _ _ _ _ (.inr rfl)
theorem oL (l:List En):bG (ak l)=bo (cC l):=nT bQ (kH _) (fE l) fun c=>by
 rw[gG];constructor
 . intro h;obtain⟨e,_,h1,h2⟩:=oK (cX.2 h);exact ZA.2 ⟨e,h2,h1⟩
 . intro h;obtain⟨e,he,rfl⟩:=ZA.1 h;have:=Eo (l:=l) (e:=e) l.length (Zt _) (by rw[aak];exact HT he);rw[aak] at this;exact cX.1 this
def ga (l:List En) (C:List C3) (i:Nat):List Nat:=
 match C[i]? with
 |none=>[]
 | some c=>match l[(cJ (ak l) c).toNat]? with
   |none=>[]
   |some e=>if e.2.1=true then jy C (aJ e.2.2.1) else []
theorem oM (l:List En) (C:List C3) (q:QS) (i:Nat):oG l C q i=(ga l C i).foldl (cZ i) q:=by
 unfold oG ga;cases C[i]? with
 |none=>rfl
 | some c=>
   simp only;cases l[(cJ (ak l) c).toNat]? with
   |none=>rfl
   |some e=>simp only;split<;>rfl
theorem oN {i:Nat}:∀(ps:List Nat) (q:QS) (j:Nat) (es:List Int),q.1[j]?=some es->(ps.foldl (cZ i) q).1[j]?=some (if j=i then es++ps.map (fun x:Nat=>((x:Nat):Int)) else es)
 |[],q,j,es,h=>by rw[aba,aaw,ite_self];exact h
 | x ::ps,q,j,es,h=>by
   have hj:=(tl.1 h).1;rw[aao];by_cases e:j=i
   . subst e;have h1:(cZ j q x).1[j]?=some (es++[(x:Int)]):=by show(q.1.set j ((q.1[j]?.getD [])++[(x:Int)]))[j]?=_;rw[abS hj,h];rfl
     rw[oN ps _ j _ h1,Zp rfl,Zp rfl,ZN,aam];rfl
   . have h1:(cZ i q x).1[j]?=some es:=by show(q.1.set i _)[j]?=_;rw[abm (aaJ e)];exact h
     rw[oN ps _ j _ h1,Zs e,Zs e]
theorem oO {i:Nat}:∀(ps:List Nat) (q:QS) (x:Nat) (es:List Int),ps.Nodup->q.2[x]?=some es->(ps.foldl (cZ i) q).2[x]?=some (if x∈ps then es++[(i:Int)] else es)
 |[],q,x,es,_,h=>by rw[Zs A0l];exact h
 | y ::ps,q,x,es,hn,h=>by
   have hx:=(tl.1 h).1;obtain⟨hy,hn2⟩:=ZZ.1 hn;rw[aao];by_cases e:x=y
   . subst e;have h1:(cZ i q x).2[x]?=some (es++[(i:Int)]):=by show(q.2.set x ((q.2[x]?.getD [])++[(i:Int)]))[x]?=_;rw[abS hx,h];rfl
     rw[oO ps _ x _ hn2 h1,Zs hy,Zp A0l]
   . have h1:(cZ i q y).2[x]?=some es:=by show(q.2.set y _)[x]?=_;rw[abm (aaJ e)];exact h
     rw[oO ps _ x _ hn2 h1];by_cases hm:x∈ps
     . rw[Zp hm,Zp (ZI _ hm)]
     . rw[Zs hm,Zs (fun h=>by rcases ZE.1 h with h|h;exact e h;exact hm h)]
theorem wx (l:List En) (C:List C3):∀(n i:Nat),i<C.length->(eG l C n).1[i]?=some (if i<n then (ga l C i).map (fun x:Nat=>((x:Nat):Int)) else [])
 |0,i,hi=>by rw[Zs A0c];show(List.replicate C.length [])[i]?=_;rw[Z7,Zp hi]
 | n +1,i,hi=>by
   rw[gJ,oM,oN _ _ _ _ (wx l C n i hi)];by_cases e:i=n
   . subst e;rw[Zp rfl,Zs A0c,Zp A0c,aaB]
   . rw[Zs e];by_cases h:i<n
     . rw[Zp h,Zp A0c]
     . rw[Zs h,Zs A0c]
theorem wy (l:List En) (C:List C3) (hnd:∀i,(ga l C i).Nodup):∀(n x:Nat),x<C.length->∃es,(eG l C n).2[x]?=some es∧es.Pairwise (· < ·)∧∀y,y∈es↔∃i:Nat,y=(i:Int)∧i<n∧x∈ga l C i
 |0,x,hx=>⟨[],by show(List.replicate C.length [])[x]?=_;rw[Z7,Zp hx],List.Pairwise.nil,fun y=>by simp⟩
 | n + 1,x,hx=>by
   obtain⟨es,h1,h2,h3⟩:=wy l C hnd n x hx;refine⟨_,by rw[gJ,oM,oO _ _ _ _ (hnd n) h1],?_,fun y=>?_⟩
   . split
     . refine aaC.2 ⟨h2,aaV _ _,fun a ha b hb=>?_⟩;rw[Zn.1 hb];obtain⟨i,rfl,hi,_⟩:=(h3 a).1 ha;omega
     . exact h2
   . split
     . rename_i hm;rw[Zv,Zn,h3];constructor
       . rintro(⟨i,rfl,hi,h⟩|rfl)
         . exact⟨i,rfl,A0c,h⟩
         . exact⟨n,rfl,A0c,hm⟩
       . rintro⟨i,rfl,hi,h⟩;by_cases e:i=n
         . exact .inr A0Z
         . exact .inl ⟨i,rfl,A0c,h⟩
     . rename_i hm;rw[h3];constructor
       . rintro⟨i,rfl,hi,h⟩;exact⟨i,rfl,A0c,h⟩
       . rintro⟨i,rfl,hi,h⟩;refine⟨i,rfl,?_,h⟩;by_cases e:i=n
         . exact absurd (e▸h) hm
         . omega
variable {C:List C3}
theorem ju:jH c C=true↔c∈C:=by have h:=cX (L:=plI 0 C) (c:=c);rw[mO,mN] at h;exact h
theorem LV (c:C3) (C:List C3):Ml C c=jH c C:=by rw[abc,ie,ju]
theorem OK (hn:C.Nodup) {c:C3} (h:c∈C):∃i:Nat,C[i]?=some c∧cJ (plI 0 C) c=(i:Int)∧i<C.length:=by obtain⟨i,hi⟩:=rZ (ju.2 h);have:=ql (k:=0) hn hi;rw[Zm] at this;exact⟨i,hi,this,(tl.1 hi).1⟩
theorem it {i:Nat} (h:C[i]?=some c):iE C (i:Int)=c:=by unfold iE;rw[iO,h];rfl
theorem sg (hn:C.Nodup) {c:C3} (h:c∈C):iE C (((cJ (plI 0 C) c).toNat:Nat):Int)=c:=by obtain⟨i,h1,h2,_⟩:=OK hn h;rw[h2,iO];exact it h1
theorem zR {r:List C3} (hn:C.Nodup) (hr:r.Nodup):(jy C r).Nodup:=by unfold jy;rw[List.Nodup,abN];refine List.Pairwise.imp_of_mem (fun {a b} ha hb hab e=>?_) (abD List.filter_sublist hr);have h1:=sg hn (ju.1 (aaa.1 ha).2);have h2:=sg hn (ju.1 (aaa.1 hb).2);rw[e,h2] at h1;exact hab h1.symm
theorem wz (nd:Nd):(aJ nd).Nodup:=(lh nd).imp fun {a b} h e=>by subst e;rw[bQ.irr] at h;cases h
theorem zS (hn:C.Nodup) (r:List C3):((jy C r).map fun x:Nat=>((x:Nat):Int)).map (iE C)=r.filter fun c=>jH c C:=by
 unfold jy;rw[aat,aat]
 conv=>rhs;rw[<-List.map_id (r.filter fun c=>jH c C)]
 exact aaN fun c hc=>sg hn (ju.1 (aaa.1 hc).2)
section
variable {l:List En}
theorem Bx {i:Nat} (hi:(bG (ak l))[i]?=some c):∃e∈cC l,e.1=c∧ga l (bG (ak l)) i=if e.2.1=true then jy (bG (ak l)) (aJ e.2.2.1) else []:=by have hc:c∈bG (ak l):=Zo hi;obtain⟨e,h1,h2,h3⟩:=oK (cX.2 ((gG _ _).1 hc));refine⟨e,h3,h2,?_⟩;unfold ga;rw[hi];simp only;rw[h1]
theorem zT (i:Nat):(ga l (bG (ak l)) i).Nodup:=by
 cases h:(bG (ak l))[i]? with
 |none=>unfold ga;rw[h];exact Z8
 | some c=>
   obtain⟨e,_,_,h3⟩:=Bx h;rw[h3];split
   . exact zR (dl _) (wz _)
   . exact Z8
theorem By (i:Nat):∀x∈ga l (bG (ak l)) i,x<(bG (ak l)).length:=by
 cases h:(bG (ak l))[i]? with
 |none=>unfold ga;rw[h];exact fun x hx=>by cases hx
 | some c=>
   obtain⟨e,_,_,h3⟩:=Bx h;rw[h3];split
   . exact Bo (dl _) _
   . exact fun x hx=>by cases hx
theorem oP {i:Nat} (hi:(bG (ak l))[i]?=some c):∃e∈cC l,e.1=c∧((ga l (bG (ak l)) i).map fun x:Nat=>((x:Nat):Int)).map (iE (bG (ak l)))=eb (cC l) e:=by
 obtain⟨e,h1,h2,h3⟩:=Bx hi;refine⟨e,h1,h2,?_⟩;rw[h3];unfold eb;split
 . rw[zS (dl _),<-oL];congr 1;funext c;exact(LV c _).symm
 . rfl
variable {y:C3}
theorem wA {i x:Nat} (hi:(bG (ak l))[i]?=some c) (hx:(bG (ak l))[x]?=some y) (he:e∈cC l) (hec:e.1=c):x∈ga l (bG (ak l)) i↔y∈eb (cC l) e:=by
 obtain⟨e',h1,h2,h3⟩:=oP hi;obtain rfl:=qh (fE l) h1 he (h2.trans hec.symm);rw[<-h3];constructor
 . intro h;exact ZA.2 ⟨(x:Int),ZA.2 ⟨x,h,rfl⟩,it hx⟩
 . intro h;obtain⟨z,hz,hzy⟩:=ZA.1 h;obtain⟨x',hx',rfl⟩:=ZA.1 hz;have hl:=By i x' hx';have e1:(bG (ak l))[x']?=some y:=by have:=it (eq hl);rw[hzy] at this;rw[this];exact eq hl
   have h4:=(tl.1 e1).2;have h5:=(tl.1 hx).2;have:x'=x:=(acr (dl _)).1 (h4.trans h5.symm);rw[<-this];exact hx'
theorem IV {es:List Int} (h:es.Pairwise (· < ·)) (hin:∀y∈es,0<=y∧y.toNat<(bG (ak l)).length):iF ab (es.map (iE (bG (ak l)))):=by rw[iF,abN];refine List.Pairwise.imp_of_mem (fun {a b} ha hb hab=>?_) h;obtain⟨a0,a1⟩:=hin a ha;obtain⟨b0,b1⟩:=hin b hb;obtain⟨i,rfl⟩:=aaf a0;obtain⟨j,rfl⟩:=aaf b0;rw[iO] at a1 b1;rw[it (eq a1),it (eq b1)];exact(aa7.1 (kH (ak l))) i j a1 b1 A0c
theorem wB {x:Nat} (hx:(bG (ak l))[x]?=some y):∃es,(dw l).2.2[x]?=some es∧es.Pairwise (· < ·)∧(∀z∈es,0<=z∧z.toNat<(bG (ak l)).length)∧es.map (iE (bG (ak l)))=readersD (cC l) y:=by
 have hxl:=(tl.1 hx).1;obtain⟨es,h1,h2,h3⟩:=wy l (bG (ak l)) zT (bG (ak l)).length x hxl;have hin:∀z∈es,0<=z∧z.toNat<(bG (ak l)).length:=fun z hz=>by obtain⟨i,rfl,hi,_⟩:=(h3 z).1 hz;rw[iO];exact⟨aaM i,hi⟩
 refine⟨es,h1,h2,hin,nT bQ (IV h2 hin) (vJ (fE l) y) fun c=>?_⟩;rw[vI,ZA];constructor
 . rintro⟨z,hz,rfl⟩;obtain⟨i,rfl,hi,hm⟩:=(h3 z).1 hz;have hci:=eq hi;obtain⟨e,he,hec,_⟩:=Bx hci;exact⟨e,he,by rw[it hci];exact hec,(wA hci hx he hec).1 hm⟩
 . rintro⟨e,he,rfl,hm⟩;have hmem:e.1∈bG (ak l):=by rw[oL];exact ZA.2 ⟨e,he,rfl⟩
   obtain⟨i,hi⟩:=aaO hmem;exact⟨(i:Int),(h3 _).2 ⟨i,rfl,(tl.1 hi).1,(wA hi hx he rfl).2 hm⟩,it hi⟩
theorem jv {x:Nat} (hx:(bG (ak l))[x]?=some y):∃es,(dw l).2.1[x]?=some es∧(∀z∈es,0<=z∧z.toNat<(bG (ak l)).length)∧es.map (iE (bG (ak l)))=ox (cC l) y:=by
 have hxl:=(tl.1 hx).1;have h1:=wx l (bG (ak l)) (bG (ak l)).length x hxl;rw[Zp hxl] at h1;refine⟨_,h1,fun z hz=>?_,?_⟩
 . obtain⟨i,hi,rfl⟩:=ZA.1 hz;rw[iO];exact⟨aaM i,By x i hi⟩
 . obtain⟨e,he,rfl,h3⟩:=oP hx;rw[h3,lI (fE l) he]
end
section
variable {l:List En}
end
theorem wC {i:Nat}:∀(ps:List Nat) (q:QS),(ps.foldl (cZ i) q).1.length=q.1.length∧(ps.foldl (cZ i) q).2.length=q.2.length
 |[],q=>⟨rfl,rfl⟩
 |x::ps,q=>by obtain⟨h1,h2⟩:=wC (i:=i) ps (cZ i q x);rw[aao,h1,h2];exact⟨ZW ..,ZW ..⟩
theorem lM (l:List En) (C:List C3):∀n,(eG l C n).1.length=C.length∧(eG l C n).2.length=C.length
 |0=>⟨aax,aax⟩
 |n+1=>by rw[gJ,oM];obtain⟨h1,h2⟩:=wC (i:=n) (ga l C n) (eG l C n);obtain⟨h3,h4⟩:=lM l C n;exact⟨h1.trans h3,h2.trans h4⟩
theorem zU (hl:l.length<=400) (hc:∀e∈l,rq e.2.2.1<=400):DR (dw l):=by
 obtain⟨h1,h2⟩:=lM l (bG (ak l)) (bG (ak l)).length;obtain⟨b1,b2⟩:=oH (C:=bG (ak l)) hc (bG (ak l)).length;have h400:=wl hl;refine⟨dl _,h400,h1,h2,fun r hr=>?_,fun r hr=>?_⟩
 . refine⟨by have:=b1 r hr;omega,?_⟩;obtain⟨i,hi⟩:=aaO hr;have hil:i<(bG (ak l)).length:=by have:=(tl.1 hi).1;exact h1▸this
   obtain⟨es,h3,h4,_⟩:=jv (l:=l) (eq hil);rw[h3] at hi;cases hi;exact h4
 . refine⟨by have:=b2 r hr;omega,?_⟩;obtain⟨i,hi⟩:=aaO hr;have hil:i<(bG (ak l)).length:=by have:=(tl.1 hi).1;exact h2▸this
   obtain⟨es,h3,_,h4,_⟩:=wB (l:=l) (eq hil);rw[h3] at hi;cases hi;exact h4
end Go.Proofs.Ytmfojhkjbkombaa
