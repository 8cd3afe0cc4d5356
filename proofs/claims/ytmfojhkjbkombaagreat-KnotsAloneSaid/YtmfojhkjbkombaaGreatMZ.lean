/- Chapter 12: what New tells, against what the document says, plainly. -/
import Derived.Test.YtmfojhkjbkombaaGreatMN
import Derived.Test.YtmfojhkjbkombaaGreatMK
namespace Go.Proofs.YtmfojhkjbkombaaGreat
set_option linter.unusedSimpArgs false
set_option maxRecDepth 100000
open Go Go.RowKit
theorem vL (L:List CI) (d c:C3) (v:Int):cP L c=true∨c=d->cP (fB L d v) c=true:=by
 intro h;unfold fB;split
 . rename_i hd;have hc:cP L c=true:=by
    rcases h with h|rfl
    . exact h
    . exact hd
   rw[cX] at hc⊢;obtain⟨p,hp,rfl⟩:=YR.1 hc;refine YR.2 ⟨_,YR.2 ⟨p,hp,rfl⟩,?_⟩;split<;>rfl
 . rw[cX,Y4,YM];rcases h with h|rfl
   . exact .inl (cX.1 h)
   . exact .inr A0j
variable {l:List En} {c:C3}
theorem zo:∀n:Nat,n<=l.length->cP (am (l.take n)) c=true->∃k e,k<n∧dp (am (l.take n)) c=((k:Nat):Int)∧l[k]?=some e∧e.1=c∧∀j f,k<j->j<n->l[j]?=some f->f.1≠c:=by
 intro n
 induction n with
 |zero=>intro _ h;simp[am,jA,cP,jW] at h
 | succ n ih=>
   intro hn h;have q1:l[n]?=some l[n]:=io A0b;have e:am (l.take (n+1))=fB (am (l.take n)) (l[n]).1 ((n:Nat):Int):=by unfold am;rw[aF q1,ep,YQ,YC,aae A0b]
   rw[e] at h⊢;rw[vB _ _ _ _ h];by_cases hc:c=(l[n]).1
   . rw[YG hc];exact⟨n,l[n],A0b,rfl,q1,hc.symm,fun j f h1 h2=>by omega⟩
   . rw[YL hc];obtain⟨k,e,hk,e2,e3,e4,e5⟩:=ih A0b (rT _ _ _ _ hc h);refine⟨k,e,A0b,e2,e3,e4,fun j f h1 h2 hf=>?_⟩;by_cases hj:j=n
     . subst hj;rw[q1] at hf;cases hf;exact fun h=>hc h.symm
     . exact e5 j f h1 A0b hf
theorem oD (h:cP (am l) c=true):∃e,l[(dp (am l) c).toNat]?=some e∧e.1=c∧e∈be l:=by
 obtain⟨k,e,hk,h1,h2,h3,h4⟩:=zo (l:=l) (c:=c) l.length (YJ _) (by rw[Zy];exact h);rw[Zy] at h1;refine⟨e,by rw[h1,tl];exact h2,h3,(oi l e).2 ⟨l.take k,l.drop (k+1),?_,fun y hy=>?_⟩⟩
 . have he:=(iO.1 h2).2;rw[<-he,<-abk,aaz]
 . obtain⟨j,hj⟩:=ZW hy;rw[ZN] at hj;rw[h3];exact h4 (k+1+j) y A0b (iO.1 hj).1 hj
variable {e:En}
theorem DS:∀n:Nat,n<=l.length->e∈l.take n->cP (am (l.take n)) e.1=true:=by
 intro n
 induction n with
 |zero=>intro _ h;simp at h
 | succ n ih=>
   intro hn h;have q1:l[n]?=some l[n]:=io A0b;have e:am (l.take (n+1))=fB (am (l.take n)) (l[n]).1 ((n:Nat):Int):=by unfold am;rw[aF q1,ep,YQ,YC,aae A0b]
   rw[e];rw[aF q1,YM] at h;rcases h with h|h
   . exact vL _ _ _ _ (.inl (ih A0b h))
   . rw[YF.1 h];exact vL _ _ _ _ (.inr rfl)
theorem oE (l:List En):bR (am l)=az (be l):=rm bQ (kE _) (eM l) fun c=>by
 rw[gE];constructor
 . intro h;obtain⟨e,_,h1,h2⟩:=oD (cX.2 h);exact YR.2 ⟨e,h2,h1⟩
 . intro h;obtain⟨e,he,rfl⟩:=YR.1 h;have:=DS (l:=l) (e:=e) l.length (YJ _) (by rw[Zy];exact om he);rw[Zy] at this;exact cX.1 this
def fW (l:List En) (C:List C3) (i:Nat):List Nat:=
 match C[i]? with
 |none=>[]
 | some c=>match l[(dp (am l) c).toNat]? with
   |none=>[]
   |some e=>if e.2.1=true then oz C (aM e.2.2.1) else []
theorem oF (l:List En) (C:List C3) (q:QS) (i:Nat):oA l C q i=(fW l C i).foldl (fU i) q:=by
 unfold oA fW;cases C[i]? with
 |none=>rfl
 | some c=>
   simp only;cases l[(dp (am l) c).toNat]? with
   |none=>rfl
   |some e=>simp only;split<;>rfl
theorem oG {i:Nat}:∀(ps:List Nat) (q:QS) (j:Nat) (es:List Int),q.1[j]?=some es->(ps.foldl (fU i) q).1[j]?=some (if j=i then es++ps.map (fun x:Nat=>((x:Nat):Int)) else es)
 |[],q,j,es,h=>by rw[aah,Z9,ite_self];exact h
 | x ::ps,q,j,es,h=>by
   have hj:=(iO.1 h).1;rw[ZR];by_cases e:j=i
   . subst e;have h1:(fU j q x).1[j]?=some (es++[(x:Int)]):=by show(q.1.set j ((q.1[j]?.getD [])++[(x:Int)]))[j]?=_;rw[aaj hj,h];rfl
     rw[oG ps _ j _ h1,YG rfl,YG rfl,Y0,Zw];rfl
   . have h1:(fU i q x).1[j]?=some es:=by show(q.1.set i _)[j]?=_;rw[aab (ZY e)];exact h
     rw[oG ps _ j _ h1,YL e,YL e]
theorem oH {i:Nat}:∀(ps:List Nat) (q:QS) (x:Nat) (es:List Int),ps.Nodup->q.2[x]?=some es->(ps.foldl (fU i) q).2[x]?=some (if x∈ps then es++[(i:Int)] else es)
 |[],q,x,es,_,h=>by rw[YL A0j];exact h
 | y ::ps,q,x,es,hn,h=>by
   have hx:=(iO.1 h).1;obtain⟨hy,hn2⟩:=Zj.1 hn;rw[ZR];by_cases e:x=y
   . subst e;have h1:(fU i q x).2[x]?=some (es++[(i:Int)]):=by show(q.2.set x ((q.2[x]?.getD [])++[(i:Int)]))[x]?=_;rw[aaj hx,h];rfl
     rw[oH ps _ x _ hn2 h1,YL hy,YG A0j]
   . have h1:(fU i q y).2[x]?=some es:=by show(q.2.set y _)[x]?=_;rw[aab (ZY e)];exact h
     rw[oH ps _ x _ hn2 h1];by_cases hm:x∈ps
     . rw[YG hm,YG (YY _ hm)]
     . rw[YL hm,YL (fun h=>by rcases YT.1 h with h|h;exact e h;exact hm h)]
theorem vM (l:List En) (C:List C3):∀(n i:Nat),i<C.length->(eO l C n).1[i]?=some (if i<n then (fW l C i).map (fun x:Nat=>((x:Nat):Int)) else [])
 |0,i,hi=>by rw[YL A0b];show(List.replicate C.length [])[i]?=_;rw[Zl,YG hi]
 | n +1,i,hi=>by
   rw[gF,oF,oG _ _ _ _ (vM l C n i hi)];by_cases e:i=n
   . subst e;rw[YG rfl,YL A0b,YG A0b,aak]
   . rw[YL e];by_cases h:i<n
     . rw[YG h,YG A0b]
     . rw[YL h,YL A0b]
theorem vN (l:List En) (C:List C3) (hnd:∀i,(fW l C i).Nodup):∀(n x:Nat),x<C.length->∃es,(eO l C n).2[x]?=some es∧es.Pairwise (· < ·)∧∀y,y∈es↔∃i:Nat,y=(i:Int)∧i<n∧x∈fW l C i
 |0,x,hx=>⟨[],by show(List.replicate C.length [])[x]?=_;rw[Zl,YG hx],List.Pairwise.nil,fun y=>by simp⟩
 | n + 1,x,hx=>by
   obtain⟨es,h1,h2,h3⟩:=vN l C hnd n x hx;refine⟨_,by rw[gF,oF,oH _ _ _ _ (hnd n) h1],?_,fun y=>?_⟩
   . split
     . refine ZS.2 ⟨h2,Z8 _ _,fun a ha b hb=>?_⟩;rw[YF.1 hb];obtain⟨i,rfl,hi,_⟩:=(h3 a).1 ha;omega
     . exact h2
   . split
     . rename_i hm;rw[YM,YF,h3];constructor
       . rintro(⟨i,rfl,hi,h⟩|rfl)
         . exact⟨i,rfl,A0b,h⟩
         . exact⟨n,rfl,A0b,hm⟩
       . rintro⟨i,rfl,hi,h⟩;by_cases e:i=n
         . exact .inr A0U
         . exact .inl ⟨i,rfl,A0b,h⟩
     . rename_i hm;rw[h3];constructor
       . rintro⟨i,rfl,hi,h⟩;exact⟨i,rfl,A0b,h⟩
       . rintro⟨i,rfl,hi,h⟩;refine⟨i,rfl,?_,h⟩;by_cases e:i=n
         . exact absurd (e▸h) hm
         . omega
variable {C:List C3}
theorem jo:jW c C=true↔c∈C:=by have h:=cX (L:=plI 0 C) (c:=c);rw[rJ,mG] at h;exact h
theorem LF (c:C3) (C:List C3):mo C c=jW c C:=by rw[aaw,ku,jo]
theorem Oh (hn:C.Nodup) {c:C3} (h:c∈C):∃i:Nat,C[i]?=some c∧dp (plI 0 C) c=(i:Int)∧i<C.length:=by obtain⟨i,hi⟩:=rK (jo.2 h);have:=qh (k:=0) hn hi;rw[YC] at this;exact⟨i,hi,this,(iO.1 hi).1⟩
theorem iq {i:Nat} (h:C[i]?=some c):ji C (i:Int)=c:=by unfold ji;rw[tl,h];rfl
theorem rV (hn:C.Nodup) {c:C3} (h:c∈C):ji C (((dp (plI 0 C) c).toNat:Nat):Int)=c:=by obtain⟨i,h1,h2,_⟩:=Oh hn h;rw[h2,tl];exact iq h1
theorem zp {r:List C3} (hn:C.Nodup) (hr:r.Nodup):(oz C r).Nodup:=by unfold oz;rw[List.Nodup,abc];refine List.Pairwise.imp_of_mem (fun {a b} ha hb hab e=>?_) (aaQ List.filter_sublist hr);have h1:=rV hn (jo.1 (Zq.1 ha).2);have h2:=rV hn (jo.1 (Zq.1 hb).2);rw[e,h2] at h1;exact hab h1.symm
theorem vO (nd:Nd):(aM nd).Nodup:=(pV nd).imp fun {a b} h e=>by subst e;rw[bQ.irr] at h;cases h
theorem zq (hn:C.Nodup) (r:List C3):((oz C r).map fun x:Nat=>((x:Nat):Int)).map (ji C)=r.filter fun c=>jW c C:=by
 unfold oz;rw[ZT,ZT]
 conv=>rhs;rw[<-List.map_id (r.filter fun c=>jW c C)]
 exact aad fun c hc=>rV hn (jo.1 (Zq.1 hc).2)
section
variable {l:List En}
theorem A5 {i:Nat} (hi:(bR (am l))[i]?=some c):∃e∈be l,e.1=c∧fW l (bR (am l)) i=if e.2.1=true then oz (bR (am l)) (aM e.2.2.1) else []:=by have hc:c∈bR (am l):=YB hi;obtain⟨e,h1,h2,h3⟩:=oD (cX.2 ((gE _ _).1 hc));refine⟨e,h3,h2,?_⟩;unfold fW;rw[hi];simp only;rw[h1]
theorem zt (i:Nat):(fW l (bR (am l)) i).Nodup:=by
 cases h:(bR (am l))[i]? with
 |none=>unfold fW;rw[h];exact ZD
 | some c=>
   obtain⟨e,_,_,h3⟩:=A5 h;rw[h3];split
   . exact zp (dG _) (vO _)
   . exact ZD
theorem A6 (i:Nat):∀x∈fW l (bR (am l)) i,x<(bR (am l)).length:=by
 cases h:(bR (am l))[i]? with
 |none=>unfold fW;rw[h];exact fun x hx=>by cases hx
 | some c=>
   obtain⟨e,_,_,h3⟩:=A5 h;rw[h3];split
   . exact Lo (dG _) _
   . exact fun x hx=>by cases hx
theorem oI {i:Nat} (hi:(bR (am l))[i]?=some c):∃e∈be l,e.1=c∧((fW l (bR (am l)) i).map fun x:Nat=>((x:Nat):Int)).map (ji (bR (am l)))=dl (be l) e:=by
 obtain⟨e,h1,h2,h3⟩:=A5 hi;refine⟨e,h1,h2,?_⟩;rw[h3];unfold dl;split
 . rw[zq (dG _),<-oE];congr 1;funext c;exact(LF c _).symm
 . rfl
variable {y:C3}
theorem vP {i x:Nat} (hi:(bR (am l))[i]?=some c) (hx:(bR (am l))[x]?=some y) (he:e∈be l) (hec:e.1=c):x∈fW l (bR (am l)) i↔y∈dl (be l) e:=by
 obtain⟨e',h1,h2,h3⟩:=oI hi;obtain rfl:=qd (eM l) h1 he (h2.trans hec.symm);rw[<-h3];constructor
 . intro h;exact YR.2 ⟨(x:Int),YR.2 ⟨x,h,rfl⟩,iq hx⟩
 . intro h;obtain⟨z,hz,hzy⟩:=YR.1 h;obtain⟨x',hx',rfl⟩:=YR.1 hz;have hl:=A6 i x' hx';have e1:(bR (am l))[x']?=some y:=by have:=iq (io hl);rw[hzy] at this;rw[this];exact io hl
   have h4:=(iO.1 e1).2;have h5:=(iO.1 hx).2;have:x'=x:=(List.getElem_inj (dG _)).1 (h4.trans h5.symm);rw[<-this];exact hx'
theorem Ip {es:List Int} (h:es.Pairwise (· < ·)) (hin:∀y∈es,0<=y∧y.toNat<(bR (am l)).length):iD ae (es.map (ji (bR (am l)))):=by rw[iD,abc];refine List.Pairwise.imp_of_mem (fun {a b} ha hb hab=>?_) h;obtain⟨a0,a1⟩:=hin a ha;obtain⟨b0,b1⟩:=hin b hb;obtain⟨i,rfl⟩:=ZX a0;obtain⟨j,rfl⟩:=ZX b0;rw[tl] at a1 b1;rw[iq (io a1),iq (io b1)];exact(aal.1 (kE (am l))) i j a1 b1 A0b
theorem vQ {x:Nat} (hx:(bR (am l))[x]?=some y):∃es,(dO l).2.2[x]?=some es∧es.Pairwise (· < ·)∧(∀z∈es,0<=z∧z.toNat<(bR (am l)).length)∧es.map (ji (bR (am l)))=readersD (be l) y:=by
 have hxl:=(iO.1 hx).1;obtain⟨es,h1,h2,h3⟩:=vN l (bR (am l)) zt (bR (am l)).length x hxl;have hin:∀z∈es,0<=z∧z.toNat<(bR (am l)).length:=fun z hz=>by obtain⟨i,rfl,hi,_⟩:=(h3 z).1 hz;rw[tl];exact⟨aar i,hi⟩
 refine⟨es,h1,h2,hin,rm bQ (Ip h2 hin) (ve (eM l) y) fun c=>?_⟩;rw[vd,YR];constructor
 . rintro⟨z,hz,rfl⟩;obtain⟨i,rfl,hi,hm⟩:=(h3 z).1 hz;have hci:=io hi;obtain⟨e,he,hec,_⟩:=A5 hci;exact⟨e,he,by rw[iq hci];exact hec,(vP hci hx he hec).1 hm⟩
 . rintro⟨e,he,rfl,hm⟩;have hmem:e.1∈bR (am l):=by rw[oE];exact YR.2 ⟨e,he,rfl⟩
   obtain⟨i,hi⟩:=ZW hmem;exact⟨(i:Int),(h3 _).2 ⟨i,rfl,(iO.1 hi).1,(vP hi hx he rfl).2 hm⟩,iq hi⟩
theorem lz {x:Nat} (hx:(bR (am l))[x]?=some y):∃es,(dO l).2.1[x]?=some es∧(∀z∈es,0<=z∧z.toNat<(bR (am l)).length)∧es.map (ji (bR (am l)))=oj (be l) y:=by
 have hxl:=(iO.1 hx).1;have h1:=vM l (bR (am l)) (bR (am l)).length x hxl;rw[YG hxl] at h1;refine⟨_,h1,fun z hz=>?_,?_⟩
 . obtain⟨i,hi,rfl⟩:=YR.1 hz;rw[tl];exact⟨aar i,A6 x i hi⟩
 . obtain⟨e,he,rfl,h3⟩:=oI hx;rw[h3,qe (eM l) he]
end
section
variable {l:List En}
end
theorem vT {i:Nat}:∀(ps:List Nat) (q:QS),(ps.foldl (fU i) q).1.length=q.1.length∧(ps.foldl (fU i) q).2.length=q.2.length
 |[],q=>⟨rfl,rfl⟩
 |x::ps,q=>by obtain⟨h1,h2⟩:=vT (i:=i) ps (fU i q x);rw[ZR,h1,h2];exact⟨Za ..,Za ..⟩
theorem lA (l:List En) (C:List C3):∀n,(eO l C n).1.length=C.length∧(eO l C n).2.length=C.length
 |0=>⟨ZM,ZM⟩
 |n+1=>by rw[gF,oF];obtain⟨h1,h2⟩:=vT (i:=n) (fW l C n) (eO l C n);obtain⟨h3,h4⟩:=lA l C n;exact⟨h1.trans h3,h2.trans h4⟩
theorem rW (hl:l.length<=400) (hc:∀e∈l,nH e.2.2.1<=400):Dp (dO l):=by
 obtain⟨h1,h2⟩:=lA l (bR (am l)) (bR (am l)).length;obtain⟨b1,b2⟩:=vC (C:=bR (am l)) hc (bR (am l)).length;have h400:=vE hl;refine⟨dG _,h400,h1,h2,fun r hr=>?_,fun r hr=>?_⟩
 . refine⟨by have:=b1 r hr;omega,?_⟩;obtain⟨i,hi⟩:=ZW hr;have hil:i<(bR (am l)).length:=by have:=(iO.1 hi).1;exact h1▸this
   obtain⟨es,h3,h4,_⟩:=lz (l:=l) (io hil);rw[h3] at hi;cases hi;exact h4
 . refine⟨by have:=b2 r hr;omega,?_⟩;obtain⟨i,hi⟩:=ZW hr;have hil:i<(bR (am l)).length:=by have:=(iO.1 hi).1;exact h2▸this
   obtain⟨es,h3,_,h4,_⟩:=vQ (l:=l) (io hil);rw[h3] at hi;cases hi;exact h4
end Go.Proofs.YtmfojhkjbkombaaGreat
