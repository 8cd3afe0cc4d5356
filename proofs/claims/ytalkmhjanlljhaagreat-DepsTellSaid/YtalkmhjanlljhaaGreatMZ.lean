/- Chapter 12: what New tells, against what the document says, plainly. -/
import Derived.Test.YtalkmhjanlljhaaGreatMN
import Derived.Test.YtalkmhjanlljhaaGreatMK
import Derived.Test.YtalkmhjanlljhaaGreatMT
namespace Go.Proofs.YtalkmhjanlljhaaGreat
set_option linter.unusedSimpArgs false
set_option maxHeartbeats 32000000
set_option maxRecDepth 100000
open Go Go.RowKit
attribute [go_sem] Tryz.results7 Tryz.results8
theorem uW (L:List CI) (d c:C3) (v:Int):cB L c=true∨c=d->cB (fT L d v) c=true:=by
 intro h;unfold fT;split
 . rename_i hd;have hc:cB L c=true:=by
    rcases h with h|rfl
    . exact h
    . exact hd
   rw[cZ] at hc⊢;obtain⟨p,hp,rfl⟩:=U7.1 hc;refine U7.2 ⟨_,U7.2 ⟨p,hp,rfl⟩,?_⟩;split<;>rfl
 . rw[cZ,Vy,Vl];rcases h with h|rfl
   . exact .inl (cZ.1 h)
   . exact .inr (by simp)
variable {l:List En} {c:C3}
theorem xV:∀n:Nat,n<=l.length->cB (aj (l.take n)) c=true->∃k e,k<n∧cz (aj (l.take n)) c=((k:Nat):Int)∧l[k]?=some e∧e.1=c∧∀j f,k<j->j<n->l[j]?=some f->f.1≠c:=by
 intro n
 induction n with
 |zero=>intro _ h;simp[aj,jQ,cB,gN] at h
 | succ n ih=>
   intro hn h;have q1:l[n]?=some l[n]:=io (by omega);have e:aj (l.take (n+1))=fT (aj (l.take n)) (l[n]).1 ((n:Nat):Int):=by unfold aj;rw[aS q1,eF,Vj,Vt,WR (by omega)]
   rw[e] at h⊢;rw[uO _ _ _ _ h];by_cases hc:c=(l[n]).1
   . rw[Va hc];exact⟨n,l[n],by omega,rfl,q1,hc.symm,fun j f h1 h2=>by omega⟩
   . rw[Vh hc];obtain⟨k,e,hk,e2,e3,e4,e5⟩:=ih (by omega) (ro _ _ _ _ hc h);refine⟨k,e,by omega,e2,e3,e4,fun j f h1 h2 hf=>?_⟩;by_cases hj:j=n
     . subst hj;rw[q1] at hf;cases hf;exact fun h=>hc h.symm
     . exact e5 j f h1 (by omega) hf
theorem oD (h:cB (aj l) c=true):∃e,l[(cz (aj l) c).toNat]?=some e∧e.1=c∧e∈aE l:=by
 obtain⟨k,e,hk,h1,h2,h3,h4⟩:=xV (l:=l) (c:=c) l.length (Vb _) (by rw[Ww];exact h);rw[Ww] at h1;refine⟨e,by rw[h1,U2];exact h2,h3,(tQ l e).2 ⟨l.take k,l.drop (k+1),?_,fun y hy=>?_⟩⟩
 . have he:=(Io.1 h2).2;rw[<-he,<-WZ,W2]
 . obtain⟨j,hj⟩:=VU hy;rw[Wi] at hj;rw[h3];exact h4 (k+1+j) y (by omega) (Io.1 hj).1 hj
variable {e:En}
theorem Cj:∀n:Nat,n<=l.length->e∈l.take n->cB (aj (l.take n)) e.1=true:=by
 intro n
 induction n with
 |zero=>intro _ h;simp at h
 | succ n ih=>
   intro hn h;have q1:l[n]?=some l[n]:=io (by omega);have e:aj (l.take (n+1))=fT (aj (l.take n)) (l[n]).1 ((n:Nat):Int):=by unfold aj;rw[aS q1,eF,Vj,Vt,WR (by omega)]
   rw[e];rw[aS q1,Vl] at h;rcases h with h|h
   . exact uW _ _ _ _ (.inl (ih (by omega) h))
   . rw[Vo.1 h];exact uW _ _ _ _ (.inr rfl)
theorem gW (l:List En):bh (aj l)=ar (aE l):=iW bH (lc _) (dI l) fun c=>by
 rw[gO];constructor
 . intro h;obtain⟨e,_,h1,h2⟩:=oD (cZ.2 h);exact U7.2 ⟨e,h2,h1⟩
 . intro h;obtain⟨e,he,rfl⟩:=U7.1 h;have:=Cj (l:=l) (e:=e) l.length (Vb _) (by rw[Ww];exact og he);rw[Ww] at this;exact cZ.1 this
def gj (l:List En) (C:List C3) (i:Nat):List Nat:=
 match C[i]? with
 |none=>[]
 | some c=>match l[(cz (aj l) c).toNat]? with
   |none=>[]
   |some e=>if e.2.1=true then jG C (aw e.2.2.1) else []
theorem oE (l:List En) (C:List C3) (q:QS) (i:Nat):oB l C q i=(gj l C i).foldl (c8 i) q:=by
 unfold oB gj;cases C[i]? with
 |none=>rfl
 | some c=>
   simp only;cases l[(cz (aj l) c).toNat]? with
   |none=>rfl
   |some e=>simp only;split<;>rfl
theorem oF {i:Nat}:∀(ps:List Nat) (q:QS) (j:Nat) (es:List Int),q.1[j]?=some es->(ps.foldl (c8 i) q).1[j]?=some (if j=i then es++ps.map (fun x:Nat=>((x:Nat):Int)) else es)
 |[],q,j,es,h=>by rw[X5,Wq,ite_self];exact h
 | x ::ps,q,j,es,h=>by
   have hj:=(Io.1 h).1;rw[Wc];by_cases e:j=i
   . subst e;have h1:(c8 j q x).1[j]?=some (es++[(x:Int)]):=by show(q.1.set j ((q.1[j]?.getD [])++[(x:Int)]))[j]?=_;rw[WF hj,h];rfl
     rw[oF ps _ j _ h1,Va rfl,Va rfl,VC,WC];rfl
   . have h1:(c8 i q x).1[j]?=some es:=by show(q.1.set i _)[j]?=_;rw[WU (WL e)];exact h
     rw[oF ps _ j _ h1,Vh e,Vh e]
theorem oG {i:Nat}:∀(ps:List Nat) (q:QS) (x:Nat) (es:List Int),ps.Nodup->q.2[x]?=some es->(ps.foldl (c8 i) q).2[x]?=some (if x∈ps then es++[(i:Int)] else es)
 |[],q,x,es,_,h=>by rw[Vh (by simp)];exact h
 | y ::ps,q,x,es,hn,h=>by
   have hx:=(Io.1 h).1;obtain⟨hy,hn2⟩:=VL.1 hn;rw[Wc];by_cases e:x=y
   . subst e;have h1:(c8 i q x).2[x]?=some (es++[(i:Int)]):=by show(q.2.set x ((q.2[x]?.getD [])++[(i:Int)]))[x]?=_;rw[WF hx,h];rfl
     rw[oG ps _ x _ hn2 h1,Vh hy,Va (by simp)]
   . have h1:(c8 i q y).2[x]?=some es:=by show(q.2.set y _)[x]?=_;rw[WU (WL e)];exact h
     rw[oG ps _ x _ hn2 h1];by_cases hm:x∈ps
     . rw[Va hm,Va (Vr _ hm)]
     . rw[Vh hm,Vh (fun h=>by rcases Vf.1 h with h|h;exact e h;exact hm h)]
theorem uX (l:List En) (C:List C3):∀(n i:Nat),i<C.length->(eV l C n).1[i]?=some (if i<n then (gj l C i).map (fun x:Nat=>((x:Nat):Int)) else [])
 |0,i,hi=>by rw[Vh (by omega)];show(List.replicate C.length [])[i]?=_;rw[W6,Va hi]
 | n +1,i,hi=>by
   rw[gU,oE,oF _ _ _ _ (uX l C n i hi)];by_cases e:i=n
   . subst e;rw[Va rfl,Vh (by omega),Va (by omega),Wl]
   . rw[Vh e];by_cases h:i<n
     . rw[Va h,Va (by omega)]
     . rw[Vh h,Vh (by omega)]
theorem uY (l:List En) (C:List C3) (hnd:∀i,(gj l C i).Nodup):∀(n x:Nat),x<C.length->∃es,(eV l C n).2[x]?=some es∧es.Pairwise (· < ·)∧∀y,y∈es↔∃i:Nat,y=(i:Int)∧i<n∧x∈gj l C i
 |0,x,hx=>⟨[],by show(List.replicate C.length [])[x]?=_;rw[W6,Va hx],List.Pairwise.nil,fun y=>by simp⟩
 | n + 1,x,hx=>by
   obtain⟨es,h1,h2,h3⟩:=uY l C hnd n x hx;refine⟨_,by rw[gU,oE,oG _ _ _ _ (hnd n) h1],?_,fun y=>?_⟩
   . split
     . refine WT.2 ⟨h2,List.pairwise_singleton _ _,fun a ha b hb=>?_⟩;rw[Vo.1 hb];obtain⟨i,rfl,hi,_⟩:=(h3 a).1 ha;omega
     . exact h2
   . split
     . rename_i hm;rw[Vl,Vo,h3];constructor
       . rintro(⟨i,rfl,hi,h⟩|rfl)
         . exact⟨i,rfl,by omega,h⟩
         . exact⟨n,rfl,by omega,hm⟩
       . rintro⟨i,rfl,hi,h⟩;by_cases e:i=n
         . exact .inr (by rw[e])
         . exact .inl ⟨i,rfl,by omega,h⟩
     . rename_i hm;rw[h3];constructor
       . rintro⟨i,rfl,hi,h⟩;exact⟨i,rfl,by omega,h⟩
       . rintro⟨i,rfl,hi,h⟩;refine⟨i,rfl,?_,h⟩;by_cases e:i=n
         . exact absurd (e▸h) hm
         . omega
variable {C:List C3}
theorem iu:gN c C=true↔c∈C:=by have h:=cZ (L:=plI 0 C) (c:=c);rw[mR,mQ] at h;exact h
theorem IS (c:C3) (C:List C3):gZ C c=gN c C:=by rw[WG,eI,iu]
theorem FQ (hn:C.Nodup) {c:C3} (h:c∈C):∃i:Nat,C[i]?=some c∧cz (plI 0 C) c=(i:Int)∧i<C.length:=by obtain⟨i,hi⟩:=lO (iu.2 h);have:=pT (k:=0) hn hi;rw[Vt] at this;exact⟨i,hi,this,(Io.1 hi).1⟩
variable {i:Nat}
theorem gk (h:C[i]?=some c):mu C (i:Int)=c:=by unfold mu;rw[U2,h];rfl
theorem rq (hn:C.Nodup) {c:C3} (h:c∈C):mu C (((cz (plI 0 C) c).toNat:Nat):Int)=c:=by obtain⟨i,h1,h2,_⟩:=FQ hn h;rw[h2,U2];exact gk h1
theorem xW {r:List C3} (hn:C.Nodup) (hr:r.Nodup):(jG C r).Nodup:=by unfold jG;rw[List.Nodup,Xz];refine List.Pairwise.imp_of_mem (fun {a b} ha hb hab e=>?_) (Wt WN hr);have h1:=rq hn (iu.1 (VG.1 ha).2);have h2:=rq hn (iu.1 (VG.1 hb).2);rw[e,h2] at h1;exact hab h1.symm
theorem uZ (nd:Nd):(aw nd).Nodup:=(lD nd).imp fun {a b} h e=>by subst e;rw[bH.irr] at h;cases h
theorem xX (hn:C.Nodup) (r:List C3):((jG C r).map fun x:Nat=>((x:Nat):Int)).map (mu C)=r.filter fun c=>gN c C:=by
 unfold jG;rw[Wk,Wk]
 conv=>rhs;rw[<-List.map_id (r.filter fun c=>gN c C)]
 exact Wv fun c hc=>rq hn (iu.1 (VG.1 hc).2)
section
variable {l:List En}
theorem zJ (hi:(bh (aj l))[i]?=some c):∃e∈aE l,e.1=c∧gj l (bh (aj l)) i=if e.2.1=true then jG (bh (aj l)) (aw e.2.2.1) else []:=by have hc:c∈bh (aj l):=Vd hi;obtain⟨e,h1,h2,h3⟩:=oD (cZ.2 ((gO _ _).1 hc));refine⟨e,h3,h2,?_⟩;unfold gj;rw[hi];simp only;rw[h1]
theorem xY (i:Nat):(gj l (bh (aj l)) i).Nodup:=by
 cases h:(bh (aj l))[i]? with
 |none=>unfold gj;rw[h];exact VV
 | some c=>
   obtain⟨e,_,_,h3⟩:=zJ h;rw[h3];split
   . exact xW (dw _) (uZ _)
   . exact VV
theorem zK (i:Nat):∀x∈gj l (bh (aj l)) i,x<(bh (aj l)).length:=by
 cases h:(bh (aj l))[i]? with
 |none=>unfold gj;rw[h];exact fun x hx=>by cases hx
 | some c=>
   obtain⟨e,_,_,h3⟩:=zJ h;rw[h3];split
   . exact zG (dw _) _
   . exact fun x hx=>by cases hx
theorem oH (hi:(bh (aj l))[i]?=some c):∃e∈aE l,e.1=c∧((gj l (bh (aj l)) i).map fun x:Nat=>((x:Nat):Int)).map (mu (bh (aj l)))=bw (aE l) e:=by
 obtain⟨e,h1,h2,h3⟩:=zJ hi;refine⟨e,h1,h2,?_⟩;rw[h3];unfold bw;split
 . rw[xX (dw _),<-gW];congr 1;funext c;exact(IS c _).symm
 . rfl
variable {y:C3}
theorem u6 {x:Nat} (hi:(bh (aj l))[i]?=some c) (hx:(bh (aj l))[x]?=some y) (he:e∈aE l) (hec:e.1=c):x∈gj l (bh (aj l)) i↔y∈bw (aE l) e:=by
 obtain⟨e',h1,h2,h3⟩:=oH hi;obtain rfl:=pI (dI l) h1 he (h2.trans hec.symm);rw[<-h3];constructor
 . intro h;exact U7.2 ⟨(x:Int),U7.2 ⟨x,h,rfl⟩,gk hx⟩
 . intro h;obtain⟨z,hz,hzy⟩:=U7.1 h;obtain⟨x',hx',rfl⟩:=U7.1 hz;have hl:=zK i x' hx';have e1:(bh (aj l))[x']?=some y:=by have:=gk (io hl);rw[hzy] at this;rw[this];exact io hl
   have h4:=(Io.1 e1).2;have h5:=(Io.1 hx).2;have:x'=x:=(List.getElem_inj (dw _)).1 (h4.trans h5.symm);rw[<-this];exact hx'
theorem u7 {es:List Int} (h:es.Pairwise (· < ·)) (hin:∀y∈es,0<=y∧y.toNat<(bh (aj l)).length):fp ac (es.map (mu (bh (aj l)))):=by rw[fp,Xz];refine List.Pairwise.imp_of_mem (fun {a b} ha hb hab=>?_) h;obtain⟨a0,a1⟩:=hin a ha;obtain⟨b0,b1⟩:=hin b hb;obtain⟨i,rfl⟩:=V5 a0;obtain⟨j,rfl⟩:=V5 b0;rw[U2] at a1 b1;rw[gk (io a1),gk (io b1)];exact(XG.1 (lc (aj l))) i j a1 b1 (by omega)
theorem jg {x:Nat} (hx:(bh (aj l))[x]?=some y):∃es,(it l).2.2[x]?=some es∧es.Pairwise (· < ·)∧(∀z∈es,0<=z∧z.toNat<(bh (aj l)).length)∧es.map (mu (bh (aj l)))=readersD (aE l) y:=by
 have hxl:=(Io.1 hx).1;obtain⟨es,h1,h2,h3⟩:=uY l (bh (aj l)) xY (bh (aj l)).length x hxl;have hin:∀z∈es,0<=z∧z.toNat<(bh (aj l)).length:=fun z hz=>by obtain⟨i,rfl,hi,_⟩:=(h3 z).1 hz;rw[U2];exact⟨WS i,hi⟩
 refine⟨es,h1,h2,hin,iW bH (u7 h2 hin) (iZ (dI l) y) fun c=>?_⟩;rw[iX,U7];constructor
 . rintro⟨z,hz,rfl⟩;obtain⟨i,rfl,hi,hm⟩:=(h3 z).1 hz;have hci:=io hi;obtain⟨e,he,hec,_⟩:=zJ hci;exact⟨e,he,by rw[gk hci];exact hec,(u6 hci hx he hec).1 hm⟩
 . rintro⟨e,he,rfl,hm⟩;have hmem:e.1∈bh (aj l):=by rw[gW];exact U7.2 ⟨e,he,rfl⟩
   obtain⟨i,hi⟩:=VU hmem;exact⟨(i:Int),(h3 _).2 ⟨i,rfl,(Io.1 hi).1,(u6 hi hx he rfl).2 hm⟩,gk hi⟩
theorem qd {x:Nat} (hx:(bh (aj l))[x]?=some y):∃es,(it l).2.1[x]?=some es∧(∀z∈es,0<=z∧z.toNat<(bh (aj l)).length)∧es.map (mu (bh (aj l)))=eD (aE l) y:=by
 have hxl:=(Io.1 hx).1;have h1:=uX l (bh (aj l)) (bh (aj l)).length x hxl;rw[Va hxl] at h1;refine⟨_,h1,fun z hz=>?_,?_⟩
 . obtain⟨i,hi,rfl⟩:=U7.1 hz;rw[U2];exact⟨WS i,zK x i hi⟩
 . obtain⟨e,he,rfl,h3⟩:=oH hx;rw[h3,pJ (dI l) he]
end
section
variable {l:List En}
variable {y:C3}
theorem jD {x:Nat} (hx:(bh (aj l))[x]?=some y):(∀z∈rowS (it l).2.2 (x:Int),(0<=z∧z.toNat<(bh (aj l)).length)∧mu (bh (aj l)) z∈readersD (aE l) y)∧∀c∈readersD (aE l) y,∃z∈rowS (it l).2.2 (x:Int),mu (bh (aj l)) z=c:=by
 obtain⟨es,h1,_,h3,h4⟩:=jg hx;have e:rowS (it l).2.2 (x:Int)=es:=by unfold rowS;rw[U2,h1];rfl
 rw[e];refine⟨fun z hz=>⟨h3 z hz,by rw[<-h4];exact U7.2 ⟨z,hz,rfl⟩⟩,fun c hc=>?_⟩;rw[<-h4] at hc;obtain⟨z,hz,h⟩:=U7.1 hc;exact⟨z,hz,h⟩
theorem zL {z:Int} (h:0<=z∧z.toNat<(bh (aj l)).length):∃i:Nat,z=(i:Int)∧(bh (aj l))[i]?=some (mu (bh (aj l)) z):=by obtain⟨h0,h1⟩:=h;obtain⟨i,rfl⟩:=V5 h0;rw[U2] at h1;refine⟨i,rfl,?_⟩;rw[gk (io h1)];exact io h1
theorem xZ {x:Nat} (hx:(bh (aj l))[x]?=some y) {z:Int} (h:ReachI (it l).2.2 (x:Int) z):(0<=z∧z.toNat<(bh (aj l)).length)∧Hang (aE l) y (mu (bh (aj l)) z):=by
 induction h with
 |one h=>obtain⟨h1,h2⟩:=(jD hx).1 _ h;exact⟨h1,.one h2⟩
 |step _ k ih=>obtain⟨h1,h2⟩:=ih;obtain⟨i,rfl,hi⟩:=zL h1;obtain⟨h3,h4⟩:=(jD hi).1 _ k;exact⟨h3,.next h2 h4⟩
theorem x7 (S:List (List Int)) (n:Nat) (p:Int):(fU S n p).Pairwise (· < ·):=by unfold fU;rw[Xz];exact(Wt WN Xr).imp fun h=>by omega
theorem Ck {x:Nat} (hx:(bh (aj l))[x]?=some y):(fU (it l).2.2 (bh (aj l)).length (x:Int)).map (mu (bh (aj l)))=dq (aE l) y:=by
 have hin:∀z∈fU (it l).2.2 (bh (aj l)).length (x:Int),0<=z∧z.toNat<(bh (aj l)).length:=fun z hz=>(eG.1 hz).1
 refine tR (dI l) (u7 (x7 _ _ _) hin) (fun c hc=>?_) (fun c hc d hd=>?_) (fun c hc=>?_)
 . obtain⟨z,hz,rfl⟩:=(jD hx).2 c hc;exact U7.2 ⟨z,eG.2 ⟨((jD hx).1 z hz).1,.one hz⟩,rfl⟩
 . obtain⟨z,hz,rfl⟩:=U7.1 hc;obtain⟨h1,h2⟩:=eG.1 hz;obtain⟨i,rfl,hi⟩:=zL h1;obtain⟨r,hr,rfl⟩:=(jD hi).2 d hd;exact U7.2 ⟨r,eG.2 ⟨((jD hi).1 r hr).1,.step h2 hr⟩,rfl⟩
 . obtain⟨z,hz,rfl⟩:=U7.1 hc;exact(xZ hx (eG.1 hz).2).2
end
theorem u9 {i:Nat}:∀(ps:List Nat) (q:QS),(ps.foldl (c8 i) q).1.length=q.1.length∧(ps.foldl (c8 i) q).2.length=q.2.length
 |[],q=>⟨rfl,rfl⟩
 |x::ps,q=>by obtain⟨h1,h2⟩:=u9 (i:=i) ps (c8 i q x);rw[Wc,h1,h2];exact⟨WH ..,WH ..⟩
theorem qe (l:List En) (C:List C3):∀n,(eV l C n).1.length=C.length∧(eV l C n).2.length=C.length
 |0=>⟨List.length_replicate,List.length_replicate⟩
 |n+1=>by rw[gU,oE];obtain⟨h1,h2⟩:=u9 (i:=n) (gj l C n) (eV l C n);obtain⟨h3,h4⟩:=qe l C n;exact⟨h1.trans h3,h2.trans h4⟩
theorem rt (hl:l.length<=400) (hc:∀e∈l,jF e.2.2.1<=400):xJ (it l):=by
 obtain⟨h1,h2⟩:=qe l (bh (aj l)) (bh (aj l)).length;obtain⟨b1,b2⟩:=oC (C:=bh (aj l)) hc (bh (aj l)).length;have h400:=uR hl;refine⟨dw _,h400,h1,h2,fun r hr=>?_,fun r hr=>?_⟩
 . refine⟨by have:=b1 r hr;omega,?_⟩;obtain⟨i,hi⟩:=VU hr;have hil:i<(bh (aj l)).length:=by have:=(Io.1 hi).1;exact h1▸this
   obtain⟨es,h3,h4,_⟩:=qd (l:=l) (io hil);rw[h3] at hi;cases hi;exact h4
 . refine⟨by have:=b2 r hr;omega,?_⟩;obtain⟨i,hi⟩:=VU hr;have hil:i<(bh (aj l)).length:=by have:=(Io.1 hi).1;exact h2▸this
   obtain⟨es,h3,_,h4,_⟩:=jg (l:=l) (io hil);rw[h3] at hi;cases hi;exact h4
def jh (l:List En) (c:C3) (r:List C3):V:=if gN c (ar (aE l))=true then .sl false 3 (r.map aa) none else .sl true 0 [] none
theorem Lw (h:gN c (bh (aj l))=true):∃x:Nat,(bh (aj l))[x]?=some c∧cz (plI 0 (bh (aj l))) c=(x:Int):=by obtain⟨x,h1,h2,_⟩:=FQ (dw (aj l)) (iu.1 h);exact⟨x,h1,h2⟩
theorem Cl (l:List En) (c:C3):uA (it l).1 (it l).2.1 c=jh l c (eD (aE l) c):=by
 unfold uA jh;rw[show(it l).1=bh (aj l) from rfl,<-gW];by_cases h:gN c (bh (aj l))=true
 . rw[Va h,Va h];obtain⟨x,h1,h2⟩:=Lw h;obtain⟨es,h3,_,h4⟩:=qd h1;rw[h2,U2,h3,V8,h4]
 . rw[Vh h,Vh h]
theorem va (l:List En) (c:C3):uA (it l).1 (it l).2.2 c=jh l c (readersD (aE l) c):=by
 unfold uA jh;rw[show(it l).1=bh (aj l) from rfl,<-gW];by_cases h:gN c (bh (aj l))=true
 . rw[Va h,Va h];obtain⟨x,h1,h2⟩:=Lw h;obtain⟨es,h3,_,_,h4⟩:=jg h1;rw[h2,U2,h3,V8,h4]
 . rw[Vh h,Vh h]
theorem Cm (hl:l.length<=400) (hc:∀e∈l,jF e.2.2.1<=400) (c:C3):rp (it l,c)=some (jh l c (dq (aE l) c)):=by
 unfold rp jh;rw[Va (rt hl hc)];congr 1;rw[show(it l,c).1.1=bh (aj l) from rfl,<-gW];by_cases h:gN c (bh (aj l))=true
 . rw[Va h,Va h];obtain⟨x,h1,h2⟩:=Lw h;rw[h2];have:=Ck h1;show V.sl false 3 (((fU (it l).2.2 (bh (aj l)).length (x:Int)).map (mu (bh (aj l)))).map aa) none=_;rw[this]
 . rw[Vh h,Vh h]
theorem x8 (l:List En) (c:C3):(eD (aE l) c).length<=(aE l).length:=by
 by_cases hc:c∈ar (aE l)
 . obtain⟨e,he,rfl⟩:=U7.1 hc;rw[pJ (dI l) he];have:=(kW (xb _ e) (dI l) (fun x hx=>pH hx)).length_le
   rwa [show(ar (aE l)).length=(aE l).length from eq _] at this
 . rw[pK hc];exact VJ _
theorem vb (l:List En) (c:C3):(readersD (aE l) c).length<=(aE l).length:=by unfold readersD;rw[eq];exact V6 _ _
theorem Cn (l:List En) (c:C3):(dq (aE l) c).length<=(aE l).length:=by unfold dq;exact VA (V6 _ _) (Nat.le_of_eq (eq _))
def jS (e:En):Prop:=((jr 101 e.2.2.1:Nat):Int)<=400∧(e.2.2.2.2.2.size:Int)<=400∧(e.1.1.size:Int)<=50
def QK (p:ES):Prop:=(p.2.2≠[]->p.2.1=20)∧p.2.2.length<=281474976710656
open Classical in
noncomputable def Lx (p:ES):Option V:=if QK p then some (.x (.bool (decide ((∀e∈p.2.2,jS e)∧(p.2.2.length:Int)<=24)))) else none
theorem FR (e:En):∃N:List V,bK e= .agg (.x (.string e.1.1):: .x (.int .i64 e.1.2.1):: .x (.int .i64 e.1.2.2):: .x (.bool e.2.1)::(N++[.x (.int .i64 e.2.2.2.1),.x (.int .i64 e.2.2.2.2.1),.x (.string e.2.2.2.2.2)]))∧N.length=13∧am e.2.2.1= .agg N∧∀T,(N++T).take 13=N∧(N++T).drop 13=T:=
 ⟨ik e.2.2.1.hd (mf e.2.2.1),rfl,rfl,bf _,fun _=>⟨rfl,rfl⟩⟩
open Classical in
theorem Co:bM 8 (FE cf Lx):=by
 refine av (E:=au [(24,KI)]) (k:=1) (aM _ ⟨HS,trivial⟩) (by kernel_rfl) Tryz.func8 rfl (fun a w=>Tryz.call8 a w) Tryz.ntmps8 (by kernel_rfl) (by decide) (by decide) ?_;intro us r hF hdat;obtain⟨⟨nl,sz,l⟩,hus,hG⟩:=aZ hF;clear hF;subst hus;unfold Lx at hG;split at hG
 case isFalse=>cases hG
 rename_i hok;cases hG;obtain⟨hsz,hlen⟩:=hok;simp only at hsz hlen;clear hdat;refine⟨rfl,?_⟩;simp only[cf];simp +decide (maxDischargeDepth:=200) only[go_sem,Nat.reduceBEq,eq];refine aI (X:={i:Nat//i<=l.length∧∀e∈l.take i,jS e}) (fun i=>[(0,.sl nl sz (l.map bK) none),(3,.x (.int .i64 ((i.1:Nat):Int)))]) (fun _=>[]) (fun i=>l.length-i.1) ⟨0,VJ _,fun e he=>by simp at he⟩ (by simp +decide only[go_sem,VO]<;>(repeat' first|rfl|constructor)) (by simp +decide only[go_sem]<;>(repeat' first|rfl|constructor)) (fun⟨i,hi0,hfi⟩=>?_);simp only at hi0 hfi⊢;by_cases hi:i<l.length
 . have c1:decide ((i:Int)<(l.length:Int))=true:=iO (by omega);have c1':(i:Int)<(l.length:Int):=by omega
   have c2:(0:Int)<=(i:Int):=by omega
   have c4:=aF (i:=i) (by omega);have q1:l[i]?=some l[i]:=io hi;have q2:(l.map bK)[((i:Nat):Int).toNat]?=some (bK l[i]):=by rw[U2,U5,q1];rfl
   obtain rfl:=hsz (fun h=>by rw[h] at hi;simp at hi);have hmem:=V4 hi;have hstep:jS l[i]->∀e∈l.take (i+1),jS e:=fun h e he=>by
    rw[aS q1,Vl] at he;rcases he with he|he
    . exact hfi e he
    . rw[Vo.1 he];exact h
   have hno: ¬jS l[i]->decide ((∀e∈l,jS e)∧(l.length:Int)<=24)=false:=fun h=>tl (fun h2=>h (h2.1 _ hmem))
   generalize l[i]=e at q2 hmem hstep hno;obtain⟨N,hN,lN,hnd,hNT⟩:=FR e;rw[hN] at q2;have hfw:=HR e.2.2.1;rw[hnd] at hfw;have t1:=fun T=>(hNT T).1
   have t2:=fun T=>(hNT T).2
   by_cases h1:((jr 101 e.2.2.1:Nat):Int)<=400
   case neg=>rw[tl h1] at hfw;have hn:=hno (fun h=>h1 h.1);rw[hn];simp +decide (maxDischargeDepth:=200) only[go_sem,Nat.reduceBEq,eq,U3,U4,lN,t1,t2,c1,c1',c2,q2,hfw]
   rw[iO h1] at hfw;by_cases h2:(e.2.2.2.2.2.size:Int)<=400
   case neg=>have d2:decide ((400:Int)<(e.2.2.2.2.2.size:Int))=true:=iO (by omega);have hn:=hno (fun h=>h2 h.2.1);rw[hn];simp +decide (maxDischargeDepth:=200) only[go_sem,Nat.reduceBEq,eq,U3,U4,lN,t1,t2,c1,c1',c2,q2,hfw,d2]
   have d2:decide ((400:Int)<(e.2.2.2.2.2.size:Int))=false:=tl (by omega);by_cases h3:(e.1.1.size:Int)<=50
   case neg=>have d3:decide ((50:Int)<(e.1.1.size:Int))=true:=iO (by omega);have hn:=hno (fun h=>h3 h.2.2);rw[hn];simp +decide (maxDischargeDepth:=200) only[go_sem,Nat.reduceBEq,eq,U3,U4,lN,t1,t2,c1,c1',c2,q2,hfw,d2,d3]
   have d3:decide ((50:Int)<(e.1.1.size:Int))=false:=tl (by omega);simp +decide (maxDischargeDepth:=200) only[go_sem,Nat.reduceBEq,eq,U3,U4,lN,t1,t2,c1,c1',c2,c4,q2,hfw,d2,d3];refine⟨⟨i+1,hi,hstep ⟨h1,h2,h3⟩⟩,?_,?_,?_⟩
   . simp +decide (maxDischargeDepth:=200) only[go_sem,Nat.reduceBEq]
   . simp +decide (maxDischargeDepth:=200) only[go_sem,Nat.reduceBEq]
   . simp only;omega
 . have c1:decide ((i:Int)<(l.length:Int))=false:=tl (by omega);have hall:∀e∈l,jS e:=by rw[Vp (by omega)] at hfi;exact hfi
   have e1:decide ((∀e∈l,jS e)∧(l.length:Int)<=24)=decide ((l.length:Int)<=24):=by rw[WG,Vz,Vz];exact⟨fun h=>h.2,fun h=>⟨hall,h⟩⟩
   simp +decide (maxDischargeDepth:=200) only[go_sem,Nat.reduceBEq,eq,c1,e1]
def QP:En:=((⟨#[115]⟩,1,1),false,.leaf ⟨0,⟨#[]⟩,⟨#[]⟩,0,0,⟨#[]⟩,⟨#[]⟩,0,0,⟨#[]⟩,0,0⟩,(0,0,⟨#[]⟩))
def gX:List V->Option V
 |[]=>some (.x (.bool true))
 |_=>none
theorem x9 {nl:Bool} {sz:Nat} (h:IN (nl,sz,l)):FE cf FN [.sl nl sz (l.map bK) none]=some (jR (it l)):=(bC gK FN (nl,sz,l)).trans (Va h)
theorem oI (h:xJ (it l)):FE iC Fz [jR (it l)]=some (.sl false 3 ((it l).1.map aa) none):=(bC B6 Fz (it l)).trans (Va h)
theorem Ub:IN (true,0,([]:List En)):=⟨⟨fun h=>absurd rfl h,VJ _,fun e he=>by cases he⟩,fun e he=>by cases he⟩
theorem Uc:IN (false,20,[QP]):=⟨⟨fun _=>rfl,by decide,fun e he=>by rw[Vo.1 he];decide⟩,fun e he=>by rw[Vo.1 he];decide⟩
theorem vc:bM 7 gX:=by
 refine av (E:=au [(9,FE cf FN),(12,FE iC Fz)]) (k:=0) (aM _ ⟨uS,ow,trivial⟩) (by kernel_rfl) Tryz.func7 rfl (fun a w=>Tryz.call7 a w) Tryz.ntmps7 (by kernel_rfl) (by decide) (by decide) ?_;intro us r hF hdat;unfold gX at hF;split at hF
 case h_2=>cases hF
 cases hF;refine⟨rfl,?_⟩;have n1:FE cf FN [.sl false 20 [.agg [.x (.string ⟨#[115]⟩),.x (.int .i64 1),.x (.int .i64 1),.x (.bool false),.x (.int .i64 0),.x (.string ⟨#[]⟩),.x (.string ⟨#[]⟩),.x (.int .i64 0),.x (.int .i64 0),.x (.string ⟨#[]⟩),.x (.string ⟨#[]⟩),.x (.int .i64 0),.x (.int .i64 0),.x (.string ⟨#[]⟩),.x (.int .i64 0),.x (.int .i64 0),.sl true 0 [] none,.x (.int .i64 0),.x (.int .i64 0),.x (.string ⟨#[]⟩)]] none]=some (jR (it [QP])):=x9 Uc;have n0:FE cf FN [.sl true 0 [] none]=some (jR (it [])):=x9 Ub;have c0:FE iC Fz [jR (it [])]=some (.sl false 3 [] none):=oI (rt Ub.1.2.1 Ub.1.2.2);have c1:FE iC Fz [jR (it [QP])]=some (.sl false 3 [.agg [.x (.string ⟨#[115]⟩),.x (.int .i64 1),.x (.int .i64 1)]] none):=oI (rt Uc.1.2.1 Uc.1.2.2);obtain⟨a,ha⟩:∃a,jR (it [QP])= .ip a:=⟨_,rfl⟩;obtain⟨b,hb⟩:∃b,jR (it [])= .ip b:=⟨_,rfl⟩;rw[ha] at n1 c1;rw[hb] at n0 c0;clear ha hb;simp +decide (maxDischargeDepth:=200) only[go_sem,Nat.reduceBEq,n1,n0,c0,c1]
end Go.Proofs.YtalkmhjanlljhaaGreat
