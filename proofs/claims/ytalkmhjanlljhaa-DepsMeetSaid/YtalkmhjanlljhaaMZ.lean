/- Chapter 12: what New tells, against what the document says, plainly. -/
import Derived.Test.YtalkmhjanlljhaaMN
import Derived.Test.YtalkmhjanlljhaaMK
import Derived.Test.YtalkmhjanlljhaaMT
import Derived.Test.YtalkmhjanlljhaaMR
namespace Go.Proofs.Ytalkmhjanlljhaa
set_option linter.unusedSimpArgs false
set_option maxHeartbeats 64000000
set_option maxRecDepth 100000
open Go Go.RowKit
attribute [go_sem] Try.results3 Try.results5 Try.results6
theorem sR (L:List CI) (d c:C3) (v:Int):bV L c=true∨c=d->bV (eR L d v) c=true:=by
 intro h;unfold eR;split
 . rename_i hd;have hc:bV L c=true:=by
    rcases h with h|rfl
    . exact h
    . exact hd
   rw[cD] at hc⊢;obtain⟨p,hp,rfl⟩:=SU.1 hc;refine SU.2 ⟨_,SU.2 ⟨p,hp,rfl⟩,?_⟩;split<;>rfl
 . rw[cD,TH,Ta];rcases h with h|rfl
   . exact .inl (cD.1 h)
   . exact .inr (by simp)
variable {l:List En} {c:C3}
theorem vE:∀n:Nat,n<=l.length->bV (aj (l.take n)) c=true->∃k e,k<n∧bS (aj (l.take n)) c=((k:Nat):Int)∧l[k]?=some e∧e.1=c∧∀j f,k<j->j<n->l[j]?=some f->f.1≠c:=by
 intro n
 induction n with
 |zero=>intro _ h;simp[aj,iI,bV,fV] at h
 | succ n ih=>
   intro hn h;have q1:l[n]?=some l[n]:=eq (by omega);have e:aj (l.take (n+1))=eR (aj (l.take n)) (l[n]).1 ((n:Nat):Int):=by unfold aj;rw[bA q1,dP,Tt,Th,UD (by omega)]
   rw[e] at h⊢;rw[sI _ _ _ _ h];by_cases hc:c=(l[n]).1
   . rw[S4 hc];exact⟨n,l[n],by omega,rfl,q1,hc.symm,fun j f h1 h2=>by omega⟩
   . rw[S8 hc];obtain⟨k,e,hk,e2,e3,e4,e5⟩:=ih (by omega) (pk _ _ _ _ hc h);refine⟨k,e,by omega,e2,e3,e4,fun j f h1 h2 hf=>?_⟩;by_cases hj:j=n
     . subst hj;rw[q1] at hf;cases hf;exact fun h=>hc h.symm
     . exact e5 j f h1 (by omega) hf
theorem mH (h:bV (aj l) c=true):∃e,l[(bS (aj l) c).toNat]?=some e∧e.1=c∧e∈aK l:=by
 obtain⟨k,e,hk,h1,h2,h3,h4⟩:=vE (l:=l) (c:=c) l.length (SX _) (by rw[Ui];exact h);rw[Ui] at h1;refine⟨e,by rw[h1,tl];exact h2,h3,(rD l e).2 ⟨l.take k,l.drop (k+1),?_,fun y hy=>?_⟩⟩
 . have he:=(iO.1 h2).2;rw[<-he,<-Vr,UX]
 . obtain⟨j,hj⟩:=TN hy;rw[T0] at hj;rw[h3];exact h4 (k+1+j) y (by omega) (iO.1 hj).1 hj
variable {e:En}
theorem zY:∀n:Nat,n<=l.length->e∈l.take n->bV (aj (l.take n)) e.1=true:=by
 intro n
 induction n with
 |zero=>intro _ h;simp at h
 | succ n ih=>
   intro hn h;have q1:l[n]?=some l[n]:=eq (by omega);have e:aj (l.take (n+1))=eR (aj (l.take n)) (l[n]).1 ((n:Nat):Int):=by unfold aj;rw[bA q1,dP,Tt,Th,UD (by omega)]
   rw[e];rw[bA q1,Ta] at h;rcases h with h|h
   . exact sR _ _ _ _ (.inl (ih (by omega) h))
   . rw[Tf.1 h];exact sR _ _ _ _ (.inr rfl)
theorem fU (l:List En):aT (aj l)=aP (aK l):=gO bq (jI _) (dE l) fun c=>by
 rw[fP];constructor
 . intro h;obtain⟨e,_,h1,h2⟩:=mH (cD.2 h);exact SU.2 ⟨e,h2,h1⟩
 . intro h;obtain⟨e,he,rfl⟩:=SU.1 h;have:=zY (l:=l) (e:=e) l.length (SX _) (by rw[Ui];exact CD he);rw[Ui] at this;exact cD.1 this
def fo (l:List En) (C:List C3) (i:Nat):List Nat:=
 match C[i]? with
 |none=>[]
 | some c=>match l[(bS (aj l) c).toNat]? with
   |none=>[]
   |some e=>if e.2.1=true then iB C (aJ e.2.2.1) else []
theorem mI (l:List En) (C:List C3) (q:QS) (i:Nat):mF l C q i=(fo l C i).foldl (cE i) q:=by
 unfold mF fo;cases C[i]? with
 |none=>rfl
 | some c=>
   simp only;cases l[(bS (aj l) c).toNat]? with
   |none=>rfl
   |some e=>simp only;split<;>rfl
theorem mJ {i:Nat}:∀(ps:List Nat) (q:QS) (j:Nat) (es:List Int),q.1[j]?=some es->(ps.foldl (cE i) q).1[j]?=some (if j=i then es++ps.map (fun x:Nat=>((x:Nat):Int)) else es)
 |[],q,j,es,h=>by rw[List.map_nil,Up,ite_self];exact h
 | x ::ps,q,j,es,h=>by
   have hj:=(iO.1 h).1;rw[Uh];by_cases e:j=i
   . subst e;have h1:(cE j q x).1[j]?=some (es++[(x:Int)]):=by show(q.1.set j ((q.1[j]?.getD [])++[(x:Int)]))[j]?=_;rw[U9 hj,h];rfl
     rw[mJ ps _ j _ h1,S4 rfl,S4 rfl,Tv,UH];rfl
   . have h1:(cE i q x).1[j]?=some es:=by show(q.1.set i _)[j]?=_;rw[Vn (Ux e)];exact h
     rw[mJ ps _ j _ h1,S8 e,S8 e]
theorem mK {i:Nat}:∀(ps:List Nat) (q:QS) (x:Nat) (es:List Int),ps.Nodup->q.2[x]?=some es->(ps.foldl (cE i) q).2[x]?=some (if x∈ps then es++[(i:Int)] else es)
 |[],q,x,es,_,h=>by rw[S8 (by simp)];exact h
 | y ::ps,q,x,es,hn,h=>by
   have hx:=(iO.1 h).1;obtain⟨hy,hn2⟩:=Ty.1 hn;rw[Uh];by_cases e:x=y
   . subst e;have h1:(cE i q x).2[x]?=some (es++[(i:Int)]):=by show(q.2.set x ((q.2[x]?.getD [])++[(i:Int)]))[x]?=_;rw[U9 hx,h];rfl
     rw[mK ps _ x _ hn2 h1,S8 hy,S4 (by simp)]
   . have h1:(cE i q y).2[x]?=some es:=by show(q.2.set y _)[x]?=_;rw[Vn (Ux e)];exact h
     rw[mK ps _ x _ hn2 h1];by_cases hm:x∈ps
     . rw[S4 hm,S4 (Tg _ hm)]
     . rw[S8 hm,S8 (fun h=>by rcases S5.1 h with h|h;exact e h;exact hm h)]
theorem sS (l:List En) (C:List C3):∀(n i:Nat),i<C.length->(d8 l C n).1[i]?=some (if i<n then (fo l C i).map (fun x:Nat=>((x:Nat):Int)) else [])
 |0,i,hi=>by rw[S8 (by omega)];show(List.replicate C.length [])[i]?=_;rw[UN,S4 hi]
 | n +1,i,hi=>by
   rw[fS,mI,mJ _ _ _ _ (sS l C n i hi)];by_cases e:i=n
   . subst e;rw[S4 rfl,S8 (by omega),S4 (by omega),T1]
   . rw[S8 e];by_cases h:i<n
     . rw[S4 h,S4 (by omega)]
     . rw[S8 h,S8 (by omega)]
theorem sT (l:List En) (C:List C3) (hnd:∀i,(fo l C i).Nodup):∀(n x:Nat),x<C.length->∃es,(d8 l C n).2[x]?=some es∧es.Pairwise (· < ·)∧∀y,y∈es↔∃i:Nat,y=(i:Int)∧i<n∧x∈fo l C i
 |0,x,hx=>⟨[],by show(List.replicate C.length [])[x]?=_;rw[UN,S4 hx],List.Pairwise.nil,fun y=>by simp⟩
 | n + 1,x,hx=>by
   obtain⟨es,h1,h2,h3⟩:=sT l C hnd n x hx;refine⟨_,by rw[fS,mI,mK _ _ _ _ (hnd n) h1],?_,fun y=>?_⟩
   . split
     . refine UF.2 ⟨h2,List.pairwise_singleton _ _,fun a ha b hb=>?_⟩;rw[Tf.1 hb];obtain⟨i,rfl,hi,_⟩:=(h3 a).1 ha;omega
     . exact h2
   . split
     . rename_i hm;rw[Ta,Tf,h3];constructor
       . rintro(⟨i,rfl,hi,h⟩|rfl)
         . exact⟨i,rfl,by omega,h⟩
         . exact⟨n,rfl,by omega,hm⟩
       . rintro⟨i,rfl,hi,h⟩;by_cases e:i=n
         . exact .inr (by rw[e])
         . exact .inl ⟨i,rfl,by omega,h⟩
     . rename_i hm;rw[h3];constructor
       . rintro⟨i,rfl,hi,h⟩;exact⟨i,rfl,by omega,h⟩
       . rintro⟨i,rfl,hi,h⟩;refine⟨i,rfl,?_,h⟩;by_cases e:i=n
         . exact absurd (e▸h) hm
         . omega
variable {C:List C3}
theorem gq:fV c C=true↔c∈C:=by have h:=cD (L:=plI 0 C) (c:=c);rw[kT,kS] at h;exact h
theorem Gm (c:C3) (C:List C3):uM C c=fV c C:=by rw[Um,cd,gq]
theorem Dy (hn:C.Nodup) {c:C3} (h:c∈C):∃i:Nat,C[i]?=some c∧bS (plI 0 C) c=(i:Int)∧i<C.length:=by obtain⟨i,hi⟩:=j7 (gq.2 h);have:=nV (k:=0) hn hi;rw[Th] at this;exact⟨i,hi,this,(iO.1 hi).1⟩
variable {i:Nat}
theorem fp (h:C[i]?=some c):kG C (i:Int)=c:=by unfold kG;rw[tl,h];rfl
theorem pl (hn:C.Nodup) {c:C3} (h:c∈C):kG C (((bS (plI 0 C) c).toNat:Nat):Int)=c:=by obtain⟨i,h1,h2,_⟩:=Dy hn h;rw[h2,tl];exact fp h1
variable {r:List C3}
theorem vF (hn:C.Nodup) (hr:r.Nodup):(iB C r).Nodup:=by unfold iB;rw[List.Nodup,Vk];refine List.Pairwise.imp_of_mem (fun {a b} ha hb hab e=>?_) (Ud Uz hr);have h1:=pl hn (gq.1 (Ts.1 ha).2);have h2:=pl hn (gq.1 (Ts.1 hb).2);rw[e,h2] at h1;exact hab h1.symm
theorem sU (nd:Nd):(aJ nd).Nodup:=(jZ nd).imp fun {a b} h e=>by subst e;rw[bq.irr] at h;cases h
theorem vG (hn:C.Nodup) (r:List C3):((iB C r).map fun x:Nat=>((x:Nat):Int)).map (kG C)=r.filter fun c=>fV c C:=by
 unfold iB;rw[Uq,Uq]
 conv=>rhs;rw[<-List.map_id (r.filter fun c=>fV c C)]
 exact Ug fun c hc=>pl hn (gq.1 (Ts.1 hc).2)
section
variable {l:List En}
theorem xu (hi:(aT (aj l))[i]?=some c):∃e∈aK l,e.1=c∧fo l (aT (aj l)) i=if e.2.1=true then iB (aT (aj l)) (aJ e.2.2.1) else []:=by have hc:c∈aT (aj l):=S9 hi;obtain⟨e,h1,h2,h3⟩:=mH (cD.2 ((fP _ _).1 hc));refine⟨e,h3,h2,?_⟩;unfold fo;rw[hi];simp only;rw[h1]
theorem vH (i:Nat):(fo l (aT (aj l)) i).Nodup:=by
 cases h:(aT (aj l))[i]? with
 |none=>unfold fo;rw[h];exact TE
 | some c=>
   obtain⟨e,_,_,h3⟩:=xu h;rw[h3];split
   . exact vF (cS _) (sU _)
   . exact TE
theorem xv (i:Nat):∀x∈fo l (aT (aj l)) i,x<(aT (aj l)).length:=by
 cases h:(aT (aj l))[i]? with
 |none=>unfold fo;rw[h];exact fun x hx=>by cases hx
 | some c=>
   obtain⟨e,_,_,h3⟩:=xu h;rw[h3];split
   . exact xp (cS _) _
   . exact fun x hx=>by cases hx
theorem mL (hi:(aT (aj l))[i]?=some c):∃e∈aK l,e.1=c∧((fo l (aT (aj l)) i).map fun x:Nat=>((x:Nat):Int)).map (kG (aT (aj l)))=eQ (aK l) e:=by
 obtain⟨e,h1,h2,h3⟩:=xu hi;refine⟨e,h1,h2,?_⟩;rw[h3];unfold eQ;split
 . rw[vG (cS _),<-fU];congr 1;funext c;exact(Gm c _).symm
 . rfl
variable {y:C3}
theorem sV {x:Nat} (hi:(aT (aj l))[i]?=some c) (hx:(aT (aj l))[x]?=some y) (he:e∈aK l) (hec:e.1=c):x∈fo l (aT (aj l)) i↔y∈eQ (aK l) e:=by
 obtain⟨e',h1,h2,h3⟩:=mL hi;obtain rfl:=nR (dE l) h1 he (h2.trans hec.symm);rw[<-h3];constructor
 . intro h;exact SU.2 ⟨(x:Int),SU.2 ⟨x,h,rfl⟩,fp hx⟩
 . intro h;obtain⟨z,hz,hzy⟩:=SU.1 h;obtain⟨x',hx',rfl⟩:=SU.1 hz;have hl:=xv i x' hx';have e1:(aT (aj l))[x']?=some y:=by have:=fp (eq hl);rw[hzy] at this;rw[this];exact eq hl
   have h4:=(iO.1 e1).2;have h5:=(iO.1 hx).2;have:x'=x:=(List.getElem_inj (cS _)).1 (h4.trans h5.symm);rw[<-this];exact hx'
theorem sW {es:List Int} (h:es.Pairwise (· < ·)) (hin:∀y∈es,0<=y∧y.toNat<(aT (aj l)).length):eW ac (es.map (kG (aT (aj l)))):=by rw[eW,Vk];refine List.Pairwise.imp_of_mem (fun {a b} ha hb hab=>?_) h;obtain⟨a0,a1⟩:=hin a ha;obtain⟨b0,b1⟩:=hin b hb;obtain⟨i,rfl⟩:=TP a0;obtain⟨j,rfl⟩:=TP b0;rw[tl] at a1 b1;rw[fp (eq a1),fp (eq b1)];exact(Vu.1 (jI (aj l))) i j a1 b1 (by omega)
theorem g7 {x:Nat} (hx:(aT (aj l))[x]?=some y):∃es,(gp l).2.2[x]?=some es∧es.Pairwise (· < ·)∧(∀z∈es,0<=z∧z.toNat<(aT (aj l)).length)∧es.map (kG (aT (aj l)))=readersD (aK l) y:=by
 have hxl:=(iO.1 hx).1;obtain⟨es,h1,h2,h3⟩:=sT l (aT (aj l)) vH (aT (aj l)).length x hxl;have hin:∀z∈es,0<=z∧z.toNat<(aT (aj l)).length:=fun z hz=>by obtain⟨i,rfl,hi,_⟩:=(h3 z).1 hz;rw[tl];exact⟨UE i,hi⟩
 refine⟨es,h1,h2,hin,gO bq (sW h2 hin) (rE (dE l) y) fun c=>?_⟩;rw[gQ,SU];constructor
 . rintro⟨z,hz,rfl⟩;obtain⟨i,rfl,hi,hm⟩:=(h3 z).1 hz;have hci:=eq hi;obtain⟨e,he,hec,_⟩:=xu hci;exact⟨e,he,by rw[fp hci];exact hec,(sV hci hx he hec).1 hm⟩
 . rintro⟨e,he,rfl,hm⟩;have hmem:e.1∈aT (aj l):=by rw[fU];exact SU.2 ⟨e,he,rfl⟩
   obtain⟨i,hi⟩:=TN hmem;exact⟨(i:Int),(h3 _).2 ⟨i,rfl,(iO.1 hi).1,(sV hi hx he rfl).2 hm⟩,fp hi⟩
theorem oj {x:Nat} (hx:(aT (aj l))[x]?=some y):∃es,(gp l).2.1[x]?=some es∧(∀z∈es,0<=z∧z.toNat<(aT (aj l)).length)∧es.map (kG (aT (aj l)))=c8 (aK l) y:=by
 have hxl:=(iO.1 hx).1;have h1:=sS l (aT (aj l)) (aT (aj l)).length x hxl;rw[S4 hxl] at h1;refine⟨_,h1,fun z hz=>?_,?_⟩
 . obtain⟨i,hi,rfl⟩:=SU.1 hz;rw[tl];exact⟨UE i,xv x i hi⟩
 . obtain⟨e,he,rfl,h3⟩:=mL hx;rw[h3,it (dE l) he]
end
section
variable {l:List En}
variable {y:C3}
theorem iz {x:Nat} (hx:(aT (aj l))[x]?=some y):(∀z∈rowS (gp l).2.2 (x:Int),(0<=z∧z.toNat<(aT (aj l)).length)∧kG (aT (aj l)) z∈readersD (aK l) y)∧∀c∈readersD (aK l) y,∃z∈rowS (gp l).2.2 (x:Int),kG (aT (aj l)) z=c:=by
 obtain⟨es,h1,_,h3,h4⟩:=g7 hx;have e:rowS (gp l).2.2 (x:Int)=es:=by unfold rowS;rw[tl,h1];rfl
 rw[e];refine⟨fun z hz=>⟨h3 z hz,by rw[<-h4];exact SU.2 ⟨z,hz,rfl⟩⟩,fun c hc=>?_⟩;rw[<-h4] at hc;obtain⟨z,hz,h⟩:=SU.1 hc;exact⟨z,hz,h⟩
theorem xw {z:Int} (h:0<=z∧z.toNat<(aT (aj l)).length):∃i:Nat,z=(i:Int)∧(aT (aj l))[i]?=some (kG (aT (aj l)) z):=by obtain⟨h0,h1⟩:=h;obtain⟨i,rfl⟩:=TP h0;rw[tl] at h1;refine⟨i,rfl,?_⟩;rw[fp (eq h1)];exact eq h1
theorem vI {x:Nat} (hx:(aT (aj l))[x]?=some y) {z:Int} (h:ReachI (gp l).2.2 (x:Int) z):(0<=z∧z.toNat<(aT (aj l)).length)∧Hang (aK l) y (kG (aT (aj l)) z):=by
 induction h with
 |one h=>obtain⟨h1,h2⟩:=(iz hx).1 _ h;exact⟨h1,.one h2⟩
 |step _ k ih=>obtain⟨h1,h2⟩:=ih;obtain⟨i,rfl,hi⟩:=xw h1;obtain⟨h3,h4⟩:=(iz hi).1 _ k;exact⟨h3,.next h2 h4⟩
theorem vJ (S:List (List Int)) (n:Nat) (p:Int):(eV S n p).Pairwise (· < ·):=by unfold eV;rw[Vk];exact(Ud Uz U8).imp fun h=>by omega
theorem zZ {x:Nat} (hx:(aT (aj l))[x]?=some y):(eV (gp l).2.2 (aT (aj l)).length (x:Int)).map (kG (aT (aj l)))=c9 (aK l) y:=by
 have hin:∀z∈eV (gp l).2.2 (aT (aj l)).length (x:Int),0<=z∧z.toNat<(aT (aj l)).length:=fun z hz=>(dQ.1 hz).1
 refine CB (dE l) (sW (vJ _ _ _) hin) (fun c hc=>?_) (fun c hc d hd=>?_) (fun c hc=>?_)
 . obtain⟨z,hz,rfl⟩:=(iz hx).2 c hc;exact SU.2 ⟨z,dQ.2 ⟨((iz hx).1 z hz).1,.one hz⟩,rfl⟩
 . obtain⟨z,hz,rfl⟩:=SU.1 hc;obtain⟨h1,h2⟩:=dQ.1 hz;obtain⟨i,rfl,hi⟩:=xw h1;obtain⟨r,hr,rfl⟩:=(iz hi).2 d hd;exact SU.2 ⟨r,dQ.2 ⟨((iz hi).1 r hr).1,.step h2 hr⟩,rfl⟩
 . obtain⟨z,hz,rfl⟩:=SU.1 hc;exact(vI hx (dQ.1 hz).2).2
end
theorem sX {i:Nat}:∀(ps:List Nat) (q:QS),(ps.foldl (cE i) q).1.length=q.1.length∧(ps.foldl (cE i) q).2.length=q.2.length
 |[],q=>⟨rfl,rfl⟩
 |x::ps,q=>by obtain⟨h1,h2⟩:=sX (i:=i) ps (cE i q x);rw[Uh,h1,h2];exact⟨UJ ..,UJ ..⟩
theorem ol (l:List En) (C:List C3):∀n,(d8 l C n).1.length=C.length∧(d8 l C n).2.length=C.length
 |0=>⟨List.length_replicate,List.length_replicate⟩
 |n+1=>by rw[fS,mI];obtain⟨h1,h2⟩:=sX (i:=n) (fo l C n) (d8 l C n);obtain⟨h3,h4⟩:=ol l C n;exact⟨h1.trans h3,h2.trans h4⟩
theorem pn (hl:l.length<=400) (hc:∀e∈l,kN e.2.2.1<=400):uV (gp l):=by
 obtain⟨h1,h2⟩:=ol l (aT (aj l)) (aT (aj l)).length;obtain⟨b1,b2⟩:=mG (C:=aT (aj l)) hc (aT (aj l)).length;have h400:=sM hl;refine⟨cS _,h400,h1,h2,fun r hr=>?_,fun r hr=>?_⟩
 . refine⟨by have:=b1 r hr;omega,?_⟩;obtain⟨i,hi⟩:=TN hr;have hil:i<(aT (aj l)).length:=by have:=(iO.1 hi).1;exact h1▸this
   obtain⟨es,h3,h4,_⟩:=oj (l:=l) (eq hil);rw[h3] at hi;cases hi;exact h4
 . refine⟨by have:=b2 r hr;omega,?_⟩;obtain⟨i,hi⟩:=TN hr;have hil:i<(aT (aj l)).length:=by have:=(iO.1 hi).1;exact h2▸this
   obtain⟨es,h3,_,h4,_⟩:=g7 (l:=l) (eq hil);rw[h3] at hi;cases hi;exact h4
def kE (l:List En) (c:C3) (r:List C3):V:=if fV c (aP (aK l))=true then .sl false 3 (r.map aa) none else .sl true 0 [] none
theorem IA (h:fV c (aT (aj l))=true):∃x:Nat,(aT (aj l))[x]?=some c∧bS (plI 0 (aT (aj l))) c=(x:Int):=by obtain⟨x,h1,h2,_⟩:=Dy (cS (aj l)) (gq.1 h);exact⟨x,h1,h2⟩
theorem z6 (l:List En) (c:C3):rM (gp l).1 (gp l).2.1 c=kE l c (c8 (aK l) c):=by
 unfold rM kE;rw[show(gp l).1=aT (aj l) from rfl,<-fU];by_cases h:fV c (aT (aj l))=true
 . rw[S4 h,S4 h];obtain⟨x,h1,h2⟩:=IA h;obtain⟨es,h3,_,h4⟩:=oj h1;rw[h2,tl,h3,TQ,h4]
 . rw[S8 h,S8 h]
theorem sY (l:List En) (c:C3):rM (gp l).1 (gp l).2.2 c=kE l c (readersD (aK l) c):=by
 unfold rM kE;rw[show(gp l).1=aT (aj l) from rfl,<-fU];by_cases h:fV c (aT (aj l))=true
 . rw[S4 h,S4 h];obtain⟨x,h1,h2⟩:=IA h;obtain⟨es,h3,_,_,h4⟩:=g7 h1;rw[h2,tl,h3,TQ,h4]
 . rw[S8 h,S8 h]
theorem z7 (hl:l.length<=400) (hc:∀e∈l,kN e.2.2.1<=400) (c:C3):vC (gp l,c)=some (kE l c (c9 (aK l) c)):=by
 unfold vC kE;rw[S4 (pn hl hc)];congr 1;rw[show(gp l,c).1.1=aT (aj l) from rfl,<-fU];by_cases h:fV c (aT (aj l))=true
 . rw[S4 h,S4 h];obtain⟨x,h1,h2⟩:=IA h;rw[h2];have:=zZ h1;show V.sl false 3 (((eV (gp l).2.2 (aT (aj l)).length (x:Int)).map (kG (aT (aj l)))).map aa) none=_;rw[this]
 . rw[S8 h,S8 h]
theorem vK (l:List En) (c:C3):(c8 (aK l) c).length<=(aK l).length:=by
 by_cases hc:c∈aP (aK l)
 . obtain⟨e,he,rfl⟩:=SU.1 hc;rw[it (dE l) he];have:=(FI (uO _ e) (dE l) (fun x hx=>zu hx)).length_le
   rwa [show(aP (aK l)).length=(aK l).length from io _] at this
 . rw[nS hc];exact TL _
theorem sZ (l:List En) (c:C3):(readersD (aK l) c).length<=(aK l).length:=by unfold readersD;rw[io];exact Uc _ _
theorem om (l:List En) (c:C3):(c9 (aK l) c).length<=(aK l).length:=by unfold c9;exact Tn (Uc _ _) (Nat.le_of_eq (io _))
def iL (e:En):Prop:=((ik 101 e.2.2.1:Nat):Int)<=400∧(e.2.2.2.2.2.size:Int)<=400∧(e.1.1.size:Int)<=50
def Nt (p:ES):Prop:=(p.2.2≠[]->p.2.1=20)∧p.2.2.length<=281474976710656
open Classical in
noncomputable def Nu (p:ES):Option V:=if Nt p then some (.x (.bool (decide ((∀e∈p.2.2,iL e)∧(p.2.2.length:Int)<=24)))) else none
theorem Dz (e:En):∃N:List V,cK e= .agg (.x (.string e.1.1):: .x (.int .i64 e.1.2.1):: .x (.int .i64 e.1.2.2):: .x (.bool e.2.1)::(N++[.x (.int .i64 e.2.2.2.1),.x (.int .i64 e.2.2.2.2.1),.x (.string e.2.2.2.2.2)]))∧N.length=13∧am e.2.2.1= .agg N∧∀T,(N++T).take 13=N∧(N++T).drop 13=T:=
 ⟨gh e.2.2.1.hd (kw e.2.2.1),rfl,rfl,aS _,fun _=>⟨rfl,rfl⟩⟩
open Classical in
theorem z8:cm 6 (FE ej Nu):=by
 refine aE (E:=ar [(15,H0)]) (k:=1) (aV _ ⟨Fu,trivial⟩) (by kernel_rfl) Try.func6 rfl (fun a w=>Try.call6 a w) Try.ntmps6 (by kernel_rfl) (by decide) (by decide) ?_;intro us r hF hdat;obtain⟨⟨nl,sz,l⟩,hus,hG⟩:=be hF;clear hF;subst hus;unfold Nu at hG;split at hG
 case isFalse=>cases hG
 rename_i hok;cases hG;obtain⟨hsz,hlen⟩:=hok;simp only at hsz hlen;clear hdat;refine⟨rfl,?_⟩;simp only[ej];simp +decide (maxDischargeDepth:=200) only[go_sem,Nat.reduceBEq,io];refine bu (X:={i:Nat//i<=l.length∧∀e∈l.take i,iL e}) (fun i=>[(0,.sl nl sz (l.map cK) none),(3,.x (.int .i64 ((i.1:Nat):Int)))]) (fun _=>[]) (fun i=>l.length-i.1) ⟨0,TL _,fun e he=>by simp at he⟩ (by simp +decide only[go_sem,T9]<;>(repeat' first|rfl|constructor)) (by simp +decide only[go_sem]<;>(repeat' first|rfl|constructor)) (fun⟨i,hi0,hfi⟩=>?_);simp only at hi0 hfi⊢;by_cases hi:i<l.length
 . have c1:decide ((i:Int)<(l.length:Int))=true:=Io (by omega);have c1':(i:Int)<(l.length:Int):=by omega
   have c2:(0:Int)<=(i:Int):=by omega
   have c4:=bp (i:=i) (by omega);have q1:l[i]?=some l[i]:=eq hi;have q2:(l.map cK)[((i:Nat):Int).toNat]?=some (cK l[i]):=by rw[tl,SS,q1];rfl
   obtain rfl:=hsz (fun h=>by rw[h] at hi;simp at hi);have hmem:=TR hi;have hstep:iL l[i]->∀e∈l.take (i+1),iL e:=fun h e he=>by
    rw[bA q1,Ta] at he;rcases he with he|he
    . exact hfi e he
    . rw[Tf.1 he];exact h
   have hno: ¬iL l[i]->decide ((∀e∈l,iL e)∧(l.length:Int)<=24)=false:=fun h=>SP (fun h2=>h (h2.1 _ hmem))
   generalize l[i]=e at q2 hmem hstep hno;obtain⟨N,hN,lN,hnd,hNT⟩:=Dz e;rw[hN] at q2;have hfw:=Ft e.2.2.1;rw[hnd] at hfw;have t1:=fun T=>(hNT T).1
   have t2:=fun T=>(hNT T).2
   by_cases h1:((ik 101 e.2.2.1:Nat):Int)<=400
   case neg=>rw[SP h1] at hfw;have hn:=hno (fun h=>h1 h.1);rw[hn];simp +decide (maxDischargeDepth:=200) only[go_sem,Nat.reduceBEq,io,SV,SQ,lN,t1,t2,c1,c1',c2,q2,hfw]
   rw[Io h1] at hfw;by_cases h2:(e.2.2.2.2.2.size:Int)<=400
   case neg=>have d2:decide ((400:Int)<(e.2.2.2.2.2.size:Int))=true:=Io (by omega);have hn:=hno (fun h=>h2 h.2.1);rw[hn];simp +decide (maxDischargeDepth:=200) only[go_sem,Nat.reduceBEq,io,SV,SQ,lN,t1,t2,c1,c1',c2,q2,hfw,d2]
   have d2:decide ((400:Int)<(e.2.2.2.2.2.size:Int))=false:=SP (by omega);by_cases h3:(e.1.1.size:Int)<=50
   case neg=>have d3:decide ((50:Int)<(e.1.1.size:Int))=true:=Io (by omega);have hn:=hno (fun h=>h3 h.2.2);rw[hn];simp +decide (maxDischargeDepth:=200) only[go_sem,Nat.reduceBEq,io,SV,SQ,lN,t1,t2,c1,c1',c2,q2,hfw,d2,d3]
   have d3:decide ((50:Int)<(e.1.1.size:Int))=false:=SP (by omega);simp +decide (maxDischargeDepth:=200) only[go_sem,Nat.reduceBEq,io,SV,SQ,lN,t1,t2,c1,c1',c2,c4,q2,hfw,d2,d3];refine⟨⟨i+1,hi,hstep ⟨h1,h2,h3⟩⟩,?_,?_,?_⟩
   . simp +decide (maxDischargeDepth:=200) only[go_sem,Nat.reduceBEq]
   . simp +decide (maxDischargeDepth:=200) only[go_sem,Nat.reduceBEq]
   . simp only;omega
 . have c1:decide ((i:Int)<(l.length:Int))=false:=SP (by omega);have hall:∀e∈l,iL e:=by rw[T7 (by omega)] at hfi;exact hfi
   have e1:decide ((∀e∈l,iL e)∧(l.length:Int)<=24)=decide ((l.length:Int)<=24):=by rw[Um,Tk,Tk];exact⟨fun h=>h.2,fun h=>⟨hall,h⟩⟩
   simp +decide (maxDischargeDepth:=200) only[go_sem,Nat.reduceBEq,io,c1,e1]
def Nz:En:=((⟨#[115]⟩,1,1),false,.leaf ⟨0,⟨#[]⟩,⟨#[]⟩,0,0,⟨#[]⟩,⟨#[]⟩,0,0,⟨#[]⟩,0,0⟩,(0,0,⟨#[]⟩))
def jL:List V->Option V
 |[]=>some (.x (.bool true))
 |_=>none
theorem vL {nl:Bool} {sz:Nat} (h:Gh (nl,sz,l)):FE ej Gi [.sl nl sz (l.map cK) none]=some (iJ (gp l)):=(bJ j3 Gi (nl,sz,l)).trans (S4 h)
theorem mM (h:uV (gp l)):FE iK FW [iJ (gp l)]=some (.sl false 3 ((gp l).1.map aa) none):=(bJ zB FW (gp l)).trans (S4 h)
theorem RW:Gh (true,0,([]:List En)):=⟨⟨fun h=>absurd rfl h,TL _,fun e he=>by cases he⟩,fun e he=>by cases he⟩
theorem RX:Gh (false,20,[Nz]):=⟨⟨fun _=>rfl,by decide,fun e he=>by rw[Tf.1 he];decide⟩,fun e he=>by rw[Tf.1 he];decide⟩
theorem s6:cm 5 jL:=by
 refine aE (E:=ar [(7,FE ej Gi),(8,FE iK FW)]) (k:=0) (aV _ ⟨sN,mr,trivial⟩) (by kernel_rfl) Try.func5 rfl (fun a w=>Try.call5 a w) Try.ntmps5 (by kernel_rfl) (by decide) (by decide) ?_;intro us r hF hdat;unfold jL at hF;split at hF
 case h_2=>cases hF
 cases hF;refine⟨rfl,?_⟩;have n1:FE ej Gi [.sl false 20 [.agg [.x (.string ⟨#[115]⟩),.x (.int .i64 1),.x (.int .i64 1),.x (.bool false),.x (.int .i64 0),.x (.string ⟨#[]⟩),.x (.string ⟨#[]⟩),.x (.int .i64 0),.x (.int .i64 0),.x (.string ⟨#[]⟩),.x (.string ⟨#[]⟩),.x (.int .i64 0),.x (.int .i64 0),.x (.string ⟨#[]⟩),.x (.int .i64 0),.x (.int .i64 0),.sl true 0 [] none,.x (.int .i64 0),.x (.int .i64 0),.x (.string ⟨#[]⟩)]] none]=some (iJ (gp [Nz])):=vL RX;have n0:FE ej Gi [.sl true 0 [] none]=some (iJ (gp [])):=vL RW;have c0:FE iK FW [iJ (gp [])]=some (.sl false 3 [] none):=mM (pn RW.1.2.1 RW.1.2.2);have c1:FE iK FW [iJ (gp [Nz])]=some (.sl false 3 [.agg [.x (.string ⟨#[115]⟩),.x (.int .i64 1),.x (.int .i64 1)]] none):=mM (pn RX.1.2.1 RX.1.2.2);obtain⟨a,ha⟩:∃a,iJ (gp [Nz])= .ip a:=⟨_,rfl⟩;obtain⟨b,hb⟩:∃b,iJ (gp [])= .ip b:=⟨_,rfl⟩;rw[ha] at n1 c1;rw[hb] at n0 c0;clear ha hb;simp +decide (maxDischargeDepth:=200) only[go_sem,Nat.reduceBEq,n1,n0,c0,c1]
open Classical in
noncomputable def RY (p:ES):Option V:=if Nt p then some (.x (.bool true)) else none
theorem po (h:c∈aP (aK l)):kE l c r= .sl false 3 (r.map aa) none:=by unfold kE;rw[S4 (gq.2 h)]
open Classical in
theorem nc:cm 3 (FE ej RY):=by
 refine aE (E:=(ar [(5,jL),(6,(FE ej Nu)),(7,(FE ej Gi)),(8,(FE iK FW)),(9,nN),(10,(FE fk MV)),(11,(FE fk MW)),(12,(FE fk vC))])) (k:=1) (aV _ ⟨s6,z8,sN,mr,Cr,uW,o0,vD,trivial⟩) (by kernel_rfl) Try.func3 rfl (fun a w=>Try.call3 a w) Try.ntmps3 (by kernel_rfl) (by decide) (by decide) ?_;intro us r hF hdat;obtain⟨⟨nl,sz,l⟩,hus,hG⟩:=be hF;clear hF;subst hus;unfold RY at hG;split at hG
 case isFalse=>cases hG
 rename_i hok;cases hG;have hok0:=hok;obtain⟨hsz,hlen⟩:=hok;simp only at hsz hlen;clear hdat;refine⟨rfl,?_⟩;simp only[ej];have e1:jL []=some (.x (.bool true)):=rfl;have hfw:FE ej Nu [.sl nl sz (l.map cK) none]=some (.x (.bool (decide ((∀e∈l,iL e)∧(l.length:Int)<=24)))):=(bJ j3 Nu (nl,sz,l)).trans (S4 hok0);by_cases hfine:(∀e∈l,iL e)∧(l.length:Int)<=24
 case neg=>rw[SP hfine] at hfw;simp +decide (maxDischargeDepth:=200) only[go_sem,Nat.reduceBEq,io,e1,hfw]
 rw[Io hfine] at hfw;obtain⟨hf1,hf2⟩:=hfine;have hl4:l.length<=400:=by omega
 have hcnt:∀e∈l,kN e.2.2.1<=400:=fun e he=>Fs (by have:=(hf1 e he).1;omega)
 have hs8:∀e∈l,e.1.1.size<=281474976710656:=fun e he=>by have:=(hf1 e he).2.2;omega
 have hP:=pn hl4 hcnt;have n1:FE ej Gi [.sl nl sz (l.map cK) none]=some (iJ (gp l)):=vL ⟨⟨hsz,hl4,hcnt⟩,hs8⟩;have k0:FE iK FW [iJ (gp l)]=some (.sl false 3 ((aP (aK l)).map aa) none):=by rw[<-fU];exact mM hP
 have hLl:(aK l).length<=400:=by have:=Cz l;omega
 have hcl:(aP (aK l)).length<=400:=by unfold aP;rw[io];exact hLl
 have hr1:∀c∈aP (aK l),FE fk MV [iJ (gp l),aa c]=some (.sl false 3 ((c8 (aK l) c).map aa) none):=fun c hc=>by rw[<-po hc,<-z6];exact(bJ j6 MV (gp l,c)).trans (S4 hP)
 have hr2:∀c∈aP (aK l),FE fk MW [iJ (gp l),aa c]=some (.sl false 3 ((readersD (aK l) c).map aa) none):=fun c hc=>by rw[<-po hc,<-sY];exact(bJ j6 MW (gp l,c)).trans (S4 hP)
 have hr3:∀c∈aP (aK l),FE fk vC [iJ (gp l),aa c]=some (.sl false 3 ((c9 (aK l) c).map aa) none):=fun c hc=>by rw[<-po hc];exact(bJ j6 vC (gp l,c)).trans (z7 hl4 hcnt c)
 obtain⟨A,hA⟩:∃A,iJ (gp l)= .ip A:=⟨_,rfl⟩;rw[hA] at n1 k0;simp only[hA] at hr1 hr2 hr3;clear hA hP;simp +decide (maxDischargeDepth:=200) only[go_sem,Nat.reduceBEq,io,e1,hfw,n1,k0];generalize hCC:aP (aK l)=C at k0 hcl hr1 hr2 hr3;have hsrt:eW ac (aP (aK l)):=dE l;have lenR:∀c,(c8 (aK l) c).length<=1000000:=fun c=>by have:=vK l c;omega
 have lenS:∀c,(readersD (aK l) c).length<=1000000:=fun c=>by have:=sZ l c;omega
 have lenA:∀c,(c9 (aK l) c).length<=1000000:=fun c=>by have:=om l c;omega
 have lenA4:∀c,(c9 (aK l) c).length<=400:=fun c=>by have:=om l c;omega
 have hin:∀(L:List C3) (c:C3),L.length<=1000000->nN [.sl false 3 (L.map aa) none,aa c]=some (.x (.bool (uM L c))):=fun L c h=>Cq c.1 c.2.1 c.2.2 h (.inl rfl)
 have hmeet:∀a b,uM (readersD (aK l) b) a=uM (c8 (aK l) a) b:=fun a b=>by rw[Um,cd,cd];exact(fA hsrt).symm
 have hone:∀a b,uM (c8 (aK l) a) b=true->uM (c9 (aK l) b) a=true:=fun a b h=>cd.2 (fM.2 (.one ((fA hsrt).1 (cd.1 h))))
 have hall:∀a b,uM (c8 (aK l) a) b=true->∀x∈c9 (aK l) a,uM (c9 (aK l) b) x=true:=fun a b h x hx=>cd.2 (fM.2 (uP ((fA hsrt).1 (cd.1 h)) (fM.1 hx)))
 refine bu (X:={i:Nat//i<=C.length}) (fun i=>[(4,.ip A),(5,.sl false 3 (C.map aa) none),(6,.x (.int .i64 ((i.1:Nat):Int)))]) (fun _=>[]) (fun i=>C.length-i.1) ⟨0,TL _⟩ (by simp +decide only[go_sem,T9]<;>(repeat' first|rfl|constructor)) (by simp +decide only[go_sem]<;>(repeat' first|rfl|constructor)) (fun⟨i,hi0⟩=>?_);simp only at hi0⊢;by_cases hi:i<C.length
 case neg=>have c1:decide ((i:Int)<(C.length:Int))=false:=SP (by omega);simp +decide (maxDischargeDepth:=200) only[go_sem,Nat.reduceBEq,io,c1]
 have c1:decide ((i:Int)<(C.length:Int))=true:=Io (by omega);have c1':(i:Int)<(C.length:Int):=by omega
 have c2:(0:Int)<=(i:Int):=by omega
 have c4:=bp (i:=i) (by omega);have q1:C[i]?=some C[i]:=eq hi;have q2:(C.map aa)[((i:Nat):Int).toNat]?=some (aa C[i]):=by rw[tl,SS,q1];rfl
 have qm:C[i]∈C:=TR hi;generalize C[i]=a at q2 qm;have ra:=hr1 a qm;have rA:=hr3 a qm;simp +decide (maxDischargeDepth:=200) only[go_sem,Nat.reduceBEq,io,c1];refine bu (X:={k:Nat//k<=C.length}) (fun k=>[(4,.ip A),(5,.sl false 3 (C.map aa) none),(6,.x (.int .i64 (i:Int))),(7,.x (.int .i64 ((k.1:Nat):Int)))]) (fun _=>[]) (fun k=>C.length-k.1) ⟨0,TL _⟩ (by simp +decide only[go_sem,T9]<;>(repeat' first|rfl|constructor)) (by simp +decide only[go_sem]<;>(repeat' first|rfl|constructor)) (fun⟨k,hk0⟩=>?_);simp only at hk0⊢;by_cases hk:k<C.length
 case neg=>
  have d1:decide ((k:Int)<(C.length:Int))=false:=SP (by omega);simp +decide (maxDischargeDepth:=200) only[go_sem,Nat.reduceBEq,io,d1,c4];refine⟨⟨i+1,hi⟩,?_,?_,?_⟩
  . simp +decide (maxDischargeDepth:=200) only[go_sem,Nat.reduceBEq]
  . simp +decide (maxDischargeDepth:=200) only[go_sem,Nat.reduceBEq]
  . simp only;omega
 have d1:decide ((k:Int)<(C.length:Int))=true:=Io (by omega);have d1':(k:Int)<(C.length:Int):=by omega
 have d2:(0:Int)<=(k:Int):=by omega
 have d4:=bp (i:=k) (by omega);have p1:C[k]?=some C[k]:=eq hk;have p2:(C.map aa)[((k:Nat):Int).toNat]?=some (aa C[k]):=by rw[tl,SS,p1];rfl
 have pm:C[k]∈C:=TR hk;generalize C[k]=b at p2 pm;have rb:=hr2 b pm;have rB:=hr3 b pm;have h1:=hin _ b (lenR a);have h2:=hin _ a (lenS b);have h3:=hin _ a (lenA b);have h4:=fun c=>hin _ c (lenA b)
 have hA4:=lenA4 a;rw[hmeet] at h2;have ho:=hone a b;have hl:=hall a b;obtain⟨xs,xc,xr⟩:=a;obtain⟨ys,yc,yr⟩:=b;simp only[dB] at q2 p2 ra rA rb rB h1 h2 h3;cases hq:uM (c8 (aK l) (xs,xc,xr)) (ys,yc,yr) with
 | false=>
   rw[hq] at h1 h2;clear ho hl h4;generalize (c8 (aK l) (xs,xc,xr)).map aa=R1 at ra h1;generalize (readersD (aK l) (ys,yc,yr)).map aa=R2 at rb h2;simp +decide (maxDischargeDepth:=200) only[go_sem,Nat.reduceBEq,io,d1,d1',d2,d4,c1',c2,q2,p2,ra,rb,h1,h2];refine⟨⟨k+1,hk⟩,?_,?_,?_⟩
   . simp +decide (maxDischargeDepth:=200) only[go_sem,Nat.reduceBEq]
   . simp +decide (maxDischargeDepth:=200) only[go_sem,Nat.reduceBEq]
   . simp only;omega
 | true=>
   have hl':=hl hq;rw[ho hq] at h3;rw[hq] at h1 h2;clear ho hl;generalize (c8 (aK l) (xs,xc,xr)).map aa=R1 at ra h1;generalize (readersD (aK l) (ys,yc,yr)).map aa=R2 at rb h2;generalize c9 (aK l) (xs,xc,xr)=AA at rA hl' hA4;generalize c9 (aK l) (ys,yc,yr)=AB at rB h3 h4 hl';simp +decide (maxDischargeDepth:=200) only[go_sem,Nat.reduceBEq,io,d1,d1',d2,c1',c2,q2,p2,ra,rb,rA,rB,h1,h2,h3];refine bu (X:={j:Nat//j<=AA.length}) (fun j=>[(4,.ip A),(5,.sl false 3 (C.map aa) none),(6,.x (.int .i64 (i:Int))),(7,.x (.int .i64 (k:Int))),(9,.sl false 3 (AA.map aa) none),(10,.sl false 3 (AB.map aa) none),(11,.x (.int .i64 ((j.1:Nat):Int)))]) (fun _=>[]) (fun j=>AA.length-j.1) ⟨0,TL _⟩ (by simp +decide only[go_sem,T9]<;>(repeat' first|rfl|constructor)) (by simp +decide only[go_sem]<;>(repeat' first|rfl|constructor)) (fun⟨j,hj0⟩=>?_);simp only at hj0⊢;by_cases hj:j<AA.length
   case neg=>
    have e1:decide ((j:Int)<(AA.length:Int))=false:=SP (by omega);simp +decide (maxDischargeDepth:=200) only[go_sem,Nat.reduceBEq,io,e1,d4];refine⟨⟨k+1,hk⟩,?_,?_,?_⟩
    . simp +decide (maxDischargeDepth:=200) only[go_sem,Nat.reduceBEq]
    . simp +decide (maxDischargeDepth:=200) only[go_sem,Nat.reduceBEq]
    . simp only;omega
   have e1:decide ((j:Int)<(AA.length:Int))=true:=Io (by omega);have e1':(j:Int)<(AA.length:Int):=by omega
   have e2:(0:Int)<=(j:Int):=by omega
   have e4:=bp (i:=j) (by omega);have m1:AA[j]?=some AA[j]:=eq hj;have m2:(AA.map aa)[((j:Nat):Int).toNat]?=some (aa AA[j]):=by rw[tl,SS,m1];rfl
   have h5:=h4 AA[j];rw[hl' _ (TR hj)] at h5;generalize AA[j]=c at m2 h5;obtain⟨zs,zc,zr⟩:=c;simp only[dB] at m2 h5;simp +decide (maxDischargeDepth:=200) only[go_sem,Nat.reduceBEq,io,e1,e1',e2,e4,m2,h5];refine⟨⟨j+1,hj⟩,?_,?_,?_⟩
   . simp +decide (maxDischargeDepth:=200) only[go_sem,Nat.reduceBEq]
   . simp +decide (maxDischargeDepth:=200) only[go_sem,Nat.reduceBEq]
   . simp only;omega
end Go.Proofs.Ytalkmhjanlljhaa
