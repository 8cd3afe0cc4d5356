/- MZ -/
import Derived.Test.YtiepfeebmnfbdaaGreatMN
import Derived.Test.YtiepfeebmnfbdaaGreatMK
namespace Go.Proofs.YtiepfeebmnfbdaaGreat
set_option linter.unusedSimpArgs false
set_option maxRecDepth 100000
open Go Go.RowKit
theorem zE(L:List CI)(d c:C3)(v:Int):cZ L c=true∨c=d->cZ (gV L d v) c=true:=by
 intro h;unfold gV;split
 . rename_i hd;have hc:cZ L c=true:=by
    rcases h with h|rfl
    . exact h
    . exact hd
   rw[dO] at hc⊢;obtain⟨p,hp,rfl⟩:=ads.1 hc;refine ads.2 ⟨_,ads.2 ⟨p,hp,rfl⟩,?_⟩;split<;>rfl
 . rw[dO,adK,adv];rcases h with h|rfl
   . exact .inl (dO.1 h)
   . exact .inr A0k
variable{l:List En}{c:C3}
theorem CO:∀n:Nat,n<=l.length->cZ (am (l.take n)) c=true->∃k e,k<n∧dz (am (l.take n)) c=(k:Int)∧l[k]?=some e∧e.1=c∧∀j f,k<j->j<n->l[j]?=some f->f.1≠c:=by
 intro n
 induction n with
 |zero=>intro _ h;simp[am,lA,cZ,je] at h
 | succ n ih=>
   intro hn h;have q1:l[n]?=some l[n]:=io A0b;have e:am (l.take (n+1))=gV (am (l.take n)) (l[n]).1 (n:Int):=by unfold am;rw[aF q1,fv,adz,adi,aeZ A0b]
   rw[e] at h⊢;rw[zq _ _ _ _ h];by_cases hc:c=(l[n]).1
   . rw[adl hc];exact⟨n,l[n],A0b,rfl,q1,hc.symm,fun j f h1 h2=>by omega⟩
   . rw[adq hc];obtain⟨k,e,hk,e2,e3,e4,e5⟩:=ih A0b (u6 _ _ _ _ hc h);refine⟨k,e,A0b,e2,e3,e4,fun j f h1 h2 hf=>?_⟩;by_cases hj:j=n
     . subst hj;rw[q1] at hf;cases hf;exact fun h=>hc h.symm
     . exact e5 j f h1 A0b hf
theorem re(h:cZ (am l) c=true):∃e,l[(dz (am l) c).toNat]?=some e∧e.1=c∧e∈aS l:=by
 obtain⟨k,e,hk,h1,h2,h3,h4⟩:=CO (l:=l) (c:=c) l.length (adp _) (by rw[aei];exact h);rw[aei] at h1;refine⟨e,by rw[h1,tl];exact h2,h3,(yS l e).2 ⟨l.take k,l.drop (k+1),?_,fun y hy=>?_⟩⟩
 . have he:=(iO.1 h2).2;rw[<-he,<-afl,afq]
 . obtain⟨j,hj⟩:=aen hy;rw[aeA] at hj;rw[h3];exact h4 (k+1+j) y A0b (iO.1 hj).1 hj
variable{e:En}
theorem HC:∀n:Nat,n<=l.length->e∈l.take n->cZ (am (l.take n)) e.1=true:=by
 intro n
 induction n with
 |zero=>intro _ h;simp at h
 | succ n ih=>
   intro hn h;have q1:l[n]?=some l[n]:=io A0b;have e:am (l.take (n+1))=gV (am (l.take n)) (l[n]).1 (n:Int):=by unfold am;rw[aF q1,fv,adz,adi,aeZ A0b]
   rw[e];rw[aF q1,adv] at h;rcases h with h|h
   . exact zE _ _ _ _ (.inl (ih A0b h))
   . rw[adj.1 h];exact zE _ _ _ _ (.inr rfl)
theorem rf(l:List En):cz (am l)=ay (aS l):=l5 bQ (nc _) (dy l) fun c=>by
 rw[jg];constructor
 . intro h;obtain⟨e,_,h1,h2⟩:=re (dO.2 h);exact ads.2 ⟨e,h2,h1⟩
 . intro h;obtain⟨e,he,rfl⟩:=ads.1 h;have:=HC (l:=l) (e:=e) l.length (adp _) (by rw[aei];exact qN he);rw[aei] at this;exact dO.1 this
def iC(l:List En)(C:List C3)(i:Nat):List Nat:=
 match C[i]? with
 |none=>[]
 | some c=>match l[(dz (am l) c).toNat]? with
   |none=>[]
   |some e=>if e.2.1=true then kY C (aD e.2.2.1) else []
theorem rh(l:List En)(C:List C3)(q:QS)(i:Nat):qW l C q i=(iC l C i).foldl (dQ i) q:=by
 unfold qW iC;cases C[i]? with
 |none=>rfl
 | some c=>
   simp only;cases l[(dz (am l) c).toNat]? with
   |none=>rfl
   |some e=>simp only;split<;>rfl
theorem ri{i:Nat}:∀(ps:List Nat) (q:QS) (j:Nat) (es:List Int),q.1[j]?=some es->(ps.foldl (dQ i) q).1[j]?=some (if j=i then es++ps.map (fun x:Nat=>(x:Int)) else es)
 |[],q,j,es,h=>by rw[afr,aep,ite_self];exact h
 | x ::ps,q,j,es,h=>by
   have hj:=(iO.1 h).1;rw[aeh];by_cases e:j=i
   . subst e;have h1:(dQ j q x).1[j]?=some (es++[(x:Int)]):=by show(q.1.set j ((q.1[j]?.getD [])++[(x:Int)]))[j]?=_;rw[ae8 hj,h];rfl
     rw[ri ps _ j _ h1,adl rfl,adl rfl,adL,aef];rfl
   . have h1:(dQ i q x).1[j]?=some es:=by show(q.1.set i _)[j]?=_;rw[ae0 (aeM e)];exact h
     rw[ri ps _ j _ h1,adq e,adq e]
theorem rj{i:Nat}:∀(ps:List Nat) (q:QS) (x:Nat) (es:List Int),ps.Nodup->q.2[x]?=some es->(ps.foldl (dQ i) q).2[x]?=some (if x∈ps then es++[(i:Int)] else es)
 |[],q,x,es,_,h=>by rw[adq A0k];exact h
 | y ::ps,q,x,es,hn,h=>by
   have hx:=(iO.1 h).1;obtain⟨hy,hn2⟩:=adY.1 hn;rw[aeh];by_cases e:x=y
   . subst e;have h1:(dQ i q x).2[x]?=some (es++[(i:Int)]):=by show(q.2.set x ((q.2[x]?.getD [])++[(i:Int)]))[x]?=_;rw[ae8 hx,h];rfl
     rw[rj ps _ x _ hn2 h1,adq hy,adl A0k]
   . have h1:(dQ i q y).2[x]?=some es:=by show(q.2.set y _)[x]?=_;rw[ae0 (aeM e)];exact h
     rw[rj ps _ x _ hn2 h1];by_cases hm:x∈ps
     . rw[adl hm,adl (adE _ hm)]
     . rw[adq hm,adq (fun h=>by rcases adA.1 h with h|h;exact e h;exact hm h)]
theorem zF(l:List En)(C:List C3):∀(n i:Nat),i<C.length->(fN l C n).1[i]?=some (if i<n then (iC l C i).map (fun x:Nat=>(x:Int)) else [])
 |0,i,hi=>by rw[adq A0b];show(List.replicate C.length [])[i]?=_;rw[ad4,adl hi]
 | n +1,i,hi=>by
   rw[jj,rh,ri _ _ _ _ (zF l C n i hi)];by_cases e:i=n
   . subst e;rw[adl rfl,adq A0b,adl A0b,aex]
   . rw[adq e];by_cases h:i<n
     . rw[adl h,adl A0b]
     . rw[adq h,adq A0b]
theorem zG(l:List En)(C:List C3)(hnd:∀i,(iC l C i).Nodup):∀(n x:Nat),x<C.length->∃es,(fN l C n).2[x]?=some es∧es.Pairwise (· < ·)∧∀y,y∈es↔∃i:Nat,y=(i:Int)∧i<n∧x∈iC l C i
 |0,x,hx=>⟨[],by show(List.replicate C.length [])[x]?=_;rw[ad4,adl hx],List.Pairwise.nil,fun y=>by simp⟩
 | n + 1,x,hx=>by
   obtain⟨es,h1,h2,h3⟩:=zG l C hnd n x hx;refine⟨_,by rw[jj,rh,rj _ _ _ _ (hnd n) h1],?_,fun y=>?_⟩
   . split
     . refine aeF.2 ⟨h2,aeY _ _,fun a ha b hb=>?_⟩;rw[adj.1 hb];obtain⟨i,rfl,hi,_⟩:=(h3 a).1 ha;omega
     . exact h2
   . split
     . rename_i hm;rw[adv,adj,h3];constructor
       . rintro(⟨i,rfl,hi,h⟩|rfl)
         . exact⟨i,rfl,A0b,h⟩
         . exact⟨n,rfl,A0b,hm⟩
       . rintro⟨i,rfl,hi,h⟩;by_cases e:i=n
         . exact .inr A08
         . exact .inl ⟨i,rfl,A0b,h⟩
     . rename_i hm;rw[h3];constructor
       . rintro⟨i,rfl,hi,h⟩;exact⟨i,rfl,A0b,h⟩
       . rintro⟨i,rfl,hi,h⟩;refine⟨i,rfl,?_,h⟩;by_cases e:i=n
         . exact absurd (e▸h) hm
         . omega
variable{C:List C3}
theorem iD:je c C=true↔c∈C:=by have h:=dO (L:=plI 0 C) (c:=c);rw[o7,o6] at h;exact h
theorem ED(c:C3)(C:List C3):jr C c=je c C:=by rw[ae3,fy,iD]
theorem Tu(hn:C.Nodup){c:C3}(h:c∈C):∃i:Nat,C[i]?=some c∧dz (plI 0 C) c=(i:Int)∧i<C.length:=by obtain⟨i,hi⟩:=uW (iD.2 h);have:=tg (k:=0) hn hi;rw[adi] at this;exact⟨i,hi,this,(iO.1 hi).1⟩
theorem iE{i:Nat}(h:C[i]?=some c):di C (i:Int)=c:=by unfold di;rw[tl,h];rfl
theorem va(hn:C.Nodup){c:C3}(h:c∈C):di C (((dz (plI 0 C) c).toNat:Nat):Int)=c:=by obtain⟨i,h1,h2,_⟩:=Tu hn h;rw[h2,tl];exact iE h1
theorem CP{r:List C3}(hn:C.Nodup)(hr:r.Nodup):(kY C r).Nodup:=by unfold kY;rw[List.Nodup,afP];refine List.Pairwise.imp_of_mem (fun {a b} ha hb hab e=>?_) (afb afD hr);have h1:=va hn (iD.1 (adZ.1 ha).2);have h2:=va hn (iD.1 (adZ.1 hb).2);rw[e,h2] at h1;exact hab h1.symm
theorem zH(nd:Nd):(aD nd).Nodup:=(nI nd).imp fun {a b} h e=>by subst e;rw[bQ.irr] at h;cases h
theorem CQ(hn:C.Nodup)(r:List C3):((kY C r).map fun x:Nat=>(x:Int)).map (di C)=r.filter fun c=>je c C:=by
 unfold kY;rw[aes,aes]
 conv=>rhs;rw[<-List.map_id (r.filter fun c=>je c C)]
 exact aeW fun c hc=>va hn (iD.1 (adZ.1 hc).2)
section
variable{l:List En}
theorem EE{i:Nat}(hi:(cz (am l))[i]?=some c):∃e∈aS l,e.1=c∧iC l (cz (am l)) i=if e.2.1=true then kY (cz (am l)) (aD e.2.2.1) else []:=by have hc:c∈cz (am l):=adg hi;obtain⟨e,h1,h2,h3⟩:=re (dO.2 ((jg _ _).1 hc));refine⟨e,h3,h2,?_⟩;unfold iC;rw[hi];simp only;rw[h1]
theorem CR(i:Nat):(iC l (cz (am l)) i).Nodup:=by
 cases h:(cz (am l))[i]? with
 |none=>unfold iC;rw[h];exact ad3
 | some c=>
   obtain⟨e,_,_,h3⟩:=EE h;rw[h3];split
   . exact CP (eh _) (zH _)
   . exact ad3
theorem EF(i:Nat):∀x∈iC l (cz (am l)) i,x<(cz (am l)).length:=by
 cases h:(cz (am l))[i]? with
 |none=>unfold iC;rw[h];exact fun x hx=>by cases hx
 | some c=>
   obtain⟨e,_,_,h3⟩:=EE h;rw[h3];split
   . exact Ew (eh _) _
   . exact fun x hx=>by cases hx
theorem rk{i:Nat}(hi:(cz (am l))[i]?=some c):∃e∈aS l,e.1=c∧((iC l (cz (am l)) i).map fun x:Nat=>(x:Int)).map (di (cz (am l)))=bJ (aS l) e:=by
 obtain⟨e,h1,h2,h3⟩:=EE hi;refine⟨e,h1,h2,?_⟩;rw[h3];unfold bJ;split
 . rw[CQ (eh _),<-rf];congr 1;funext c;exact(ED c _).symm
 . rfl
variable{y:C3}
theorem zI{i x:Nat}(hi:(cz (am l))[i]?=some c)(hx:(cz (am l))[x]?=some y)(he:e∈aS l)(hec:e.1=c):x∈iC l (cz (am l)) i↔y∈bJ (aS l) e:=by
 obtain⟨e',h1,h2,h3⟩:=rk hi;obtain rfl:=s9 (dy l) h1 he (h2.trans hec.symm);rw[<-h3];constructor
 . intro h;exact ads.2 ⟨(x:Int),ads.2 ⟨x,h,rfl⟩,iE hx⟩
 . intro h;obtain⟨z,hz,hzy⟩:=ads.1 h;obtain⟨x',hx',rfl⟩:=ads.1 hz;have hl:=EF i x' hx';have e1:(cz (am l))[x']?=some y:=by have:=iE (io hl);rw[hzy] at this;rw[this];exact io hl
   have h4:=(iO.1 e1).2;have h5:=(iO.1 hx).2;have:x'=x:=(List.getElem_inj (eh _)).1 (h4.trans h5.symm);rw[<-this];exact hx'
theorem Mt{es:List Int}(h:es.Pairwise (· < ·))(hin:∀y∈es,0<=y∧y.toNat<(cz (am l)).length):gB ae (es.map (di (cz (am l)))):=by rw[gB,afP];refine List.Pairwise.imp_of_mem (fun {a b} ha hb hab=>?_) h;obtain⟨a0,a1⟩:=hin a ha;obtain⟨b0,b1⟩:=hin b hb;obtain⟨i,rfl⟩:=aev a0;obtain⟨j,rfl⟩:=aev b0;rw[tl] at a1 b1;rw[iE (io a1),iE (io b1)];exact(ae9.1 (nc (am l))) i j a1 b1 A0b
theorem zJ{x:Nat}(hx:(cz (am l))[x]?=some y):∃es,(bi l).2.2[x]?=some es∧es.Pairwise (· < ·)∧(∀z∈es,0<=z∧z.toNat<(cz (am l)).length)∧es.map (di (cz (am l)))=readersD (aS l) y:=by
 have hxl:=(iO.1 hx).1;obtain⟨es,h1,h2,h3⟩:=zG l (cz (am l)) CR (cz (am l)).length x hxl;have hin:∀z∈es,0<=z∧z.toNat<(cz (am l)).length:=fun z hz=>by obtain⟨i,rfl,hi,_⟩:=(h3 z).1 hz;rw[tl];exact⟨aeP i,hi⟩
 refine⟨es,h1,h2,hin,l5 bQ (Mt h2 hin) (km (dy l) y) fun c=>?_⟩;rw[kj,ads];constructor
 . rintro⟨z,hz,rfl⟩;obtain⟨i,rfl,hi,hm⟩:=(h3 z).1 hz;have hci:=io hi;obtain⟨e,he,hec,_⟩:=EE hci;exact⟨e,he,by rw[iE hci];exact hec,(zI hci hx he hec).1 hm⟩
 . rintro⟨e,he,rfl,hm⟩;have hmem:e.1∈cz (am l):=by rw[rf];exact ads.2 ⟨e,he,rfl⟩
   obtain⟨i,hi⟩:=aen hmem;exact⟨(i:Int),(h3 _).2 ⟨i,rfl,(iO.1 hi).1,(zI hi hx he rfl).2 hm⟩,iE hi⟩
theorem kU{x:Nat}(hx:(cz (am l))[x]?=some y):∃es,(bi l).2.1[x]?=some es∧(∀z∈es,0<=z∧z.toNat<(cz (am l)).length)∧es.map (di (cz (am l)))=ft (aS l) y:=by
 have hxl:=(iO.1 hx).1;have h1:=zF l (cz (am l)) (cz (am l)).length x hxl;rw[adl hxl] at h1;refine⟨_,h1,fun z hz=>?_,?_⟩
 . obtain⟨i,hi,rfl⟩:=ads.1 hz;rw[tl];exact⟨aeP i,EF x i hi⟩
 . obtain⟨e,he,rfl,h3⟩:=rk hx;rw[h3,jc (dy l) he]
end
section
variable{l:List En}
end
theorem zK{i:Nat}:∀(ps:List Nat) (q:QS),(ps.foldl (dQ i) q).1.length=q.1.length∧(ps.foldl (dQ i) q).2.length=q.2.length
 |[],q=>⟨rfl,rfl⟩
 |x::ps,q=>by obtain⟨h1,h2⟩:=zK (i:=i) ps (dQ i q x);rw[aeh,h1,h2];exact⟨adV ..,adV ..⟩
theorem n8(l:List En)(C:List C3):∀n,(fN l C n).1.length=C.length∧(fN l C n).2.length=C.length
 |0=>⟨aez,aez⟩
 |n+1=>by rw[jj,rh];obtain⟨h1,h2⟩:=zK (i:=n) (iC l C n) (fN l C n);obtain⟨h3,h4⟩:=n8 l C n;exact⟨h1.trans h3,h2.trans h4⟩
theorem CS(hl:l.length<=400)(hc:∀e∈l,lw e.2.2.1<=400):G7 (bi l):=by
 obtain⟨h1,h2⟩:=n8 l (cz (am l)) (cz (am l)).length;obtain⟨b1,b2⟩:=qX (C:=cz (am l)) hc (cz (am l)).length;have h400:=zw hl;refine⟨eh _,h400,h1,h2,fun r hr=>?_,fun r hr=>?_⟩
 . refine⟨by have:=b1 r hr;omega,?_⟩;obtain⟨i,hi⟩:=aen hr;have hil:i<(cz (am l)).length:=by have:=(iO.1 hi).1;exact h1▸this
   obtain⟨es,h3,h4,_⟩:=kU (l:=l) (io hil);rw[h3] at hi;cases hi;exact h4
 . refine⟨by have:=b2 r hr;omega,?_⟩;obtain⟨i,hi⟩:=aen hr;have hil:i<(cz (am l)).length:=by have:=(iO.1 hi).1;exact h2▸this
   obtain⟨es,h3,_,h4,_⟩:=zJ (l:=l) (io hil);rw[h3] at hi;cases hi;exact h4
theorem CT(l:List En)(c:C3):(ft (aS l) c).length<=(aS l).length:=by
 by_cases hc:c∈ay (aS l)
 . obtain⟨e,he,rfl⟩:=ads.1 hc;rw[jc (dy l) he];have:=(mX (qL _ e) (dy l) (fun x hx=>GU hx)).length_le
   rwa [show(ay (aS l)).length=(aS l).length from eq _] at this
 . rw[ta hc];exact adN _
theorem HD(l:List En)(c:C3):(fV (aS l) c).length<=(aS l).length:=by unfold fV;exact adJ (aey _ _) (Nat.le_of_eq (eq _))
