/- Chapter 13: the order in which places are finished, plainly. -/
import Derived.Test.YtmfojhkjbkombaaGreatMKa
import Derived.Test.YtmfojhkjbkombaaGreatMN
import Derived.Test.YtmfojhkjbkombaaGreatMQ
namespace Go.Proofs.YtmfojhkjbkombaaGreat
set_option linter.unusedSimpArgs false
set_option maxHeartbeats 64000000
set_option maxRecDepth 100000
open Go Go.RowKit
attribute [go_sem] Tryz.results19 Tryz.results24 Tryz.results25 Tryz.results36 Tryz.results38 Tryz.results41 Tryz.results55
variable {S:List (List Int)}
theorem ReachI.trans {a b c:Int} (h:ReachI S a b) (k:ReachI S b c):ReachI S a c:=by
 induction k with
 |one e=>exact .step h e
 |step _ e ih=>exact .step ih e
theorem im {l:List Int} {x u:Int} {j:Nat} (h:(l++[x])[j]?=some u):(j<l.length∧l[j]?=some u)∨(j=l.length∧u=x):=by
 rw[abf] at h;split at h
 . rename_i hj;exact .inl ⟨hj,h⟩
 . rename_i hj;have:=(iO.1 h).1;simp at this;have e:j=l.length:=A0b
   subst e;simp at h;exact .inr ⟨rfl,h.symm⟩
structure FI (R:List (List Int)) (n:Nat) (seen:List Bool) (dn path out:List Int):Prop where
 ls:seen.length=n
 ld:dn.length=n
 nd:(out++path).Nodup
 rg:∀x∈out++path,0<=x∧x.toNat<n
 mem:∀x:Int,0<=x->x.toNat<n->(seen[x.toNat]?=some true↔x∈out++path)
 dn:∀x:Int,0<=x->x.toNat<n->∃k:Nat,dn[x.toNat]?=some (k:Int)∧k<=(rowS R x).length∧∀y∈(rowS R x).take k,y∈out++path
 cl:∀x∈out,∀y∈rowS R x,y∈out++path
 ch:path.Pairwise (ReachI R)
 F:∀(i:Nat) x,out[i]?=some x->∀y∈rowS R x,y∈out.take i∨ReachI R y x
 K:∀(j i k:Nat) (u w z:Int),out[j]?=some u->out[i]?=some w->out[k]?=some z->j<i->i<k->ReachI R u z->ReachI R u w
 KI:∀(j i:Nat) (u w z:Int),out[j]?=some u->out[i]?=some w->z∈path->j<i->ReachI R u z->ReachI R u w
structure FinOK (R:List (List Int)) (n:Nat) (out:List Int):Prop where
 nd:out.Nodup
 mem:∀x,x∈out↔0<=x∧x.toNat<n
 F:∀(i:Nat) x,out[i]?=some x->∀y∈rowS R x,y∈out.take i∨ReachI R y x
 K:∀(j i k:Nat) (u w z:Int),out[j]?=some u->out[i]?=some w->out[k]?=some z->j<i->i<k->ReachI R u z->ReachI R u w
theorem FI.zero (R:List (List Int)) (n:Nat):FI R n (List.replicate n false) (List.replicate n 0) [] [] where
 ls:=ZM
 ld:=ZM
 nd:=ZD
 rg:=fun x h=>by cases h
 mem:=fun x h0 h=>⟨fun e=>(by rw[Zl,YG h] at e;cases e),fun h=>A0S ⟩
 dn:=fun x h0 h=>⟨0,(by rw[Zl,YG h];rfl),Zf _,fun y h=>by simp at h⟩
 cl:=fun x h=>by cases h
 ch:= .nil
 F:=fun i x h=>by simp at h
 K:=fun j i k u w z h=>by simp at h
 KI:=fun j i u w z h=>by simp at h
variable {R:List (List Int)} {n:Nat} {seen:List Bool} {dn:List Int}
theorem FI.fin {out:List Int} (h:FI R n seen dn [] out) (ha:∀x:Int,0<=x->x.toNat<n->x∈out):FinOK R n out where
 nd:=by have:=h.nd;rwa [Z9] at this
 mem:=fun x=>⟨fun hx=>h.rg x (Zi _ hx),fun hx=>ha x hx.1 hx.2⟩
 F:=h.F
 K:=h.K
variable {path:List Int}
theorem FI.way {out:List Int} (h:FI R n seen dn path out) {u v:Int} (hu:u∈out) (hr:ReachI R u v):v∈out∨∃z∈path,ReachI R u z:=by
 induction hr with
 | one e=>
   rcases YM.1 (h.cl u hu _ e) with k|k
   . exact .inl k
   . exact .inr ⟨_,k,.one e⟩
 | step hx e ih=>
   rcases ih with k|k
   . rcases YM.1 (h.cl _ k _ e) with k'|k'
     . exact .inl k'
     . exact .inr ⟨_,k',.step hx e⟩
   . exact .inr k
variable {l:Int}
theorem FI.pop {p out:List Int} (h:FI R n seen dn (p++[l]) out) (hd:dn[l.toNat]?=some ((rowS R l).length:Int)):FI R n seen dn p (out++[l]):=by
 have hset:∀x,x∈(out++[l])++p↔x∈out++(p++[l]):=fun x=>by simp only[YM,YF];grind
 obtain⟨hl0,hln⟩:=h.rg l A0j;obtain⟨k,hk1,hk2,hk3⟩:=h.dn l hl0 hln;have hk:k=(rowS R l).length:=by rw[hd] at hk1;cases hk1;omega
 rw[hk,Zy] at hk3;have hch:=ZS.1 h.ch;refine⟨h.ls,h.ld,?_,fun x hx=>h.rg x ((hset x).1 hx),fun x a b=>(h.mem x a b).trans (hset x).symm,fun x a b=>?_,fun x hx y hy=>?_,hch.1,fun i x hi y hy=>?_,fun j i k u w z hj hi hk hji hik hr=>?_,fun j i u w z hj hi hz hji hr=>?_⟩
 . exact(List.Perm.nodup_iff (by rw[Zw];exact List.Perm.append_left _ List.perm_append_comm)).1 h.nd
 . obtain⟨k,a,b,c⟩:=h.dn x a b;exact⟨k,a,b,fun y hy=>(hset y).2 (c y hy)⟩
 . rcases YM.1 hx with hx|hx
   . exact(hset y).2 (h.cl x hx y hy)
   . rw[YF] at hx;subst hx;exact(hset y).2 (hk3 y hy)
 . rcases im hi with⟨hi',gi⟩|⟨rfl,rfl⟩
   . rw[Zx A0b];exact h.F i x gi y hy
   . rw[Zx (YJ _),Zy];have:=hk3 y hy;rw[YM,YM,YF] at this;rcases this with e|e|rfl
     . exact .inl e
     . exact .inr (hch.2.2 y e _ (abu _))
     . exact .inr (.one hy)
 . rcases im hj with⟨hj',gj⟩|⟨rfl,rfl⟩
   . rcases im hi with⟨hi',gi⟩|⟨rfl,rfl⟩
     . rcases im hk with⟨hk',gk⟩|⟨rfl,rfl⟩
       . exact h.K j i k u w z gj gi gk hji hik hr
       . exact h.KI j i u w _ gj gi A0j hji hr
     . have:=(iO.1 hk).1;simp at this;omega
   . have:=(iO.1 hi).1;simp at this;omega
 . rcases im hj with⟨hj',gj⟩|⟨rfl,rfl⟩
   . rcases im hi with⟨hi',gi⟩|⟨rfl,rfl⟩
     . exact h.KI j i u w z gj gi (Zi _ hz) hji hr
     . exact hr.trans (hch.2.2 z hz _ (abu _))
   . have:=(iO.1 hi).1;simp at this;omega
variable {y:Int} {k:Nat}
theorem FI.look {out:List Int} (h:FI R n seen dn path out) (hd:dn[l.toNat]?=some (k:Int)) (hl:0<=l) (hy:(rowS R l)[k]?=some y) (hm:y∈out++path):FI R n seen (dn.set l.toNat ((k:Int)+1)) path out:=by
 refine⟨h.ls,by rw[Za];exact h.ld,h.nd,h.rg,h.mem,fun x a b=>?_,h.cl,h.ch,h.F,h.K,h.KI⟩;obtain⟨k',a',b',c'⟩:=h.dn x a b;by_cases e:l.toNat=x.toNat
 . have e:l=x:=A0b
   subst e;rw[hd] at a';have hk:k=k':=by cases a';rfl
   subst hk;have hkl:=(iO.1 hy).1;refine⟨k+1,?_,hkl,fun z hz=>?_⟩
   . rw[Zg,YG rfl,YG (by rw[h.ld];exact b)];simp
   . rw[aF hy,YM,YF] at hz;rcases hz with hz|rfl
     . exact c' z hz
     . exact hm
 . exact⟨k',by rw[Zg,YL e];exact a',b',c'⟩
theorem FI.push {out:List Int} {v:Int} (h:FI R n seen dn path out) (h0:0<=v) (hn:v.toNat<n) (hs:seen[v.toNat]?=some false) (hr:∀z∈path,ReachI R z v):FI R n (seen.set v.toNat true) dn (path++[v]) out:=by
 have hv:v∉out++path:=fun e=>by rw[(h.mem v h0 hn).2 e] at hs;cases hs
 refine⟨by rw[Za];exact h.ls,h.ld,?_,fun x hx=>?_,fun x a b=>?_,fun x a b=>?_,fun x hx y hy=>?_,?_,h.F,h.K,fun j i u w z hj hi hz hji hr'=>?_⟩
 . rw[<-Zw];exact aaa.2 ⟨h.nd,(Z8 _ _),fun a ha b hb=>by rw[YF] at hb;subst hb;exact fun e=>hv (e▸ha)⟩
 . rw[<-Zw,YM,YF] at hx;rcases hx with hx|rfl
   . exact h.rg x hx
   . exact⟨h0,hn⟩
 . rw[<-Zw,YM,YF,Zg];by_cases e:v.toNat=x.toNat
   . rw[YG e,YG (by rw[h.ls];exact hn)];exact⟨fun _=> .inr A0b,fun _=>rfl⟩
   . rw[YL e,h.mem x a b];exact⟨.inl,fun k=>k.resolve_right fun k=>e (by rw[k])⟩
 . obtain⟨k,a',b',c'⟩:=h.dn x a b;exact⟨k,a',b',fun y hy=>by rw[<-Zw];exact Zi _ (c' y hy)⟩
 . rw[<-Zw];exact Zi _ (h.cl x hx y hy)
 . exact ZS.2 ⟨h.ch,(Z8 _ _),fun a ha b hb=>by rw[YF] at hb;subst hb;exact hr a ha⟩
 . rcases YM.1 hz with hz|hz
   . exact h.KI j i u w z hj hi hz hji hr'
   . rw[YF] at hz;subst hz;rcases h.way (YB hj) hr' with e|⟨z',hz',e⟩
     . exact absurd (Zi _ e) hv
     . exact h.KI j i u w z' hj hi hz' hji e
theorem AY {f g:Nat->Nat} {a:Nat}:∀{l:List Nat},(∀x∈l,g x<=f x)->a∈l->g a+1<=f a->(l.map g).sum+1<=(l.map f).sum
 |[],_,h,_=>by cases h
 | x ::l,hle,ha,hlt=>by
   have hx:=hle x (Zc ..);have hs:(l.map g).sum<=(l.map f).sum:=by
    have:∀{l:List Nat},(∀x∈l,g x<=f x)->(l.map g).sum<=(l.map f).sum:=fun {l}=>by
     induction l with
     |nil=>intro _;simp
     |cons y l ih=>intro h;have:=h y (Zc ..);have:=ih (fun z hz=>h z (YY _ hz));simp only[Y0,List.sum_cons];omega
    exact this (fun z hz=>hle z (YY _ hz))
   simp only[Y0,List.sum_cons];rcases YT.1 ha with rfl|ha
   . omega
   . have:=AY (fun z hz=>hle z (YY _ hz)) ha hlt;omega
def H8 (R:List (List Int)) (n:Nat) (dn:List Int):Nat:=((List.range n).map fun(i:Nat)=>(rowS R (i:Int)).length-(atI dn (i:Int)).toNat).sum
theorem H9 (h0:0<=l) (hn:l.toNat<n) (hd:dn[l.toNat]?=some (k:Int)) (hk:k<(rowS R l).length):H8 R n (dn.set l.toNat ((k:Int)+1))+1<=H8 R n dn:=by
 have hl:=(iO.1 hd).1;have e1:atI (dn.set l.toNat ((k:Int)+1)) (l.toNat:Int)=(k:Int)+1:=eu (by rw[tl,Zg,YG rfl,YG hl]);have e2:atI dn (l.toNat:Int)=(k:Int):=eu (by rw[tl];exact hd);have e3:((l.toNat:Nat):Int)=l:=ZI h0;refine AY (a:=l.toNat) (fun x _=>?_) (Ze.2 hn) ?_
 . by_cases e:x=l.toNat
   . subst e;rw[e1,e2];omega
   . have:atI (dn.set l.toNat ((k:Int)+1)) (x:Int)=atI dn (x:Int):=by unfold atI;rw[tl,Zg,YL (fun h=>e h.symm)]
     rw[this];exact YJ _
 . rw[e1,e2,e3];omega
def SC (R:List (List Int)) (x y:Int):Prop:=x=y∨(ReachI R x y∧ReachI R y x)
theorem SC.refl (x:Int):SC R x x:= .inl rfl
theorem SC.symm {R:List (List Int)} {x y:Int} (h:SC R x y):SC R y x:=h.imp Eq.symm And.symm
theorem SC.trans {x z:Int} (h:SC R x y) (k:SC R y z):SC R x z:=by
 rcases h with rfl|h
 . exact k
 . rcases k with rfl|k
   . exact .inr h
   . exact .inr ⟨h.1.trans k.1,k.2.trans h.2⟩
inductive WU (R:List (List Int)) (P:Int->Prop) (r:Int):Int->Prop
 |refl:WU R P r r
 |step {x y:Int} (hx:P x) (e:y∈rowS R x) (h:WU R P r y):WU R P r x
theorem AZ {l:List Int} (h:l.Nodup) {i j:Nat} {x:Int} (hi:l[i]?=some x) (hj:l[j]?=some x):i=j:=by
 obtain⟨a,b⟩:=iO.1 hi;obtain⟨c,d⟩:=iO.1 hj;rcases Nat.lt_trichotomy i j with e|e|e
 . exact absurd (b.trans d.symm) (aal.1 h i j a c e)
 . exact e
 . exact absurd (d.trans b.symm) (aal.1 h j i c a e)
variable {r:Int}
theorem WU.first {out:List Int} {P:Int->Prop} {x:Int} {i:Nat} (hnd:out.Nodup) (hr:out[k]?=some r) (hP:∀y,P y->∃j,j<=k∧out[j]?=some y) (hik:i<k) {x':Int} (h:WU R P r x'):(∃j,j<=i∧out[j]?=some x')->(x=x'∨ReachI R x x')->
 ∃v w,(x=v∨ReachI R x v)∧w∈rowS R v∧(∃j,j<=i∧out[j]?=some v)∧(∃j,i<j∧j<=k∧out[j]?=some w)∧WU R P r w:=by
 induction h with
 |refl=>rintro⟨j,hj,ho⟩ _;have:=AZ hnd ho hr;omega
 | @step x' y hx e h ih=>
   intro hj hw;have hpy:∃j,j<=k∧out[j]?=some y:=by
    cases h with
    |refl=>exact⟨k,YJ _,hr⟩
    |step hy _ _=>exact hP _ hy
   obtain⟨j,hjk,hjo⟩:=hpy;by_cases hle:j<=i
   . exact ih ⟨j,hle,hjo⟩ (.inr (by
      rcases hw with rfl|hw
      . exact .one e
      . exact .step hw e))
   . exact⟨x',y,hw,e,hj,⟨j,A0b,hjk,hjo⟩,h⟩
theorem FinOK.knot {out:List Int} (hF:FinOK R n out) {P:Int->Prop} {r:Int} {k:Nat} (hr:out[k]?=some r) (hP:∀y,P y->∃j,j<=k∧out[j]?=some y):∀(d i:Nat) (x:Int),k-i<=d->i<=k->out[i]?=some x->WU R P r x->SC R x r:=by
 intro d
 induction d with
 | zero=>
   intro i x hd hi hx _;have:i=k:=A0b
   subst this;rw[hr] at hx;cases hx;exact .refl _
 | succ d ih=>
   intro i x hd hi hx hw;by_cases e:i=k
   . subst e;rw[hr] at hx;cases hx;exact .refl _
   obtain⟨v,w,hxv,hvw,⟨j,hji,hjv⟩,⟨j',hij',hj'k,hjw⟩,hw'⟩:=WU.first (x:=x) hF.nd hr hP A0b hw ⟨i,YJ _,hx⟩ (.inl rfl);have hwv:ReachI R w v:=by
    rcases hF.F j v hjv w hvw with h|h
    . obtain⟨q,hq⟩:=Zo.1 h;have hql:q<j:=by have:=(iO.1 hq).1;rw[YQ] at this;omega
      rw[abq hql] at hq;have:=AZ hF.nd hq hjw;omega
    . exact h
   have hvx:v=x∨ReachI R v x:=by
    by_cases e':j=i
    . subst e';rw[hjv] at hx;cases hx;exact .inl rfl
    . exact .inr (hF.K j i j' v x w hjv hx hjw A0b hij' (.one hvw))
   have h1:SC R x w:= .inr ⟨by
    rcases hxv with rfl|hxv
    . exact .one hvw
    . exact .step hxv hvw,by
    rcases hvx with rfl|hvx
    . exact hwv
    . exact hwv.trans hvx⟩
   exact h1.trans (ih j' w A0b hj'k hjw hw')
def vF (n:Nat) (R S:List (List Int)):Prop:=∀x y:Int,0<=x->x.toNat<n->0<=y->y.toNat<n->(x∈rowS S y↔y∈rowS R x)
def rU (R:List (List Int)) (n:Nat) (x h:Int):Prop:=SC R x h∧(0<=h∧h.toNat<n)∧∀y:Int,0<=y->y.toNat<n->SC R x y->h<=y
def HSt (R:List (List Int)) (n:Nat) (out:List Int) (k:Nat) (L:List Int):Prop:=
 L.length=n∧∀x:Int,0<=x->x.toNat<n->∃h,L[x.toNat]?=some h∧(h= -1↔∀j y,k<=j->out[j]?=some y-> ¬SC R x y)∧(h≠ -1->rU R n x h)
theorem HSt.start {out:List Int} (hk:out.length<=k):HSt R n out k (List.replicate n (-1)):=
 ⟨ZM,fun x h0 hn=>⟨-1,by rw[Zl,YG hn],⟨fun _ j y hj ho=>(by have:=(iO.1 ho).1;omega),fun _=>rfl⟩,fun h=>absurd rfl h⟩⟩
variable {L:List Int}
theorem HSt.same {out:List Int} (h:HSt R n out k L) {x y:Int} (hx:0<=x∧x.toNat<n) (hy:0<=y∧y.toNat<n) (hs:SC R x y) (hl:L[x.toNat]?=some (-1)):L[y.toNat]?=some (-1):=by obtain⟨a,a1,a2,_⟩:=h.2 x hx.1 hx.2;obtain⟨b,b1,b2,_⟩:=h.2 y hy.1 hy.2;rw[hl] at a1;cases a1;rw[b1,b2.2 fun j z hj ho hyz=>a2.1 rfl j z hj ho (hs.trans hyz)]
theorem HSt.skip {out:List Int} (h:HSt R n out (k+1) L) (hr:out[k]?=some r) (hrr:0<=r∧r.toNat<n) (hl:L[r.toNat]?≠some (-1)):HSt R n out k L:=by
 refine⟨h.1,fun x h0 hn=>?_⟩;obtain⟨a,a1,a2,a3⟩:=h.2 x h0 hn;refine⟨a,a1,⟨fun e j y hj ho hs=>?_,fun e=>a2.2 fun j y hj=>e j y A0b ⟩,a3⟩;by_cases ej:j=k
 . subst ej;rw[hr] at ho;cases ho;subst e;exact hl (h.same ⟨h0,hn⟩ hrr hs a1)
 . exact a2.1 e j y A0b ho hs
theorem lw (h:bK n S) {x y:Int} (hy:y∈rowS S x):0<=y∧y.toNat<n:=by
 unfold rowS at hy;cases hs:S[x.toNat]? with
 |none=>rw[hs] at hy;cases hy
 |some l=>rw[hs] at hy;exact(h.2.2 l (YB hs)).2 y hy
theorem Ia (h:bK n R) {x y:Int} (hr:ReachI R x y):0<=y∧y.toNat<n:=by
 cases hr with
 |one e=>exact lw h e
 |step _ e=>exact lw h e
variable {f L1:List Int}
theorem HSt.knot {out:List Int} (hF:FinOK R n out) (hR:bK n R) (hS:bK n S) (hrev:vF n R S) (h:HSt R n out (k+1) L) (hr:out[k]?=some r) (hl:L[r.toNat]?=some (-1)) (hI:HangI S L r f L1) (hc:zb S L1 f):∀x,x∈f↔((0<=x∧x.toNat<n)∧SC R x r):=by
 have hrr:=(hF.mem r).1 (YB hr);have hLn:=h.1;intro x;refine⟨fun hx=>?_,fun⟨hx,hs⟩=>?_⟩
 . obtain⟨hx1,hx2,hx3⟩:=hI.mem x hx;rw[hLn] at hx1;refine⟨hx1,?_⟩;have hP:∀y:Int,((0<=y∧y.toNat<n)∧L[y.toNat]?=some (-1))->∃j,j<=k∧out[j]?=some y:=fun y ⟨hy,hly⟩=>by
    obtain⟨j,hj⟩:=Zo.1 ((hF.mem y).2 hy);refine⟨j,?_,hj⟩;rcases Zu k j with e|e
    . obtain⟨a,a1,a2,_⟩:=h.2 y hy.1 hy.2;rw[hly] at a1;cases a1;exact absurd (SC.refl y) (a2.1 rfl j y e hj)
    . exact e
   have hw:(0<=x∧x.toNat<n)∧WU R (fun y=>(0<=y∧y.toNat<n)∧L[y.toNat]?=some (-1)) r x:=by
    clear hx hx1 hx2
    induction hx3 with
    |refl=>exact⟨hrr,.refl⟩
    | @step x y _ e hn ih=>have hy:=lw hS e;exact⟨hy,.step ⟨hy,hn⟩ ((hrev y x hy.1 hy.2 ih.1.1 ih.1.2).1 e) ih.2⟩
   obtain⟨j,hj,hjo⟩:=hP x ⟨hx1,hx2⟩;exact hF.knot hr hP (k-j) j x (YJ _) hj hjo hw.2
 . have key:∀y z:Int,(0<=y∧y.toNat<n)->SC R y r->z∈f->z∈rowS R y->y∈f:=fun y z hy hsy hz e=>by
    have hz':=(hI.mem z hz).1;rw[hLn] at hz';have h1:=hc z hz y ((hrev y z hy.1 hy.2 hz'.1 hz'.2).2 e);have h2:=hI.val y.toNat;rw[ZI hy.1] at h2;split at h2
    . assumption
    . rw[h2,h.same hrr hy hsy.symm hl] at h1;exact absurd rfl h1
   rcases hs with rfl|⟨h1,h2⟩
   . exact hI.start
   . have all:∀z,ReachI R x z->z∈f->(ReachI R z r∨z=r)->x∈f:=fun z hz=>by
      induction hz with
      |one e=>intro hzf _;exact key x _ hx (.inr ⟨h1,h2⟩) hzf e
      | @step y z hy e ih=>
        intro hzf hzr;have hyr:ReachI R y r:=by
         rcases hzr with hzr|rfl
         . exact(ReachI.one e).trans hzr
         . exact .one e
        exact ih (key y z (Ia hR hy) (.inr ⟨hyr,h2.trans hy⟩) hzf e) (.inl hyr)
     exact all r h1 hI.start (.inr rfl)
theorem HSt.tell {out:List Int} {L2:List Int} {hd:Int} (hF:FinOK R n out) (hR:bK n R) (hS:bK n S) (hrev:vF n R S) (h:HSt R n out (k+1) L) (hr:out[k]?=some r) (hl:L[r.toNat]?=some (-1)) (hI:HangI S L r f L1) (hc:zb S L1 f)
 (hm:hd∈f) (hle:∀x∈f,hd<=x) (h2:∀j:Nat,L2[j]?=if ((j:Nat):Int)∈f then some hd else L[j]?):HSt R n out k L2:=by
 have hk:=HSt.knot hF hR hS hrev h hr hl hI hc;have hrr:=(hF.mem r).1 (YB hr);obtain⟨hd1,hd2⟩:=(hk hd).1 hm;refine⟨?_,fun x h0 hn=>?_⟩
 . rw[<-h.1];have hsame:∀j:Nat,L2[j]?=none↔L[j]?=none:=fun j=>by
    rw[h2];split
    . rename_i hj;have:=((hk _).1 hj).1.2;rw[tl,<-h.1] at this;simp[io this]
    . rfl
   have a:=(hsame L.length).2 A0j;have b:=(hsame L2.length).1 A0j;rw[abm] at a b;omega
 . have h3:=h2 x.toNat;rw[ZI h0] at h3;by_cases hx:x∈f
   . rw[YG hx] at h3;have hxr:=((hk x).1 hx).2;refine⟨hd,h3,⟨fun e=>by omega,fun e=>absurd hxr (e k r (YJ _) hr)⟩,fun _=>⟨hxr.trans hd2.symm,hd1,fun y y0 yn hs=>hle y ((hk y).2 ⟨⟨y0,yn⟩,hs.symm.trans hxr⟩)⟩⟩
   . rw[YL hx] at h3;obtain⟨a,a1,a2,a3⟩:=h.2 x h0 hn;refine⟨a,h3.trans a1,⟨fun e j y hj ho hs=>?_,fun e=>a2.2 fun j y hj=>e j y A0b ⟩,a3⟩;by_cases ej:j=k
     . subst ej;rw[hr] at ho;cases ho;exact hx ((hk x).2 ⟨⟨h0,hn⟩,hs⟩)
     . exact a2.1 e j y A0b ho hs
theorem HSt.done {out:List Int} (hF:FinOK R n out) (h:HSt R n out 0 L):L.length=n∧∀x:Int,0<=x->x.toNat<n->∃hd,L[x.toNat]?=some hd∧rU R n x hd:=by refine⟨h.1,fun x h0 hn=>?_⟩;obtain⟨a,a1,a2,a3⟩:=h.2 x h0 hn;obtain⟨j,hj⟩:=Zo.1 ((hF.mem x).2 ⟨h0,hn⟩);exact⟨a,a1,a3 fun e=>a2.1 e j x (Zf _) hj (SC.refl x)⟩
def mer (H Hn:HH):HH:=fun y=>match H y with
 |some ob=>some ob
 |none=>Hn y
def Dis (H Hn:HH):Prop:=∀y,Hn y≠none->H y=none
variable {H Hn:HH}
theorem fV {y:Nat} (h:H y=none):mer H Hn y=Hn y:=by unfold mer;rw[h]
theorem lx (hd:Dis H Hn) {g:Nat} {ob:Obj} (h:Hn g=some ob):mer H Hn g=some ob:=by rw[fV (hd g (by rw[h];simp)),h]
variable {g:Nat}
theorem Lp {ob:Obj} (h:H g=some ob):mer H Hn g=some ob:=by unfold mer;rw[h]
theorem gH (h:mer H Hn g=none):H g=none∧Hn g=none:=by
 unfold mer at h;split at h
 . cases h
 . exact⟨by assumption,h⟩
theorem bZ {o:Option Obj} (h:H g=none):upd (mer H Hn) g o=mer H (upd Hn g o):=by
 funext y;by_cases e:y=g
 . subst e;rw[aj,fV h,aj]
 . rw[ag _ _ e];unfold mer;rw[ag _ _ e]
theorem Dis.upd (hd:Dis H Hn) {g:Nat} {o:Option Obj} (h:H g=none):Dis H (upd Hn g o):=fun y hy=>by
 by_cases e:y=g
 . rw[e];exact h
 . rw[ag _ _ e] at hy;exact hd y hy
theorem Dis.empty (H:HH):Dis H (fun _=>none):=fun _ h=>absurd rfl h
theorem gI (H:HH):mer H (fun _=>none)=H:=by funext y;unfold mer;cases H y<;>rfl
theorem RowJ.mer (hd:Dis H Hn) {v:Value} {es:List Int} (h:RowJ Hn v es):RowJ (mer H Hn) v es:=h.imp id fun⟨g,cap,cur,ty,h1,h2,h3⟩=>⟨g,cap,cur,ty,h1,lx hd h2,h3⟩
theorem RowJ.of_mer {v:Value} {es:List Int} (h:RowJ (Go.Proofs.YtmfojhkjbkombaaGreat.mer H Hn) v es) (hb:∀g,blkOf v=some g->H g=none):RowJ Hn v es:=by
 rcases h with h|⟨g,cap,cur,ty,rfl,h2,h3⟩
 . exact .inl h
 . exact .inr ⟨g,cap,cur,ty,rfl,by rw[<-h2,fV (hb g rfl)],h3⟩
theorem kG {r u:V} {T:V->HH->Prop} (hrd:∀m w v,(∀g ob,Hn g=some ob->w.heap[g]?=some ob)->(∀g,Hn g≠none->m g=none)->Rd m w v r->Rd m w v u) (hd:Dis H Hn) (hT:T u H):G4 r (mer H Hn) T:=by
 refine⟨fun y=>(H y).isNone,u,fun m w v h1 h2 h3=>hrd m w v (fun g ob hg=>h1 g ob (lx hd hg)) (fun g hg=>?_) h3,?_⟩
 . have hn:=hd g hg;exact h2 g (by simp[hn]) (by rw[fV hn];exact hg)
 . have e:(fun g=>if (H g).isNone=true then none else mer H Hn g)=H:=by
    funext g;cases hg:H g with
    |none=>simp
    |some ob=>simp[Lp hg]
   rw[e];exact hT
def m1 (h:List Int) (M:List (List Int)) (p:Nat):List (List Int):=M.set (atI h (p:Int)).toNat (rowZ M (atI h (p:Int))++[(p:Int)])
def dX (h:List Int) (n:Nat):List (List Int):=(List.range n).foldl (m1 h) (List.replicate h.length [])
theorem jk (h:List Int) (i:Nat):dX h (i+1)=m1 h (dX h i) i:=by unfold dX;rw[aaC,aan];rfl
theorem fC (h:List Int) (i:Nat):(dX h i).length=h.length:=by
 induction i with
 |zero=>simp[dX]
 |succ i ih=>rw[jk];unfold m1;rw[Za];exact ih
theorem Ib (h:List Int) (i:Nat):∀r∈dX h i,r.length<=i:=by
 induction i with
 |zero=>intro r hr;simp[dX] at hr;rw[hr.2];simp
 | succ i ih=>
   intro r hr;rw[jk] at hr;rcases aaT hr with hr|rfl
   . have:=ih r hr;omega
   . rw[YD,Zv];unfold rowZ;cases e:(dX h i)[(atI h (i:Int)).toNat]? with
     |none=>simp
     |some r=>have:=ih r (YB e);simpa using this
def Tf (us:List V) (H:HH) (T:V->HH->Prop):Prop:=∃hs,us=[.sl false 1 (hs.map aq) none]∧hs.length<=400∧(∀x∈hs,0<=x∧x.toNat<hs.length)∧T (.sl false 1 ((dX hs hs.length).map rI) none) H
theorem vG:cn (bP [] [] [] (fun _=>false) (fun _=>false)) 19 Tf:=by
 refine kA (F:={F:=fun _=>none,D:=fun d=>d==8}) (n:=28) (k:=1) (bw [] [] [] _ _ trivial trivial trivial) A0a (fun f C e=>by cases e) (fun t s C e=>by cases e) Tryz.func19 rfl (fun a w=>Tryz.call19 a w) Tryz.ntmps19 A0c A0c A0a ?_;rintro us H T ⟨hs,rfl,hn4,hh,hT⟩ hdat;clear hdat;refine⟨rfl,?_⟩;have z49:o5 Tryz.prog 52=some 1:=A0a
 have m49:KW Tryz.prog 52=some (41,1,24,.slice none 0 0):=A0a
 have ha:GV Tryz.prog 41=true:=A0a
 have l1:((24:Nat):Int)*(hs.length:Int)<=281474976710656:=A0b
 have l2:(hs.length:Int)<=9223372036854775807:=A0b
 have l3:(0:Int)<=(hs.length:Int):=A0b
 simp +decide (maxDischargeDepth:=200) only[go_sem,Nat.reduceBEq,m49,z49,eq,l1,l2,l3,tl,YP];intro g hg;refine bp (X:={i:Nat//i<=hs.length}) (fun i=>[(3,.x (.slice (some ⟨g,0,none⟩) hs.length hs.length)),(9,.sl false 1 (hs.map aq) none),(10,aq (hs.length:Int)),(11,aq ((i.1:Nat):Int))]) (fun _=>[]) (fun i H'=>∃vs Hn,H'=mer H Hn∧Dis H Hn∧Hn g=some (rowO vs 41)∧Piles Hn vs (dX hs i.1) [g]) (fun i=>hs.length-i.1) ⟨0,Zf _⟩ A0d A0d ⟨List.replicate hs.length (.slice none 0 0),upd (fun _=>none) g (some (rowO (List.replicate hs.length (.slice none 0 0)) 41)),by rw[<-bZ hg,gI],(Dis.empty H).upd hg,aj _ _ _,⟨by simp[dX],fun i v es hv he=>?_,fun i j v v' b _ hv _ hb=>?_,fun i v b hv hb=>?_⟩⟩ ?_
 . rw[Zl] at hv;simp only[dX,List.range_zero,aaI,Zl] at he;split at hv<;>cases hv;split at he<;>cases he<;>exact .inl ⟨rfl,rfl⟩
 . rw[Zl] at hv;split at hv<;>cases hv;cases hb
 . rw[Zl] at hv;split at hv<;>cases hv;cases hb
 rintro⟨i,hi⟩ H1 ⟨vs,Hn,rfl,hd,hgn,hpl⟩;simp only at hi hgn hpl⊢;have hvl:vs.length=hs.length:=by rw[hpl.len,fC]
 by_cases hil:i<hs.length
 case neg=>
  obtain rfl:i=hs.length:=A0b
  have d1:decide ((hs.length:Int)<(hs.length:Int))=false:=YA A0b;simp +decide (maxDischargeDepth:=200) only[go_sem,Nat.reduceBEq,eq,d1];refine kG (fun m w v h1 h2 h3=>?_) hd hT;rw[Rd.x_iff.1 h3];exact gG (ty:=41) hgn hpl.row hvl (fC _ _) h1 h2
 have d1:decide ((i:Int)<(hs.length:Int))=true:=Yz A0b;have d2:(0:Int)<=(i:Int):=A0b
 have d3:(i:Int)<(hs.length:Int):=A0b
 have d4:=aD (i:=i) A0b;have q1:hs[i]?=some hs[i]:=io hil;have q2:(hs.map aq)[((i:Nat):Int).toNat]?=some (aq hs[i]):=by rw[tl,Io,q1];rfl
 have qm:hs[i]∈hs:=Y5 hil;generalize hs[i]=a at q1 q2 qm;obtain⟨a0,al⟩:=hh a qm;have a1:a<(hs.length:Int):=A0b
 have hai:atI hs (i:Int)=a:=eS q1;have c1:=aU (lx hd hgn);obtain⟨v,hv⟩:∃v,vs[a.toNat]?=some v:=⟨_,io A0b ⟩;obtain⟨es,hes⟩:∃es,(dX hs i)[a.toNat]?=some es:=⟨_,io (by rw[fC];exact al)⟩;have hrow:=hpl.row _ v es hv hes;have p1:(vs.map V.x)[a.toNat]?=some (.x v):=by rw[Io,hv];rfl
 have hrl:=Ib hs i es (YB hes);simp +decide (maxDischargeDepth:=200) only[go_sem,Nat.reduceBEq,eq,d1,d2,d3,q2,z49,a0,a1,c1,p1,ha,YC,YP];refine⟨es,hrow.j.mer hd,A0b,fun v' g' ob hb hgg hr'=>?_⟩;have hg'n:blkOf v=some g'∨Hn g'=none:=hgg.imp id fun h=>(gH h).2
 have hgH:H g'=none:=by
  rcases hgg with h|h
  . exact hd g' (hrow.blk h)
  . exact(gH h).1
 rw[bZ hgH] at hr'⊢;have hd2:=hd.upd (o:=some ob) hgH;have hr2:RowI (upd Hn g' (some ob)) v' (es++[(i:Int)]):=(hr'.of_mer (fun y hy=>by rw[hb] at hy;cases hy;exact hgH)).i A0j;have hne:g'≠g:=by
  rintro rfl;rcases hg'n with h|h
  . exact hpl.out _ v _ hv h (YF.2 rfl)
  . rw[hgn] at h;cases h
 have hpl2:=hpl.set hv (fun x hx=>by rw[YF.1 hx,hgn];simp) hb hg'n hr2;have hgn2:upd Hn g' (some ob) g=some (rowO vs 41):=by rw[ag _ _ (ZY hne)];exact hgn
 have c2:=aU (lx hd2 hgn2);have x1:=kD hr2.j.one;have a2:a.toNat+1<=vs.length:=A0b
 have hsp:eR vs a.toNat [v']=vs.set a.toNat v':=cE _ _ _ A0b;simp +decide (maxDischargeDepth:=200) only[go_sem,Nat.reduceBEq,eq,z49,a0,a1,a2,c2,x1,hsp,d4,YC,YP];have hm:dX hs (i+1)=(dX hs i).set a.toNat (es++[(i:Int)]):=by rw[jk];unfold m1 rowZ;rw[hai,hes];rfl
 refine⟨⟨i+1,hil⟩,⟨?_,?_,vs.set a.toNat v',upd (upd Hn g' (some ob)) g (some (rowO (vs.set a.toNat v') 41)),bZ hg,hd2.upd hg,aj _ _ _,?_⟩,by simp only;omega⟩
 . simp +decide (maxDischargeDepth:=200) only[go_sem,Nat.reduceBEq]
 . simp +decide (maxDischargeDepth:=200) only[go_sem,Nat.reduceBEq]
 . simp only[hm];exact hpl2.other (YF.2 rfl)
def f1 (h:List Int) (a:Int) (q:List Int×List Int) (r:Int):List Int×List Int:=if atI h r=a then q else (q.1.set (atI h r).toNat (atI q.1 (atI h r)-1),if atI q.1 (atI h r)-1=0 then q.2++[atI h r] else q.2)
theorem Mj (h:List Int) (a:Int) (q:List Int×List Int) (r:Int):f1 h a q r=if atI h r=a then q else (q.1.set (atI h r).toNat (atI q.1 (atI h r)-1),if atI q.1 (atI h r)-1=0 then q.2++[atI h r] else q.2):=rfl
def Ic (S:List (List Int)) (h:List Int) (q:List Int×List Int) (p:Int):List Int×List Int:=(rowZ S p).foldl (f1 h (atI h p)) q
def co (S:List (List Int)) (h W ps:List Int):List Int×List Int:=ps.foldl (Ic S h) (W,[])
def okFr (n m:Nat) (q:List Int×List Int):Prop:=q.1.length=n∧(∀x∈q.1,-(m:Int)<=x∧x<=100000000000)∧q.2.length<=m
theorem okFr.mono {m m':Nat} {q:List Int×List Int} (h:okFr n m q) (hm:m<=m'):okFr n m' q:=⟨h.1,fun x hx=>by have:=h.2.1 x hx;omega,Y6 h.2.2 hm⟩
def Ie (us:List V) (H:HH) (T:V->HH->Prop):Prop:=∃C R S hs ps W g ty,us=[gD C R S,.sl false 1 (ps.map aq) none,.sl false 1 (hs.map aq) none,.x (.slice (some ⟨g,0,none⟩) hs.length hs.length)]∧bK hs.length S∧(∀x∈hs,0<=x∧x.toNat<hs.length)∧(∀x∈ps,0<=x∧x.toNat<hs.length)∧ps.length<=400∧W.length=hs.length∧(∀x∈W,0<=x∧x<=100000000000)∧H g=some (rowO (W.map iv) ty)∧
 ∀b z,((co S hs W ps).2≠[]->b=false∧z=1)->T (.sl b z ((co S hs W ps).2.map aq) none) (upd H g (some (rowO ((co S hs W ps).1.map iv) ty)))
theorem DN:cn (bP [] [] [] (fun _=>false) (fun _=>false)) 25 Ie:=by
 refine cg (F:={F:=fun _=>none,D:=fun _=>false}) (n:=59) (k:=4) (bw [] [] [] _ _ trivial trivial trivial) A0a (fun f C e=>by cases e) (fun t s C e=>by cases e) Tryz.func25 rfl (fun a w=>Tryz.call25 a w) Tryz.ntmps25 A0c A0c A0a ?_;rintro us H T ⟨C,R,S,hs,ps,W0,g,ty,rfl,⟨hSl,hn4,hS⟩,hh,hps,hpl,hWl,hW0,hH,hT⟩ hdat;clear hdat;refine⟨rfl,?_⟩;have z52:o5 Tryz.prog 41=some 1:=A0a
 simp only[gD];simp +decide (maxDischargeDepth:=200) only[go_sem,Nat.reduceBEq,eq];refine k9 9 1 55 A0H ?_;refine bp (X:={i:Nat//i<=ps.length∧okFr hs.length (i*100000000) (co S hs W0 (ps.take i))}) (fun i=>[(2,.sl false 1 (hs.map aq) none),(3,.x (.slice (some ⟨g,0,none⟩) hs.length hs.length)),(4,.ptr 4 0),(9,.sl ((co S hs W0 (ps.take i.1)).2.map aq).isEmpty 1 ((co S hs W0 (ps.take i.1)).2.map aq) (some 55)),(15,.sl false 1 (ps.map aq) none),(16,aq (ps.length:Int)),(17,aq ((i.1:Nat):Int))]) (fun _=>[(4,[.sl false 3 (C.map aa) none,.sl false 1 (R.map rI) none,.sl false 1 (S.map rI) none])]) (fun i H'=>H'=upd H g (some (rowO ((co S hs W0 (ps.take i.1)).1.map iv) ty))) (fun i=>ps.length-i.1) ⟨0,Zf _,by simpa[co] using hWl,fun x hx=>by simp only[co,ZA,aaI] at hx;have:=hW0 x hx;omega,by simp[co]⟩ A0d A0d ?_ ?_
 . show H=_;funext y;rw[aE];split
   . rename_i e;rw[e];simpa[co] using hH
   . rfl
 rintro⟨i,hi,hW⟩ H1 rfl;simp only at hi hW⊢;by_cases hil:i<ps.length
 case neg=>have d1:decide ((i:Int)<(ps.length:Int))=false:=YA A0b;rw[YS A0b];simp +decide (maxDischargeDepth:=200) only[go_sem,Nat.reduceBEq,eq,d1];exact hT _ _ (fun h=>⟨by cases e:(co S hs W0 ps).2 with|nil=>exact absurd e h|cons _ _=>rfl,rfl⟩)
 have d1:decide ((i:Int)<(ps.length:Int))=true:=Yz A0b;have d2:(0:Int)<=(i:Int):=A0b
 have d3:(i:Int)<(ps.length:Int):=A0b
 have d4:=aD (i:=i) A0b;have q1:ps[i]?=some ps[i]:=io hil;have q2:(ps.map aq)[((i:Nat):Int).toNat]?=some (aq ps[i]):=by rw[tl,Io,q1];rfl
 have qm:ps[i]∈ps:=Y5 hil;generalize ps[i]=p at q1 q2 qm;obtain⟨p0,pl⟩:=hps p qm;have i2:p<(S.length:Int):=A0b
 obtain⟨rs,hrsr⟩:∃rs,S[p.toNat]?=some rs:=⟨_,io A0b ⟩;obtain⟨br,zr,hbzr,hzr⟩:∃b z,rI rs= .sl b z (rs.map aq) none∧(rs≠[]->z=1):=qi rs;have arr:(S.map rI)[p.toNat]?=some (.sl br zr (rs.map aq) none):=by rw[Io,hrsr,<-hbzr];rfl
 obtain⟨hr8,hrr⟩:=hS rs (YB hrsr);have hrz:rowZ S p=rs:=by unfold rowZ;rw[hrsr];rfl
 obtain⟨a,ha⟩:∃a,hs[p.toNat]?=some a:=⟨_,io pl⟩;have hai:atI hs p=a:=eu ha;have hap:(hs.map aq)[p.toNat]?=some (aq a):=by rw[Io,ha];rfl
 have p1:p<(hs.length:Int):=A0b
 have hstep:co S hs W0 (ps.take (i+1))=rs.foldl (f1 hs a) (co S hs W0 (ps.take i)):=by unfold co;rw[aF q1,aan];show Ic S hs _ p=_;unfold Ic;rw[hrz,hai]
 generalize co S hs W0 (ps.take i)=Q at hW hstep⊢;simp +decide (maxDischargeDepth:=200) only[go_sem,Nat.reduceBEq,eq,d1,d2,d3,q2,p0,i2,arr];refine bp (X:={k:Nat//k<=rs.length∧okFr hs.length (i*100000000+k) ((rs.take k).foldl (f1 hs a) Q)}) (fun k=>[(2,.sl false 1 (hs.map aq) none),(3,.x (.slice (some ⟨g,0,none⟩) hs.length hs.length)),(4,.ptr 4 0),(9,.sl (((rs.take k.1).foldl (f1 hs a) Q).2.map aq).isEmpty 1 (((rs.take k.1).foldl (f1 hs a) Q).2.map aq) (some 55)),(11,aq p),(15,.sl false 1 (ps.map aq) none),(16,aq (ps.length:Int)),(17,aq (i:Int)),(25,.sl br zr (rs.map aq) none),(26,aq (rs.length:Int)),(27,aq ((k.1:Nat):Int))]) (fun _=>[(4,[.sl false 3 (C.map aa) none,.sl false 1 (R.map rI) none,.sl false 1 (S.map rI) none])]) (fun k H'=>H'=upd H g (some (rowO (((rs.take k.1).foldl (f1 hs a) Q).1.map iv) ty))) (fun k=>rs.length-k.1) ⟨0,Zf _,by simpa using hW⟩ A0d A0d A0j ?_;rintro⟨k,hk,hW1⟩ H1 rfl;simp only at hk hW1⊢;by_cases hkl:k<rs.length
 case neg=>
  have e1:decide ((k:Int)<(rs.length:Int))=false:=YA A0b;rw[YS A0b] at hW1⊢;rw[<-hstep] at hW1⊢;simp +decide (maxDischargeDepth:=200) only[go_sem,Nat.reduceBEq,eq,e1,d4];refine⟨⟨i+1,hil,hW1.mono A0b ⟩,⟨?_,?_,rfl⟩,by simp only;omega⟩
  . simp +decide (maxDischargeDepth:=200) only[go_sem,Nat.reduceBEq]
  . simp +decide (maxDischargeDepth:=200) only[go_sem,Nat.reduceBEq]
 obtain rfl:=hzr (fun h=>by rw[h] at hkl;cases hkl);have e1:decide ((k:Int)<(rs.length:Int))=true:=Yz A0b;have e2:(0:Int)<=(k:Int):=A0b
 have e3:(k:Int)<(rs.length:Int):=A0b
 have e4:=aD (i:=k) A0b;have s1:rs[k]?=some rs[k]:=io hkl;have s2:(rs.map aq)[((k:Nat):Int).toNat]?=some (aq rs[k]):=by rw[tl,Io,s1];rfl
 have sm:rs[k]∈rs:=Y5 hkl;generalize rs[k]=r at s1 s2 sm;obtain⟨r0,rl⟩:=hrr r sm;have r2:r<(hs.length:Int):=A0b
 obtain⟨y,hy⟩:∃y,hs[r.toNat]?=some y:=⟨_,io rl⟩;have p4:(hs.map aq)[r.toNat]?=some (aq y):=by rw[Io,hy];rfl
 obtain⟨y0,yl⟩:=hh y (YB hy);have y2:y<(hs.length:Int):=A0b
 have hst:(rs.take (k+1)).foldl (f1 hs a) Q=f1 hs a ((rs.take k).foldl (f1 hs a) Q) r:=by rw[aF s1,aan];rfl
 generalize (rs.take k).foldl (f1 hs a) Q=q at hW1 hst⊢;obtain⟨W,out⟩:=q;rw[Mj,eu hy] at hst;simp only at hW1 hst⊢;by_cases hya:y=a
 . rw[YG hya] at hst;have e5:decide (y=a)=true:=Yz hya;simp +decide (maxDischargeDepth:=200) only[go_sem,Nat.reduceBEq,eq,e1,e2,e3,e4,s2,p4,p0,p1,hap,r0,r2,e5];refine⟨⟨k+1,hkl,by rw[hst];exact hW1.mono A0b ⟩,⟨?_,?_,by simp only[hst]⟩,by simp only;omega⟩
   . simp +decide (maxDischargeDepth:=200) only[go_sem,Nat.reduceBEq,hst]
   . simp +decide (maxDischargeDepth:=200) only[go_sem,Nat.reduceBEq]
 rw[YL hya] at hst;have e5:decide (y=a)=false:=YA hya;have yW:y.toNat<W.length:=by rw[hW1.1];exact yl
 obtain⟨v,hv⟩:∃v,W[y.toNat]?=some v:=⟨_,io yW⟩;rw[eu hv] at hst;obtain⟨v0,v1⟩:=hW1.2.1 v (YB hv);have hol:=hW1.2.2;simp only at v0 v1 hol;have v2:aw .i64 (v-1)=v-1:=ak A0h;have c1:=aU (H:=upd H g (some (rowO (W.map iv) ty))) (aj _ _ _);have p5:((W.map iv).map V.x)[y.toNat]?=some (aq v):=by rw[ZT,Io,hv];rfl
 have y3:y.toNat+1<=W.length:=yW;have hsp:eR (W.map iv) y.toNat [.int .i64 (v-1)]=(W.set y.toNat (v-1)).map iv:=by rw[cE _ _ _ (by rw[eq];exact yW),aaR]
 have c2:=aU (H:=upd H g (some (rowO ((W.set y.toNat (v-1)).map iv) ty))) (aj _ _ _);have p6:(((W.set y.toNat (v-1)).map iv).map V.x)[y.toNat]?=some (aq (v-1)):=by rw[ZT,Io,Zg,YG rfl,YG yW];rfl
 have hok:∀o:List Int,o.length<=i*100000000+(k+1)->okFr hs.length (i*100000000+(k+1)) (W.set y.toNat (v-1),o):=fun o ho=>by
  refine⟨by rw[Za];exact hW1.1,fun x hx=>?_,ho⟩;rcases aaT hx with hx|rfl
  . have:=hW1.2.1 x hx;omega
  . omega
 by_cases hz:v-1=0
 case neg=>
  rw[YL hz] at hst;have e6:decide (v-1=0)=false:=YA hz;simp +decide (maxDischargeDepth:=200) only[go_sem,Nat.reduceBEq,z52,YP,YC,eq,e1,e2,e3,e4,s2,p4,p0,p1,hap,p5,p6,r0,r2,y0,y2,y3,e5,e6,c1,c2,v2,hsp,fa];refine⟨⟨k+1,hkl,by rw[hst];exact hok _ A0b ⟩,⟨?_,?_,by simp only[hst]⟩,by simp only;omega⟩
  . simp +decide (maxDischargeDepth:=200) only[go_sem,Nat.reduceBEq,hst]
  . simp +decide (maxDischargeDepth:=200) only[go_sem,Nat.reduceBEq]
 rw[YG hz] at hst;have e6:decide (v-1=0)=true:=Yz hz;have g1:=cZ (E:=(bP [] [] [] (fun _=>false) (fun _=>false))) (el:=3) (n:=1) OT OU OV A0c rfl (es:=out.map aq) (v:=aq y) rfl A0v A0v;simp +decide (maxDischargeDepth:=200) only[go_sem,Nat.reduceBEq,z52,YP,YC,eq,e1,e2,e3,e4,s2,p4,p0,p1,hap,p5,p6,r0,r2,y0,y2,y3,e5,e6,c1,c2,v2,hsp,g1,fa];refine⟨⟨k+1,hkl,by rw[hst];exact hok _ (by rw[YD,Zv];omega)⟩,⟨?_,?_,by simp only[hst]⟩,by simp only;omega⟩
 . have hem:((out++[y]).map aq).isEmpty=false:=by cases out<;>rfl
   simp +decide (maxDischargeDepth:=200) only[go_sem,Nat.reduceBEq,hst,hem,Y4]
 . simp +decide (maxDischargeDepth:=200) only[go_sem,Nat.reduceBEq]
def kH (H:HH) (gs gd:Nat) (seen:List Bool) (dn:List Int):HH:=mer H (upd (upd (fun _=>none) gs (some (rowO (seen.map Value.bool) 4))) gd (some (rowO (dn.map iv) 3)))
section
variable {H:HH} {gs gd:Nat} {seen seen':List Bool} {dn dn':List Int}
theorem If (hs:H gs=none) (hne:gs≠gd):kH H gs gd seen dn gs=some (rowO (seen.map Value.bool) 4):=by unfold kH;rw[fV hs,ag _ _ hne,aj]
theorem Oe (hd:H gd=none):kH H gs gd seen dn gd=some (rowO (dn.map iv) 3):=by unfold kH;rw[fV hd,aj]
theorem A0 (hs:H gs=none) (hne:gs≠gd):upd (kH H gs gd seen dn) gs (some (rowO (seen'.map Value.bool) 4))=kH H gs gd seen' dn:=by
 unfold kH;rw[bZ hs];congr 1;funext y;simp only[aE];by_cases e:y=gs
 . subst e;simp only[YG,YL hne]
 . simp only[YL e]
theorem Lq (hd:H gd=none):upd (kH H gs gd seen dn) gd (some (rowO (dn'.map iv) 3))=kH H gs gd seen dn':=by unfold kH;rw[bZ hd,fa]
end
theorem Lr {A:List Int} {G:List V} {i:Nat} {x:Int} (h:A[i]?=some x):(A.map aq++G)[i]?=some (aq x):=by have hi:=(iO.1 h).1;rw[YN (by rw[eq];exact hi),Io,h];rfl
theorem Lt {E:Env} {el by':Nat} {z:List V} (h1:bm E.P el=some n) (hby:bT E.P el=some by') (hz:ay E.P el=some z) (h4:n≠0) (h5:z.length=n) {es:List V} {v:V} (hc:v.cells.all V.cell=true) (hb:(es.length+1)*by'<=140737488355328) (hl:es.length+1<=9223372036854775807) (st:St) (d tok:Nat) (nl:Bool) (t':Option Nat):
 bq E st (some d) el (.sl false n es (some tok)) (.sl nl n [v] t')=some ⟨upd (strip tok (strip d st.t)) d (.sl false n (es++[v]) (some d)),aB E tok (aB E d st.b)⟩:=by
 unfold bq;simp only[h1,hby,hz];rw[YG ⟨h4,h5,trivial,.inl trivial,by simp only[ZB,hc,abB,aaq],hb,hl⟩]
def Tg (gd n:Nat) (R:List (List Int)) (rs:List Int) (b:Bool) (z:Nat) (l:Int) (k:Nat):Nat->V
 |46=> .x (.slice (some ⟨gd,0,none⟩) n n)
 |47=>aq l
 |48=> .x (.pointer (some ⟨gd,l.toNat,none⟩))
 |49=>aq (k:Int)
 |50=> .ptr 1 1
 |51=> .sl false 1 (R.map rI) none
 |52=>aq l
 |53=> .ip [.sl b z (rs.map aq) none]
 |54=> .sl b z (rs.map aq) none
 |55=>aq (rs.length:Int)
 |56=> .x (.bool (decide ((k:Int)=(rs.length:Int))))
 |_=> .undef
def Th (gd n:Nat) (R:List (List Int)) (rs:List Int) (b:Bool) (l y:Int) (k:Nat):Nat->V
 |66=> .ptr 1 1
 |67=> .sl false 1 (R.map rI) none
 |68=>aq l
 |69=> .ip [.sl b 1 (rs.map aq) none]
 |70=> .sl b 1 (rs.map aq) none
 |71=> .x (.slice (some ⟨gd,0,none⟩) n n)
 |72=>aq l
 |73=> .x (.pointer (some ⟨gd,l.toNat,none⟩))
 |74=>aq (k:Int)
 |75=> .ip [aq y]
 |76=>aq y
 |9=>aq y
 |_=> .undef
def Ti (n gs gd:Nat) (ot o:List Int) (i tk nm:Nat) (l:Int):List (Nat×V):=[(1,.ptr 1 0),(3,.x (.slice (some ⟨gs,0,none⟩) n n)),(4,.x (.slice (some ⟨gd,0,none⟩) n n)),(5,.sl false 1 (ot.map aq) (some tk)),(7,.row nm 1 (o.length+1)),(8,aq l),(24,aq (n:Int)),(25,aq (i:Int))]
def Tj (us:List V) (H:HH) (T:V->HH->Prop):Prop:=∃C R S,us=[gD C R S]∧bK C.length R∧∀out,FinOK R C.length out->T (.sl false 1 (out.map aq) none) H
theorem Lu:cn (eY [] (fun d=>d==36)) 36 Tj:=by
 refine kA (F:={F:=fun _=>none,D:=fun d=>d==13||d==17,any:=fun d=>d==12||d==15}) (n:=97) (k:=1) (Ak [] _ trivial) A0a (fun f C e=>by cases e) (fun t s C e=>by cases e) Tryz.func36 rfl (fun a w=>Tryz.call36 a w) Tryz.ntmps36 A0c A0c A0a ?_;rintro us H T ⟨C,R,S,rfl,⟨hRl,hn4,hR⟩,hT⟩ hdat;clear hdat;refine⟨rfl,?_⟩;simp only[gD];have m131:KW Tryz.prog 101=some (4,1,1,.bool false):=A0a
 have m52:KW Tryz.prog 41=some (3,1,8,.int .i64 0):=A0a
 have z52:o5 Tryz.prog 41=some 1:=A0a
 have z131:o5 Tryz.prog 101=some 1:=A0a
 have l1:((8:Nat):Int)*(C.length:Int)<=281474976710656:=A0b
 have l0:((1:Nat):Int)*(C.length:Int)<=281474976710656:=A0b
 have l2:(C.length:Int)<=9223372036854775807:=A0b
 have l3:(0:Int)<=(C.length:Int):=A0b
 have l4:(C.length:Int)*8<=281474976710656:=A0b
 simp +decide (maxDischargeDepth:=200) only[go_sem,Nat.reduceBEq,m131,m52,z52,z131,eq,l0,l1,l2,l3,l4,tl,YP];intro gs hs gd hd0;have hne:gs≠gd:=fun e=>by rw[YG e.symm] at hd0;cases hd0
 have hd:H gd=none:=by rwa [YL (ZY hne)] at hd0
 have hH0:upd (upd H gs (some (rowO (List.replicate C.length (Value.bool false)) 4))) gd (some (rowO (List.replicate C.length (Value.int IntKind.i64 0)) 3))=kH H gs gd (List.replicate C.length false) (List.replicate C.length 0):=by unfold kH;rw[<-bZ hd,<-bZ hs,gI,List.map_replicate,List.map_replicate]
 refine bp (X:={q:Nat×(List Bool×List Int×List Int)×Nat//q.1<=C.length∧FI R C.length q.2.1.1 q.2.1.2.1 [] q.2.1.2.2∧∀x:Int,0<=x->x<(q.1:Int)->x∈q.2.1.2.2}) (fun q=>[(1,.ptr 1 0),(3,.x (.slice (some ⟨gs,0,none⟩) C.length C.length)),(4,.x (.slice (some ⟨gd,0,none⟩) C.length C.length)),(5,.sl false 1 (q.1.2.1.2.2.map aq) (some q.1.2.2)),(24,aq (C.length:Int)),(25,aq ((q.1.1:Nat):Int))]) (fun _=>[(1,[.sl false 3 (C.map aa) none,.sl false 1 (R.map rI) none,.sl false 1 (S.map rI) none])]) (fun q H'=>H'=kH H gs gd q.1.2.1.1 q.1.2.1.2.1) (fun q=>C.length-q.1.1) ⟨(0,(List.replicate C.length false,List.replicate C.length 0,[]),21),Zf _,FI.zero R C.length,fun x a b=>by omega⟩ A0d A0d hH0 ?_;clear hH0 hd0;rintro⟨⟨i,⟨seen,dn,out⟩,tok⟩,hi,hF,hall⟩ H1 rfl;simp only at hi hF hall⊢;by_cases hil:i<C.length
 case neg=>have d1:decide ((i:Int)<(C.length:Int))=false:=YA A0b;simp +decide (maxDischargeDepth:=200) only[go_sem,Nat.reduceBEq,eq,d1];refine kG (fun m w v _ _ h=>h) (((Dis.empty H).upd hs).upd hd) (hT out (hF.fin fun x a b=>hall x a A0b))
 have d1:decide ((i:Int)<(C.length:Int))=true:=Yz A0b;have d2:(0:Int)<=(i:Int):=A0b
 have d3:(i:Int)<(C.length:Int):=A0b
 have d4:=aD (i:=i) A0b;have d5:i+1<=seen.length:=by rw[hF.ls];omega
 have c1:=aU (If (seen:=seen) (dn:=dn) hs hne);obtain⟨sb,hsb⟩:∃sb,seen[i]?=some sb:=⟨_,io (by rw[hF.ls];exact hil)⟩;have p1:((seen.map Value.bool).map V.x)[i]?=some (.x (.bool sb)):=by rw[ZT,Io,hsb];rfl
 cases sb with
 | true=>
   have hin:((i:Nat):Int)∈out:=by
    have:=(hF.mem (i:Int) A0b A0b).1 (by rw[tl];exact hsb)
    rwa [Z9] at this
   simp +decide (maxDischargeDepth:=200) only[go_sem,Nat.reduceBEq,eq,z131,YP,YC,tl,d1,d2,d3,d4,c1,p1];refine⟨⟨(i+1,(seen,dn,out),tok),hil,hF,fun x a b=>?_⟩,⟨?_,?_,rfl⟩,by simp only;omega⟩
   . simp only at b;by_cases e:x=(i:Int)
     . rw[e];exact hin
     . exact hall x a A0b
   . simp +decide (maxDischargeDepth:=200) only[go_sem,Nat.reduceBEq]
   . simp +decide (maxDischargeDepth:=200) only[go_sem,Nat.reduceBEq]
 |false=>
 have hF1:=hF.push (v:=(i:Int)) A0b A0b (by rw[tl];exact hsb) (fun z h=>by cases h);rw[tl] at hF1;have hsp:eR (seen.map Value.bool) i [.bool true]=(seen.set i true).map Value.bool:=by rw[cE _ _ _ (by rw[eq];exact d5),aaR]
 have u1:=A0 (H:=H) (gs:=gs) (gd:=gd) (seen:=seen) (seen':=seen.set i true) (dn:=dn) hs hne;simp +decide (maxDischargeDepth:=200) only[go_sem,Nat.reduceBEq,eq,z131,YP,YC,tl,d1,d2,d3,d4,c1,p1,d5,hsp,u1];refine bp (X:={q:((List Bool×List Int)×List Int×List Int)×List V×Nat×Nat//FI R C.length q.1.1.1 q.1.1.2 q.1.2.1 q.1.2.2∧(i:Int)∈q.1.2.2++q.1.2.1∧(∀x∈out,x∈q.1.2.2)∧q.2.2.1≠1}) (fun q=>[(1,.ptr 1 0),(3,.x (.slice (some ⟨gs,0,none⟩) C.length C.length)),(4,.x (.slice (some ⟨gd,0,none⟩) C.length C.length)),(5,.sl false 1 (q.1.1.2.2.map aq) (some q.1.2.2.2)),(7,.row q.1.2.2.1 1 q.1.1.2.1.length),(24,aq (C.length:Int)),(25,aq (i:Int))]) (fun q=>[(1,[.sl false 3 (C.map aa) none,.sl false 1 (R.map rI) none,.sl false 1 (S.map rI) none]),(q.1.2.2.1,q.1.1.2.1.map aq++q.1.2.1)]) (fun q H'=>H'=kH H gs gd q.1.1.1.1 q.1.1.1.2) (fun q=>q.1.1.2.1.length+2*H8 R C.length q.1.1.1.2) ⟨(((seen.set i true,dn),[(i:Int)],out),[],36,tok),hF1,A0j,fun x h=>h,A0j⟩ A0d A0d rfl ?_;clear hF1 hsp u1 p1 c1 hsb d5 hF;rintro⟨⟨⟨⟨sn,dm⟩,path,ot⟩,G,nm,tk⟩,hF,him,hot,n1⟩ H1 rfl;simp only at hF him hot n1⊢;have n2: ¬1=nm:=fun e=>n1 e.symm
 have hol:(ot++path).length<=C.length:=cO hF.nd hF.rg;rw[YD] at hol;rcases aa6 path with e|⟨o,l,e⟩
 . subst e;have e0:decide ((0:Int)<((([]:List Int).length:Nat):Int))=false:=rfl;rw[Z9] at him
   . simp +decide (maxDischargeDepth:=200) only[go_sem,Nat.reduceBEq,e0,d4,n1,n2];refine⟨⟨(i+1,(sn,dm,ot),tk),hil,hF,fun x a b=>?_⟩,⟨?_,?_,rfl⟩,by simp only;omega⟩
     . simp only at b;by_cases e:x=(i:Int)
       . rw[e];exact him
       . exact hot x (hall x a A0b)
     . simp +decide (maxDischargeDepth:=200) only[go_sem,Nat.reduceBEq]
     . simp +decide (maxDischargeDepth:=200) only[go_sem,Nat.reduceBEq]
 rw[aa7] at e;subst e;have hpl:(o++[l]).length=o.length+1:=A0j
 have ⟨hl0,hln⟩:=hF.rg l A0j;rw[hpl] at hol;have e0:decide ((0:Int)<((o.length+1:Nat):Int))=true:=Yz A0b;have w1:aw .i64 (((o.length+1:Nat):Int)-1)=(o.length:Int):=by rw[ga,IntKind.wrap_i64];omega
 have f1:(0:Int)<=(o.length:Int):=A0b
 have f2:(o.length:Int)<((o.length+1:Nat):Int):=A0b
 have f3:(o.length:Int)<=((o.length+1:Nat):Int):=A0b
 have r1:((o++[l]).map aq++G)[o.length]?=some (aq l):=Lr A0j;obtain⟨G',hG'⟩:∃G',(o++[l]).map aq++G=o.map aq++G':=⟨aq l::G,A0j⟩;obtain⟨k,hk1,hk2,hk3⟩:=hF.dn l hl0 hln;have c2:=aU (Oe (gs:=gs) (seen:=sn) (dn:=dm) hd);have p2:((dm.map iv).map V.x)[l.toNat]?=some (aq (k:Int)):=by rw[ZT,Io,hk1];rfl
 have i2:l<(R.length:Int):=A0b
 have i3:l<(C.length:Int):=A0b
 have i4:l.toNat+1<=dm.length:=by rw[hF.ld];exact hln
 obtain⟨rs,hrsr⟩:∃rs,R[l.toNat]?=some rs:=⟨_,io A0b ⟩;obtain⟨br,zr,hbzr,hzr⟩:∃b z,rI rs= .sl b z (rs.map aq) none∧(rs≠[]->z=1):=qi rs;have arr:(R.map rI)[l.toNat]?=some (.sl br zr (rs.map aq) none):=by rw[Io,hrsr,<-hbzr];rfl
 have hrz:rowS R l=rs:=by unfold rowS;rw[hrsr];rfl
 obtain⟨hr8,hrr⟩:=hR rs (YB hrsr);rw[hrz] at hk2 hk3;simp +decide (maxDischargeDepth:=200) only[go_sem,Nat.reduceBEq,eq,hpl,z52,z131,YP,YC,tl,e0,w1,f1,f2,f3,r1,n1,n2];refine lh (fun k=>match k with|2=>[46,47]|3=>[48]|5=>[50]|7=>[51,52]|8=>[53]|9=>[54]|10=>[49,55]|_=>[]) (Tg gd C.length R rs br zr l k) (Ti C.length gs gd ot o i tk nm l++[(56,.x (.bool (decide ((k:Int)=(rs.length:Int)))))]) [(1,[.sl false 3 (C.map aa) none,.sl false 1 (R.map rI) none,.sl false 1 (S.map rI) none]),(nm,(o++[l]).map aq++G)] A0a A0a ?_ ?_
 . intro st k o ho hn hb hbb;have b1:st.t 1= .ptr 1 0:=hb 1 A0a;have b4:st.t 4= .x (.slice (some ⟨gd,0,none⟩) C.length C.length):=hb 4 A0a;have b8:st.t 8=aq l:=hb 8 A0a;clear hb;have hb1:st.b 1=some [.sl false 3 (C.map aa) none,.sl false 1 (R.map rI) none,.sl false 1 (S.map rI) none]:=by rw[hbb];rfl
   clear hbb;rcases k with _|_|_|_|_|_|_|_|_|_|_|k
   . cases ho;simp +decide (maxDischargeDepth:=200) only[go_sem,Nat.reduceBEq,b1,b4,b8,hb1,z52,eq,YP,YC,hl0,i2,i3,c2,p2,arr];exact⟨_,fun _ _=>rfl,rfl,Le.refl _⟩
   . cases ho;simp +decide (maxDischargeDepth:=200) only[go_sem,Nat.reduceBEq,b1,b4,b8,hb1,z52,eq,YP,YC,hl0,i2,i3,c2,p2,arr];exact⟨_,fun _ _=>rfl,rfl,Le.refl _⟩
   . cases ho;have h46:st.t 46= .x (.slice (some ⟨gd,0,none⟩) C.length C.length):=hn 46 A0c;have h47:st.t 47=aq l:=hn 47 A0c;simp +decide (maxDischargeDepth:=200) only[go_sem,Nat.reduceBEq,b1,b4,b8,h46,h47,hb1,z52,eq,YP,YC,hl0,i2,i3,c2,p2,arr];exact⟨_,fun _ _=>rfl,rfl,Le.refl _⟩
   . cases ho;have h48:st.t 48= .x (.pointer (some ⟨gd,l.toNat,none⟩)):=hn 48 A0c;simp +decide (maxDischargeDepth:=200) only[go_sem,Nat.reduceBEq,b1,b4,b8,h48,hb1,z52,eq,YP,YC,hl0,i2,i3,c2,p2,arr];exact⟨_,fun _ _=>rfl,rfl,Le.refl _⟩
   . cases ho;simp +decide (maxDischargeDepth:=200) only[go_sem,Nat.reduceBEq,b1,b4,b8,hb1,z52,eq,YP,YC,hl0,i2,i3,c2,p2,arr];exact⟨_,fun _ _=>rfl,rfl,Le.refl _⟩
   . cases ho;have h50:st.t 50= .ptr 1 1:=hn 50 A0c;simp +decide (maxDischargeDepth:=200) only[go_sem,Nat.reduceBEq,b1,b4,b8,h50,hb1,z52,eq,YP,YC,hl0,i2,i3,c2,p2,arr];exact⟨_,fun _ _=>rfl,rfl,Le.refl _⟩
   . cases ho;simp +decide (maxDischargeDepth:=200) only[go_sem,Nat.reduceBEq,b1,b4,b8,hb1,z52,eq,YP,YC,hl0,i2,i3,c2,p2,arr];exact⟨_,fun _ _=>rfl,rfl,Le.refl _⟩
   . cases ho;have h51:st.t 51= .sl false 1 (R.map rI) none:=hn 51 A0c;have h52:st.t 52=aq l:=hn 52 A0c;simp +decide (maxDischargeDepth:=200) only[go_sem,Nat.reduceBEq,b1,b4,b8,h51,h52,hb1,z52,eq,YP,YC,hl0,i2,i3,c2,p2,arr];exact⟨_,fun _ _=>rfl,rfl,Le.refl _⟩
   . cases ho;have h53:st.t 53= .ip [.sl br zr (rs.map aq) none]:=hn 53 A0c;simp +decide (maxDischargeDepth:=200) only[go_sem,Nat.reduceBEq,b1,b4,b8,h53,hb1,z52,eq,YP,YC,hl0,i2,i3,c2,p2,arr];exact⟨_,fun _ _=>rfl,rfl,Le.refl _⟩
   . cases ho;have h54:st.t 54= .sl br zr (rs.map aq) none:=hn 54 A0c;simp +decide (maxDischargeDepth:=200) only[go_sem,Nat.reduceBEq,b1,b4,b8,h54,hb1,z52,eq,YP,YC,hl0,i2,i3,c2,p2,arr];exact⟨_,fun _ _=>rfl,rfl,Le.refl _⟩
   . cases ho;have h49:st.t 49=aq (k:Int):=hn 49 A0c;have h55:st.t 55=aq (rs.length:Int):=hn 55 A0c;simp +decide (maxDischargeDepth:=200) only[go_sem,Nat.reduceBEq,b1,b4,b8,h49,h55,hb1,z52,eq,YP,YC,hl0,i2,i3,c2,p2,arr];exact⟨_,fun _ _=>rfl,rfl,Le.refl _⟩
   . cases ho
 refine⟨⟨ar A0a,ar A0a,ar A0a,ar A0a,ar A0a,ar A0a,ar A0a,ar A0a,eL A0a,trivial⟩,⟨by simp +decide (maxDischargeDepth:=200) only[go_sem,Nat.reduceBEq,iB,n1,n2],by simp +decide (maxDischargeDepth:=200) only[go_sem,Nat.reduceBEq,iB,n1,n2],trivial⟩,?_⟩;by_cases hkl:k=rs.length
 . have e1:decide ((k:Int)=(rs.length:Int))=true:=Yz A0b;have hF2:=hF.pop (by rw[hk1,hrz,hkl]);have g1:=Lt (E:=(eY [] (fun d=>d==36))) (el:=3) (n:=1) OT OU OV A0c rfl (es:=ot.map aq) (v:=aq l) rfl A0v A0v;simp only[Ti,Zz,aak];simp +decide (maxDischargeDepth:=200) only[go_sem,Nat.reduceBEq,eq,hpl,z52,YP,YC,tl,w1,f1,f3,e1,hG',g1,n1,n2];refine⟨⟨(((sn,dm),o,ot++[l]),G',nm,65),hF2,?_,fun x h=>Zi _ (hot x h),n1⟩,⟨?_,?_,rfl⟩,by simp only[hpl];omega⟩
   . simp only[YM,YF] at him⊢;grind
   . simp +decide (maxDischargeDepth:=200) only[go_sem,Nat.reduceBEq,Y4]
   . simp +decide (maxDischargeDepth:=200) only[go_sem,Nat.reduceBEq,n1,n2]
 have hkl:k<rs.length:=A0b
 have e1:decide ((k:Int)=(rs.length:Int))=false:=YA A0b;obtain rfl:=hzr (fun h=>by rw[h] at hkl;cases hkl);have q1:rs[k]?=some rs[k]:=io hkl;have q2:(rs.map aq)[((k:Nat):Int).toNat]?=some (aq rs[k]):=by rw[tl,Io,q1];rfl
 have qm:rs[k]∈rs:=Y5 hkl;generalize rs[k]=y at q1 q2 qm;obtain⟨y0,yn⟩:=hrr y qm;have h1:(0:Int)<=(k:Int):=A0b
 have h2:(k:Int)<(rs.length:Int):=A0b
 have h3:aw .i64 ((k:Int)+1)=(k:Int)+1:=ak A0h;have h4:y<(C.length:Int):=A0b
 have h5:y.toNat+1<=sn.length:=by rw[hF.ls];exact yn
 have hq:(rowS R l)[k]?=some y:=by rw[hrz];exact q1
 have hdec:=H9 (R:=R) (n:=C.length) hl0 hln hk1 (by rw[hrz];exact hkl);have hsp:eR (dm.map iv) l.toNat [.int .i64 ((k:Int)+1)]=(dm.set l.toNat ((k:Int)+1)).map iv:=by rw[cE _ _ _ (by rw[eq];exact i4),aaR]
 have u1:=Lq (H:=H) (gs:=gs) (seen:=sn) (dn:=dm) (dn':=dm.set l.toNat ((k:Int)+1)) hd;have c3:=aU (If (seen:=sn) (dn:=dm.set l.toNat ((k:Int)+1)) hs hne);obtain⟨sb,hsb⟩:∃sb,sn[y.toNat]?=some sb:=⟨_,io (by rw[hF.ls];exact yn)⟩;have p3:((sn.map Value.bool).map V.x)[y.toNat]?=some (.x (.bool sb)):=by rw[ZT,Io,hsb];rfl
 rw[tl] at q2;have hmo:∀z∈(o++[l]),ReachI R z y:=fun z hz=>by
  rcases YM.1 hz with hz|hz
  . exact .step ((ZS.1 hF.ch).2.2 z hz _ (abu _)) (YB hq)
  . rw[YF] at hz;subst hz;exact .one (YB hq)
 simp only[Ti,Zz,aak];simp +decide (maxDischargeDepth:=200) only[go_sem,Nat.reduceBEq,e1];refine lh (fun k=>match k with|1=>[66]|3=>[67,68]|4=>[69]|7=>[71,72]|8=>[73]|9=>[70,74]|10=>[75]|11=>[76]|_=>[]) (Th gd C.length R rs br l y k) (Ti C.length gs gd ot o i tk nm l++[(9,aq y)]) [(1,[.sl false 3 (C.map aa) none,.sl false 1 (R.map rI) none,.sl false 1 (S.map rI) none]),(nm,(o++[l]).map aq++G)] A0a A0a ?_ ?_
 . intro st k o ho hn hb hbb;have b1:st.t 1= .ptr 1 0:=hb 1 A0a;have b4:st.t 4= .x (.slice (some ⟨gd,0,none⟩) C.length C.length):=hb 4 A0a;have b8:st.t 8=aq l:=hb 8 A0a;clear hb;have hb1:st.b 1=some [.sl false 3 (C.map aa) none,.sl false 1 (R.map rI) none,.sl false 1 (S.map rI) none]:=by rw[hbb];rfl
   clear hbb;rcases k with _|_|_|_|_|_|_|_|_|_|_|_|k
   . cases ho;simp +decide (maxDischargeDepth:=200) only[go_sem,Nat.reduceBEq,b1,b4,b8,hb1,z52,eq,YP,YC,tl,hl0,i2,i3,c2,p2,arr,h1,h2,q2];exact⟨_,fun _ _=>rfl,rfl,Le.refl _⟩
   . cases ho;have h66:st.t 66= .ptr 1 1:=hn 66 A0c;simp +decide (maxDischargeDepth:=200) only[go_sem,Nat.reduceBEq,b1,b4,b8,h66,hb1,z52,eq,YP,YC,tl,hl0,i2,i3,c2,p2,arr,h1,h2,q2];exact⟨_,fun _ _=>rfl,rfl,Le.refl _⟩
   . cases ho;simp +decide (maxDischargeDepth:=200) only[go_sem,Nat.reduceBEq,b1,b4,b8,hb1,z52,eq,YP,YC,tl,hl0,i2,i3,c2,p2,arr,h1,h2,q2];exact⟨_,fun _ _=>rfl,rfl,Le.refl _⟩
   . cases ho;have h67:st.t 67= .sl false 1 (R.map rI) none:=hn 67 A0c;have h68:st.t 68=aq l:=hn 68 A0c;simp +decide (maxDischargeDepth:=200) only[go_sem,Nat.reduceBEq,b1,b4,b8,h67,h68,hb1,z52,eq,YP,YC,tl,hl0,i2,i3,c2,p2,arr,h1,h2,q2];exact⟨_,fun _ _=>rfl,rfl,Le.refl _⟩
   . cases ho;have h69:st.t 69= .ip [.sl br 1 (rs.map aq) none]:=hn 69 A0c;simp +decide (maxDischargeDepth:=200) only[go_sem,Nat.reduceBEq,b1,b4,b8,h69,hb1,z52,eq,YP,YC,tl,hl0,i2,i3,c2,p2,arr,h1,h2,q2];exact⟨_,fun _ _=>rfl,rfl,Le.refl _⟩
   . cases ho;simp +decide (maxDischargeDepth:=200) only[go_sem,Nat.reduceBEq,b1,b4,b8,hb1,z52,eq,YP,YC,tl,hl0,i2,i3,c2,p2,arr,h1,h2,q2];exact⟨_,fun _ _=>rfl,rfl,Le.refl _⟩
   . cases ho;simp +decide (maxDischargeDepth:=200) only[go_sem,Nat.reduceBEq,b1,b4,b8,hb1,z52,eq,YP,YC,tl,hl0,i2,i3,c2,p2,arr,h1,h2,q2];exact⟨_,fun _ _=>rfl,rfl,Le.refl _⟩
   . cases ho;have h71:st.t 71= .x (.slice (some ⟨gd,0,none⟩) C.length C.length):=hn 71 A0c;have h72:st.t 72=aq l:=hn 72 A0c;simp +decide (maxDischargeDepth:=200) only[go_sem,Nat.reduceBEq,b1,b4,b8,h71,h72,hb1,z52,eq,YP,YC,tl,hl0,i2,i3,c2,p2,arr,h1,h2,q2];exact⟨_,fun _ _=>rfl,rfl,Le.refl _⟩
   . cases ho;have h73:st.t 73= .x (.pointer (some ⟨gd,l.toNat,none⟩)):=hn 73 A0c;simp +decide (maxDischargeDepth:=200) only[go_sem,Nat.reduceBEq,b1,b4,b8,h73,hb1,z52,eq,YP,YC,tl,hl0,i2,i3,c2,p2,arr,h1,h2,q2];exact⟨_,fun _ _=>rfl,rfl,Le.refl _⟩
   . cases ho;have h70:st.t 70= .sl br 1 (rs.map aq) none:=hn 70 A0c;have h74:st.t 74=aq (k:Int):=hn 74 A0c;simp +decide (maxDischargeDepth:=200) only[go_sem,Nat.reduceBEq,b1,b4,b8,h70,h74,hb1,z52,eq,YP,YC,tl,hl0,i2,i3,c2,p2,arr,h1,h2,q2];exact⟨_,fun _ _=>rfl,rfl,Le.refl _⟩
   . cases ho;have h75:st.t 75= .ip [aq y]:=hn 75 A0c;simp +decide (maxDischargeDepth:=200) only[go_sem,Nat.reduceBEq,b1,b4,b8,h75,hb1,z52,eq,YP,YC,tl,hl0,i2,i3,c2,p2,arr,h1,h2,q2];exact⟨_,fun _ _=>rfl,rfl,Le.refl _⟩
   . cases ho;have h76:st.t 76=aq y:=hn 76 A0c;simp +decide (maxDischargeDepth:=200) only[go_sem,Nat.reduceBEq,b1,b4,b8,h76,hb1,z52,eq,YP,YC,tl,hl0,i2,i3,c2,p2,arr,h1,h2,q2];exact⟨_,fun _ _=>rfl,rfl,Le.refl _⟩
   . cases ho
 refine⟨⟨ar A0a,ar A0a,ar A0a,ar A0a,ar A0a,ar A0a,ar A0a,ar A0a,eL A0a,trivial⟩,⟨by simp +decide (maxDischargeDepth:=200) only[go_sem,Nat.reduceBEq,iB,n1,n2],by simp +decide (maxDischargeDepth:=200) only[go_sem,Nat.reduceBEq,iB,n1,n2],trivial⟩,?_⟩;simp only[Ti,Zz,aak];cases sb with
 | true=>
   have hF2:=hF.look hk1 hl0 hq ((hF.mem y y0 yn).1 hsb);simp +decide (maxDischargeDepth:=200) only[go_sem,Nat.reduceBEq,eq,hpl,z52,z131,YP,YC,tl,hl0,i3,i4,c2,p2,h3,hsp,u1,c3,y0,h4,p3,n1,n2];refine⟨⟨(((sn,dm.set l.toNat ((k:Int)+1)),o++[l],ot),G,nm,tk),hF2,him,hot,n1⟩,⟨?_,?_,rfl⟩,by simp only;omega⟩
   . simp +decide (maxDischargeDepth:=200) only[go_sem,Nat.reduceBEq,hpl]
   . simp +decide (maxDischargeDepth:=200) only[go_sem,Nat.reduceBEq,n1,n2]
 | false=>
   have hin:y∉ot++(o++[l]):=fun e=>by rw[(hF.mem y y0 yn).2 e] at hsb;cases hsb
   have hF1:=hF.push y0 yn hsb hmo;have hl8:y∈ot++(o++[l]++[y]):=A0j
   have hF2:=hF1.look hk1 hl0 hq hl8;have hol2:(ot++(o++[l]++[y])).length<=C.length:=cO hF2.nd hF2.rg;rw[YD,YD,hpl,Zv] at hol2;have hsp2:eR (sn.map Value.bool) y.toNat [.bool true]=(sn.set y.toNat true).map Value.bool:=by rw[cE _ _ _ (by rw[eq];exact h5),aaR]
   have u2:=A0 (H:=H) (gs:=gs) (gd:=gd) (seen:=sn) (seen':=sn.set y.toNat true) (dn:=dm.set l.toNat ((k:Int)+1)) hs hne
   have g1:∀(st:St) (d s:Nat) (nl:Bool) (t':Option Nat),bq (eY [] (fun d=>d==36)) st (some d) 3 (.row s 1 (o.length+1)) (.sl nl 1 [aq y] t')=match st.b s with
    |some cs=>some ⟨upd (kill s (kill d st.t)) d (.row d 1 (o.length+1+1)),upd (upd st.b s none) d (some (cs.take ((o.length+1)*1)++(aq y).cells))⟩
    |none=>none:=fun st d s nl t'=>Co (E:=(eY [] (fun d=>d==36))) OT OU OV A0c rfl rfl A0b A0b st d s nl t'
   have g2:((o++[l]).map aq++G).take (o.length+1)++[aq y]=(o++[l]++[y]).map aq++[]:=by rw[Zx A0j,YS A0j,Z9];simp only[Y4,Y0,aah]
   have hpl2:(o++[l]++[y]).length=o.length+1+1:=A0j
   simp +decide (maxDischargeDepth:=200) only[go_sem,Nat.reduceBEq,eq,hpl,z52,z131,YP,YC,tl,hl0,i3,i4,c2,p2,h3,h5,hsp,u1,c3,y0,h4,p3,hsp2,u2,g1,g2,n1,n2];refine⟨⟨(((sn.set y.toNat true,dm.set l.toNat ((k:Int)+1)),o++[l]++[y],ot),[],94,tk),hF2,?_,hot,A0j⟩,⟨?_,?_,rfl⟩,by simp only[hpl,hpl2];omega⟩
   . simp only[YM,YF] at him⊢;grind
   . simp +decide (maxDischargeDepth:=200) only[go_sem,Nat.reduceBEq,hpl2,n1,n2]
   . simp +decide (maxDischargeDepth:=200) only[go_sem,Nat.reduceBEq,n1,n2]
def Of (us:List V) (H:HH) (T:V->HH->Prop):Prop:=∃rs v,us=[rI rs,aq v]∧rs.length<=100000000∧∀i:Int,(0<=i↔v∈rs)->T (aq i) H
theorem Lw:cn (bP [] [] [] (fun _=>false) (fun _=>false)) 55 Of:=by
 refine cg (F:={F:=fun _=>none,D:=fun _=>false}) (n:=19) (k:=2) (bw [] [] [] _ _ trivial trivial trivial) A0a (fun f C e=>by cases e) (fun t s C e=>by cases e) Tryz.func55 rfl (fun a w=>Tryz.call55 a w) Tryz.ntmps55 A0c A0c A0a ?_;rintro us H T ⟨rs,v,rfl,hl,hT⟩ hdat;clear hdat;refine⟨rfl,?_⟩;obtain⟨b,z,hb,hz⟩:=qi rs;rw[hb];have l3:(0:Int)<=(rs.length:Int):=A0b
 simp +decide (maxDischargeDepth:=200) only[go_sem,Nat.reduceBEq,eq];refine bp (X:={i:Nat//i<=rs.length∧∀x∈rs.take i,x≠v}) (fun i=>[(0,.sl b z (rs.map aq) none),(1,aq v),(6,.sl b z (rs.map aq) none),(7,aq (rs.length:Int)),(8,aq ((i.1:Nat):Int))]) (fun _=>[]) (fun _ H'=>H'=H) (fun i=>rs.length-i.1) ⟨0,Zf _,fun x hx=>by simp at hx⟩ A0d A0d rfl ?_;rintro⟨i,hi,hno⟩ H1 rfl;simp only at hi hno⊢;by_cases hil:i<rs.length
 case neg=>have d1:decide ((i:Int)<(rs.length:Int))=false:=YA A0b;rw[YS A0b] at hno;simp +decide (maxDischargeDepth:=200) only[go_sem,Nat.reduceBEq,eq,d1];exact hT _ ⟨fun h=>by omega,fun h=>absurd rfl (hno v h)⟩
 obtain rfl:=hz (fun h=>by rw[h] at hil;cases hil);have d1:decide ((i:Int)<(rs.length:Int))=true:=Yz A0b;have d2:(0:Int)<=(i:Int):=A0b
 have d3:(i:Int)<(rs.length:Int):=A0b
 have d4:=aD (i:=i) A0b;have q1:rs[i]?=some rs[i]:=io hil;have q2:(rs.map aq)[((i:Nat):Int).toNat]?=some (aq rs[i]):=by rw[tl,Io,q1];rfl
 have qm:rs[i]∈rs:=Y5 hil;generalize rs[i]=x at q1 q2 qm;rw[tl] at q2;by_cases e:v=x
 . have e1:decide (v=x)=true:=Yz e;simp +decide (maxDischargeDepth:=200) only[go_sem,Nat.reduceBEq,tl,eq,d1,d2,d3,q2,e1];exact hT _ ⟨fun _=>e▸qm,fun _=>by omega⟩
 . have e1:decide (v=x)=false:=YA e;simp +decide (maxDischargeDepth:=200) only[go_sem,Nat.reduceBEq,tl,eq,d1,d2,d3,d4,q2,e1];refine⟨⟨i+1,hil,fun y hy=>?_⟩,⟨?_,?_,rfl⟩,by simp only;omega⟩
   . rw[aF q1,YM,YF] at hy;rcases hy with hy|rfl
     . exact hno y hy
     . exact fun h=>e h.symm
   . simp +decide (maxDischargeDepth:=200) only[go_sem,Nat.reduceBEq]
   . simp +decide (maxDischargeDepth:=200) only[go_sem,Nat.reduceBEq]
def Ig (us:List V) (H:HH) (T:V->HH->Prop):Prop:=∃rs v,us=[rI rs,aq v]∧rs.length<=100000000∧T (.x (.bool (decide (v∈rs)))) H
theorem Ih:cn (bP [] [] [] (fun _=>false) (fun _=>false)) 41 Ig:=by
 refine cg (F:={F:=uX [(55,Of)],D:=fun _=>false}) (n:=9) (k:=2) (bw [] [] [] _ _ trivial trivial trivial) A0a (fA (l:=[(55,Of)]) ⟨Lw,trivial⟩) (fun t s C e=>by cases e) Tryz.func41 rfl (fun a w=>Tryz.call41 a w) Tryz.ntmps41 A0c A0c A0a ?_;rintro us H T ⟨rs,v,rfl,hl,hT⟩ hdat;refine⟨rfl,?_⟩;obtain⟨b,z,hb,hz⟩:=qi rs;clear hdat;rw[hb];simp +decide (maxDischargeDepth:=200) only[go_sem,Nat.reduceBEq];refine⟨rs,v,by rw[hb],hl,fun i hi=>?_⟩;simp +decide (maxDischargeDepth:=200) only[go_sem,Nat.reduceBEq];have:decide (v∈rs)=decide (0<=i):=by simp only[hi]
 rw[this] at hT;exact hT
variable {xs:List Value} {o:Nat}
theorem oB {L:List Value} (h:o+xs.length<=L.length):(eR L o xs)[k]?=if k<o then L[k]? else if k<o+xs.length then xs[k-o]? else L[k]?:=by
 have h1:(L.take o).length=o:=A0A
 unfold eR;rw[Zw,abf,h1];split
 . rw[abq A0b]
 . rw[abf];split
   . rw[YG A0b]
   . rw[YL A0b,ZN];congr 1;omega
theorem Ii {L:List Value} (h:o+xs.length<=L.length):(eR L o xs).length=L.length:=by unfold eR;simp only[YD,YQ,ZQ];omega
def cellAt (L:List Value) (j:Nat) (q:C3):Prop:=L[j*3]?=some (.string q.1)∧L[j*3+1]?=some (.int .i64 q.2.1)∧L[j*3+2]?=some (.int .i64 q.2.2)
theorem cellAt.put {L:List Value} {i j:Nat} {q q':C3} (h:i*3+3<=L.length) (hj:i≠j->cellAt L j q) (e:i=j->q'=q):cellAt (eR L (i*3) [.string q'.1,.int .i64 q'.2.1,.int .i64 q'.2.2]) j q:=by
 have hl:i*3+[Value.string q'.1,.int .i64 q'.2.1,.int .i64 q'.2.2].length<=L.length:=h;unfold cellAt;rw[oB hl,oB hl,oB hl];simp only[YI,Zd];by_cases he:i=j
 . obtain rfl:=e he;subst he;rw[YL A0b,YG A0b,YL A0b,YG A0b,YL A0b,YG A0b];rw[show i*3-i*3=0 by omega,show i*3+1-i*3=1 by omega,show i*3+2-i*3=2 by omega];exact⟨rfl,rfl,rfl⟩
 . obtain⟨a,b,c⟩:=hj he;refine⟨?_,?_,?_⟩
   . split
     . exact a
     . rw[YL A0b];exact a
   . split
     . exact b
     . rw[YL A0b];exact b
   . split
     . exact c
     . rw[YL A0b];exact c
theorem zk {m:Lim} {w:World} {L:List Value} {ty:TypeId} {qs:List C3} (hg:H g=some (rowO L ty)) (hl:L.length=qs.length*3) (hq:∀(j:Nat) (q:C3),qs[j]?=some q->cellAt L j q) (hw:∀g ob,H g=some ob->w.heap[g]?=some ob) (hm:∀g,H g≠none->m g=none):Rd m w (.slice (some ⟨g,0,none⟩) qs.length qs.length) (.sl false 3 (qs.map aa) none):=by
 have hh:=hw g _ hg;have hmg:=hm g A0z;have:=Rd.sl (m:=m) (w:=w) g 0 qs.length 3 (qs.map aa) none (fun k=>(L[k]?).getD Go.undef) (ai hh) A0v (fun i e hi=>by
  rw[Io,YE] at hi;obtain⟨n,_,rfl⟩:=hi;rfl) (fun k hk=>by
  rw[eq] at hk;rw[YC,Box.cell hh,ZL,io A0b];rfl) (fun fr hf=>by rw[hmg] at hf;cases hf) (fun i e hi j d hd=>by
  rw[Io,YE] at hi;obtain⟨q,hn,rfl⟩:=hi;obtain⟨a,b,c⟩:=hq i q hn;rcases j with _|_|_|j
  . cases hd;rw[ZE,a];exact .x _
  . cases hd;rw[b];exact .x _
  . cases hd;rw[c];exact .x _
  . cases hd)
 rwa [eq] at this
def Tk (C:List C3) (ps:List Int) (r:Bool):V:= .agg [.sl false 3 ((ps.map (ji C)).map aa) none,.x (.bool r)]
def Tl (us:List V) (H:HH) (T:V->HH->Prop):Prop:=∃C R S p ps,us=[gD C R S,.sl false 1 ((p::ps).map aq) none]∧bK C.length R∧(∀x∈p::ps,0<=x∧x.toNat<C.length)∧(p::ps).length<=400∧T (Tk C (p::ps) (decide (1<((p::ps).length:Int))||decide (p∈rowZ R p))) H
theorem Ij:cn (bP [] [] [] (fun _=>false) (fun _=>false)) 24 Tl:=by
 refine kA (F:={F:=uX [(41,Ig)],D:=fun d=>d==11}) (n:=45) (k:=2) (bw [] [] [] _ _ trivial trivial trivial) A0a (fA (l:=[(41,Ig)]) ⟨Ih,trivial⟩) (fun t s C e=>by cases e) Tryz.func24 rfl (fun a w=>Tryz.call24 a w) Tryz.ntmps24 A0c A0c A0a ?_;rintro us H T ⟨C,R,S,p,ps0,rfl,⟨hRl,hn4,hR⟩,hps,hpl,hT⟩ hdat;clear hdat;refine⟨rfl,?_⟩;simp only[gD];generalize hpe:p::ps0=ps at*;have m27:KW Tryz.prog 30=some (37,3,32,.agg #[.string ⟨#[]⟩,.int .i64 0,.int .i64 0]):=A0a
 have l1:((32:Nat):Int)*(ps.length:Int)<=281474976710656:=A0b
 have l2:(ps.length:Int)<=9223372036854775807:=A0b
 have l3:(0:Int)<=(ps.length:Int):=A0b
 simp +decide (maxDischargeDepth:=200) only[go_sem,Nat.reduceBEq,m27,eq,l1,l2,l3,tl,YP];intro g hg;refine bp (X:={q:Nat×List Value//q.1<=ps.length∧q.2.length=ps.length*3∧∀j x,j<q.1->ps[j]?=some x->cellAt q.2 j (ji C x)}) (fun q=>[(1,.sl false 1 (ps.map aq) none),(2,.ptr 2 0),(4,.ptr 4 0),(5,.x (.slice (some ⟨g,0,none⟩) ps.length ps.length)),(12,.sl false 1 (ps.map aq) none),(13,aq (ps.length:Int)),(14,aq ((q.1.1:Nat):Int))]) (fun _=>[(2,[.sl false 3 (C.map aa) none,.sl false 1 (R.map rI) none,.sl false 1 (S.map rI) none]),(4,[.sl true 0 [] none,.x (.bool false)])]) (fun q H'=>H'=mer H (upd (fun _=>none) g (some (rowO q.1.2 37)))) (fun q=>ps.length-q.1.1) ⟨(0,(madeCells #[.string ⟨#[]⟩,.int .i64 0,.int .i64 0] (ps.length*3)).toList),Zf _,by simp[madeCells],fun j x h=>by omega⟩ A0d A0d (by show upd H g _=_;rw[<-bZ hg,gI]) ?_;rintro⟨⟨i,L⟩,hi,hL,hc⟩ H1 rfl;simp only at hi hL hc⊢;have hd:Dis H (fun _=>none):=Dis.empty H;by_cases hil:i<ps.length
 case pos=>
  have d1:decide ((i:Int)<(ps.length:Int))=true:=Yz A0b;have d2:(0:Int)<=(i:Int):=A0b
  have d3:(i:Int)<(ps.length:Int):=A0b
  have d4:=aD (i:=i) A0b;have q1:ps[i]?=some ps[i]:=io hil;have q2:(ps.map aq)[((i:Nat):Int).toNat]?=some (aq ps[i]):=by rw[tl,Io,q1];rfl
  have qm:ps[i]∈ps:=Y5 hil;generalize ps[i]=x at q1 q2 qm;rw[tl] at q2;obtain⟨x0,xl⟩:=hps x qm;have x2:x<(C.length:Int):=A0b
  obtain⟨y,hy⟩:∃y,C[x.toNat]?=some y:=⟨_,io xl⟩;have hat:ji C x=y:=by unfold ji;rw[hy];rfl
  obtain⟨ys,yc,yr⟩:=y;have p1:(C.map aa)[x.toNat]?=some (.agg [.x (.string ys),.x (.int .i64 yc),.x (.int .i64 yr)]):=by rw[Io,hy];rfl
  have hm:mer H (upd (fun _=>none) g (some (rowO L 37))) g=some (rowO L 37):=by rw[fV hg,aj]
  have c1:=aU hm;have i3:i*3+3<=L.length:=A0b
  have xs1:kZ (.agg [.x (.string ys),.x (.int .i64 yc),.x (.int .i64 yr)])=some [.string ys,.int .i64 yc,.int .i64 yr]:=rfl;have z27:o5 Tryz.prog 30=some 3:=A0a
  have u1:∀o,upd (mer H (upd (fun _=>none) g (some (rowO L 37)))) g o=mer H (upd (fun _=>none) g o):=fun o=>by rw[bZ hg,fa]
  simp +decide (maxDischargeDepth:=200) only[go_sem,Nat.reduceBEq,z27,tl,eq,YC,d1,d2,d3,d4,q2,x0,x2,p1,c1,xs1,u1,YI,Zd,i3];refine⟨⟨(i+1,eR L (i*3) [.string ys,.int .i64 yc,.int .i64 yr]),hil,?_,fun j x' hj hx'=>?_⟩,⟨?_,?_,rfl⟩,by simp only;omega⟩
  . simp only;rw[Ii (by exact i3)];exact hL
  . simp only at hj⊢;exact cellAt.put (q':=(ys,yc,yr)) i3 (fun hne=>hc j x' A0b hx') (fun he=>by subst he;rw[q1] at hx';cases hx';exact hat.symm)
  . simp +decide (maxDischargeDepth:=200) only[go_sem,Nat.reduceBEq]
  . simp +decide (maxDischargeDepth:=200) only[go_sem,Nat.reduceBEq]
 have d1:decide ((i:Int)<(ps.length:Int))=false:=YA A0b;have hii:i=ps.length:=A0b
 have z0:(0:Int)<(ps.length:Int):=by rw[<-hpe,YI];omega
 have q0:(ps.map aq)[0]?=some (aq p):=by rw[<-hpe];rfl
 obtain⟨p0,pl⟩:=hps p (by rw[<-hpe];exact Zc ..);have p2:p<(R.length:Int):=A0b
 obtain⟨rs,hrsr⟩:∃rs,R[p.toNat]?=some rs:=⟨_,io A0b ⟩;obtain⟨br,zr,hbzr,hzr⟩:∃b z,rI rs= .sl b z (rs.map aq) none∧(rs≠[]->z=1):=qi rs;have arr:(R.map rI)[p.toNat]?=some (.sl br zr (rs.map aq) none):=by rw[Io,hrsr,<-hbzr];rfl
 obtain⟨hr8,hrr⟩:=hR rs (YB hrsr);have hrz:rowZ R p=rs:=by unfold rowZ;rw[hrsr];rfl
 rw [hrz] at hT;have hend:∀r,T (Tk C ps r) H->G4 (.agg [.x (.slice (some ⟨g,0,none⟩) ps.length ps.length),.x (.bool r)]) (mer H (upd (fun _=>none) g (some (rowO L 37)))) T:=fun r hr=>by
  refine kG (fun m w v h1 h2 h3=>?_) ((Dis.empty H).upd hg) hr;cases h3 with
  | agg cs Cs hl h=>
    refine .agg cs _ hl (fun k v u hi hu=>?_);rcases k with _|_|k
    . cases hu;have h4:=h 0 v _ hi rfl;cases h4;have h5:=zk (m:=m) (w:=w) (qs:=ps.map (ji C)) (aj (fun _=>none) g (some (rowO L 37))) (by rw[eq];exact hL) (fun j q hj=>by rw[Io,YE] at hj;obtain⟨x,hx,rfl⟩:=hj;exact hc j x (by have:=(iO.1 hx).1;omega) hx) h1 h2
      rwa [eq] at h5
    . cases hu;exact h 1 v _ hi rfl
    . cases hu
 by_cases hlen:(1:Int)<(ps.length:Int)
 . have e1:decide ((1:Int)<(ps.length:Int))=true:=Yz hlen;rw[e1,Bool.true_or] at hT;simp +decide (maxDischargeDepth:=200) only[go_sem,Nat.reduceBEq,eq,d1,z0,q0,p0,p2,arr,e1];exact hend _ hT
 . have e1:decide ((1:Int)<(ps.length:Int))=false:=YA hlen;rw[e1,aaZ] at hT;simp +decide (maxDischargeDepth:=200) only[go_sem,Nat.reduceBEq,eq,d1,z0,q0,p0,p2,arr,e1];refine⟨rs,p,by rw[hbzr],hr8,?_⟩;simp +decide (maxDischargeDepth:=200) only[go_sem,Nat.reduceBEq,e1];exact hend _ hT
def Tm (us:List V) (H:HH) (T:V->HH->Prop):Prop:=∃rs,us=[.sl false 1 (rs.map aq) none]∧rs≠[]∧rs.length<=100000000∧∀d∈rs,(∀x∈rs,d<=x)->T (aq d) H
theorem Lx:cn (bP [] [] [] (fun _=>false) (fun _=>false)) 38 Tm:=by
 refine cg (F:={F:=fun _=>none,D:=fun _=>false}) (n:=25) (k:=1) (bw [] [] [] _ _ trivial trivial trivial) A0a (fun f C e=>by cases e) (fun t s C e=>by cases e) Tryz.func38 rfl (fun a w=>Tryz.call38 a w) Tryz.ntmps38 A0c A0c A0a ?_;rintro us H T ⟨rs,rfl,hne,hl,hT⟩ hdat;clear hdat;refine⟨rfl,?_⟩;obtain⟨r0,rt,rfl⟩:=List.exists_cons_of_ne_nil hne;generalize hrs:r0::rt=rs at*;have hpos:0<rs.length:=by rw[<-hrs,YI];omega
 have z1:decide ((rs.length:Int)<1)=false:=YA A0b;have z2:(0:Int)<(rs.length:Int):=A0b
 have z3:(rs.map aq)[0]?=some (aq r0):=by rw[<-hrs];rfl
 simp +decide (maxDischargeDepth:=200) only[go_sem,Nat.reduceBEq,eq,z1,z2,z3];refine bp (X:={q:Nat×Int//1<=q.1∧q.1<=rs.length∧q.2∈rs.take q.1∧∀x∈rs.take q.1,q.2<=x}) (fun q=>[(0,.sl false 1 (rs.map aq) none),(3,aq q.1.2),(4,aq ((q.1.1:Nat):Int))]) (fun _=>[]) (fun _ H'=>H'=H) (fun q=>rs.length-q.1.1) ⟨(1,r0),YJ _,hpos,by rw[<-hrs];simp,fun x hx=>by rw[<-hrs] at hx;simp at hx;omega⟩ A0d A0d rfl ?_;rintro⟨⟨i,d⟩,hi1,hi,hd,hle⟩ H1 rfl;simp only at hi1 hi hd hle⊢;by_cases hil:i<rs.length
 case neg=>have d1:decide ((i:Int)<(rs.length:Int))=false:=YA A0b;rw[YS A0b] at hd hle;simp +decide (maxDischargeDepth:=200) only[go_sem,Nat.reduceBEq,eq,d1];exact hT d hd hle
 have d1:decide ((i:Int)<(rs.length:Int))=true:=Yz A0b;have d2:(0:Int)<=(i:Int):=A0b
 have d3:(i:Int)<(rs.length:Int):=A0b
 have d4:=aD (i:=i) A0b;have q1:rs[i]?=some rs[i]:=io hil;have q2:(rs.map aq)[((i:Nat):Int).toNat]?=some (aq rs[i]):=by rw[tl,Io,q1];rfl
 have qm:rs[i]∈rs:=Y5 hil;generalize rs[i]=x at q1 q2 qm;rw[tl] at q2;simp +decide (maxDischargeDepth:=200) only[go_sem,Nat.reduceBEq,eq,tl,d1,d2,d3,d4,q2];have hm:Bf d x=if d<=x then d else x:=by unfold Bf;first|rfl|grind
 refine⟨⟨(i+1,Bf d x),by simp only;omega,hil,?_,fun y hy=>?_⟩,⟨?_,?_,rfl⟩,by simp only;omega⟩
 . simp only;rw[aF q1,hm,YM,YF];split
   . exact .inl hd
   . exact .inr rfl
 . simp only at hy⊢;rw[aF q1,YM,YF] at hy;rw[hm];rcases hy with hy|rfl
   . have:=hle y hy;split<;>omega
   . split<;>omega
 . simp +decide (maxDischargeDepth:=200) only[go_sem,Nat.reduceBEq]
 . simp +decide (maxDischargeDepth:=200) only[go_sem,Nat.reduceBEq]
end Go.Proofs.YtmfojhkjbkombaaGreat
