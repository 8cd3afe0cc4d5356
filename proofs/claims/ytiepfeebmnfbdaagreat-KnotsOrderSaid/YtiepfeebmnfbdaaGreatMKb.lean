/- MKb -/
import Derived.Test.YtiepfeebmnfbdaaGreatMKa
import Derived.Test.YtiepfeebmnfbdaaGreatMN
namespace Go.Proofs.YtiepfeebmnfbdaaGreat
open Tryz
set_option linter.unusedSimpArgs false
set_option maxHeartbeats 64000000
set_option maxRecDepth 100000
open Go Go.RowKit
attribute [go_sem] results17 results22 results23 results34 results36 results39 results52
theorem WW{P:Prop}(h:P:=by exact⟨_,fun _ _=>rfl,rfl,Le.refl _⟩):P:=h
theorem WV{P:Prop}(h:P:=by simp +decide only[go_sem]):P:=h
theorem WT{P:Prop}(h:P:=by simp +decide only[go_sem,Nat.reduceBEq]):P:=h
theorem WS{P:Prop}(h:P:=by simp +decide only[go_sem,Nat.reduceBEq,n1,n2]):P:=h
variable{S:List (List Int)}
theorem ReachI.trans{a b c:Int}(h:ReachI S a b)(k:ReachI S b c):ReachI S a c:=by
 induction k with
 |one e=>exact .step h e
 |step _ e ih=>exact .step ih e
theorem jI{l:List Int}{x u:Int}{j:Nat}(h:(l++[x])[j]?=some u):(j<l.length∧l[j]?=some u)∨(j=l.length∧u=x):=by
 rw[af8] at h;split at h
 . rename_i hj;exact .inl ⟨hj,h⟩
 . rename_i hj;have:=(iO.1 h).1;simp at this;have e:j=l.length:=A0b
   subst e;simp at h;exact .inr ⟨rfl,h.symm⟩
structure FI (R:List (List Int)) (n:Nat) (seen:List Bool) (dn path out:List Int):Prop where
 ls:seen.length=n
 ld:dn.length=n
 nd:(out++path).Nodup
 rg:∀x∈out++path,0<=x∧x.toNat<n
 mem:∀x:Int,0<=x->x.toNat<n->(seen[x.toNat]?=some true↔x∈out++path)
 dn:∀x:Int,0<=x->x.toNat<n->∃k:Nat,dn[x.toNat]?=some (k:Int)∧k<=(rowS R x).length∧∀y∈(rowS R x).take k,y∈out++path
 cl:∀x∈out,∀y∈rowS R x,y∈out++path
 ch:path.Pairwise (ReachI R)
 F:∀(i:Nat) x,out[i]?=some x->∀y∈rowS R x,y∈out.take i∨ReachI R y x
 K:∀(j i k:Nat) (u w z:Int),out[j]?=some u->out[i]?=some w->out[k]?=some z->j<i->i<k->ReachI R u z->ReachI R u w
 KI:∀(j i:Nat) (u w z:Int),out[j]?=some u->out[i]?=some w->z∈path->j<i->ReachI R u z->ReachI R u w
structure FinOK (R:List (List Int)) (n:Nat) (out:List Int):Prop where
 nd:out.Nodup
 mem:∀x,x∈out↔0<=x∧x.toNat<n
 F:∀(i:Nat) x,out[i]?=some x->∀y∈rowS R x,y∈out.take i∨ReachI R y x
 K:∀(j i k:Nat) (u w z:Int),out[j]?=some u->out[i]?=some w->out[k]?=some z->j<i->i<k->ReachI R u z->ReachI R u w
theorem FI.zero(R:List (List Int))(n:Nat):FI R n (List.replicate n false) (List.replicate n 0) [] [] where
 ls:=aez
 ld:=aez
 nd:=ad3
 rg:=fun x h=>by cases h
 mem:=fun x h0 h=>⟨fun e=>(by rw[ad4,adl h] at e;cases e),fun h=>A09 ⟩
 dn:=fun x h0 h=>⟨0,(by rw[ad4,adl h];rfl),adN _,fun y h=>by simp at h⟩
 cl:=fun x h=>by cases h
 ch:= .nil
 F:=fun i x h=>by simp at h
 K:=fun j i k u w z h=>by simp at h
 KI:=fun j i u w z h=>by simp at h
variable{R:List (List Int)}{n:Nat}{seen:List Bool}{dn:List Int}
theorem FI.fin{out:List Int}(h:FI R n seen dn [] out)(ha:∀x:Int,0<=x->x.toNat<n->x∈out):FinOK R n out where
 nd:=by have:=h.nd;rwa [aep] at this
 mem:=fun x=>⟨fun hx=>h.rg x (ad2 _ hx),fun hx=>ha x hx.1 hx.2⟩
 F:=h.F
 K:=h.K
variable{path:List Int}
theorem FI.way{out:List Int}(h:FI R n seen dn path out){u v:Int}(hu:u∈out)(hr:ReachI R u v):v∈out∨∃z∈path,ReachI R u z:=by
 induction hr with
 | one e=>
   rcases adv.1 (h.cl u hu _ e) with k|k
   . exact .inl k
   . exact .inr ⟨_,k,.one e⟩
 | step hx e ih=>
   rcases ih with k|k
   . rcases adv.1 (h.cl _ k _ e) with k'|k'
     . exact .inl k'
     . exact .inr ⟨_,k',.step hx e⟩
   . exact .inr k
variable{l:Int}
theorem FI.pop{p out:List Int}(h:FI R n seen dn (p++[l]) out)(hd:dn[l.toNat]?=some ((rowS R l).length:Int)):FI R n seen dn p (out++[l]):=by
 have hset:∀x,x∈(out++[l])++p↔x∈out++(p++[l]):=fun x=>by simp only[adv,adj];grind
 obtain⟨hl0,hln⟩:=h.rg l A0k;obtain⟨k,hk1,hk2,hk3⟩:=h.dn l hl0 hln;have hk:k=(rowS R l).length:=by rw[hd] at hk1;cases hk1;omega
 rw[hk,aei] at hk3;have hch:=aeF.1 h.ch;refine⟨h.ls,h.ld,?_,fun x hx=>h.rg x ((hset x).1 hx),fun x a b=>(h.mem x a b).trans (hset x).symm,fun x a b=>?_,fun x hx y hy=>?_,hch.1,fun i x hi y hy=>?_,fun j i k u w z hj hi hk hji hik hr=>?_,fun j i u w z hj hi hz hji hr=>?_⟩
 . exact(List.Perm.nodup_iff (by rw[aef];exact List.Perm.append_left _ List.perm_append_comm)).1 h.nd
 . obtain⟨k,a,b,c⟩:=h.dn x a b;exact⟨k,a,b,fun y hy=>(hset y).2 (c y hy)⟩
 . rcases adv.1 hx with hx|hx
   . exact(hset y).2 (h.cl x hx y hy)
   . rw[adj] at hx;subst hx;exact(hset y).2 (hk3 y hy)
 . rcases jI hi with⟨hi',gi⟩|⟨rfl,rfl⟩
   . rw[ael A0b];exact h.F i x gi y hy
   . rw[ael (adp _),aei];have:=hk3 y hy;rw[adv,adv,adj] at this;rcases this with e|e|rfl
     . exact .inl e
     . exact .inr (hch.2.2 y e _ (agl _))
     . exact .inr (.one hy)
 . rcases jI hj with⟨hj',gj⟩|⟨rfl,rfl⟩
   . rcases jI hi with⟨hi',gi⟩|⟨rfl,rfl⟩
     . rcases jI hk with⟨hk',gk⟩|⟨rfl,rfl⟩
       . exact h.K j i k u w z gj gi gk hji hik hr
       . exact h.KI j i u w _ gj gi A0k hji hr
     . have:=(iO.1 hk).1;simp at this;omega
   . have:=(iO.1 hi).1;simp at this;omega
 . rcases jI hj with⟨hj',gj⟩|⟨rfl,rfl⟩
   . rcases jI hi with⟨hi',gi⟩|⟨rfl,rfl⟩
     . exact h.KI j i u w z gj gi (ad2 _ hz) hji hr
     . exact hr.trans (hch.2.2 z hz _ (agl _))
   . have:=(iO.1 hi).1;simp at this;omega
variable{y:Int}{k:Nat}
theorem FI.look{out:List Int}(h:FI R n seen dn path out)(hd:dn[l.toNat]?=some (k:Int))(hl:0<=l)(hy:(rowS R l)[k]?=some y)(hm:y∈out++path):FI R n seen (dn.set l.toNat ((k:Int)+1)) path out:=by
 refine⟨h.ls,by rw[adV];exact h.ld,h.nd,h.rg,h.mem,fun x a b=>?_,h.cl,h.ch,h.F,h.K,h.KI⟩;obtain⟨k',a',b',c'⟩:=h.dn x a b;by_cases e:l.toNat=x.toNat
 . have e:l=x:=A0b
   subst e;rw[hd] at a';have hk:k=k':=by cases a';rfl
   subst hk;have hkl:=(iO.1 hy).1;refine⟨k+1,?_,hkl,fun z hz=>?_⟩
   . rw[adX,adl rfl,adl (by rw[h.ld];exact b)];simp
   . rw[aF hy,adv,adj] at hz;rcases hz with hz|rfl
     . exact c' z hz
     . exact hm
 . exact⟨k',by rw[adX,adq e];exact a',b',c'⟩
theorem FI.push{out:List Int}{v:Int}(h:FI R n seen dn path out)(h0:0<=v)(hn:v.toNat<n)(hs:seen[v.toNat]?=some false)(hr:∀z∈path,ReachI R z v):FI R n (seen.set v.toNat true) dn (path++[v]) out:=by
 have hv:v∉out++path:=fun e=>by rw[(h.mem v h0 hn).2 e] at hs;cases hs
 refine⟨by rw[adV];exact h.ls,h.ld,?_,fun x hx=>?_,fun x a b=>?_,fun x a b=>?_,fun x hx y hy=>?_,?_,h.F,h.K,fun j i u w z hj hi hz hji hr'=>?_⟩
 . rw[<-aef];exact aeH.2 ⟨h.nd,(aeY _ _),fun a ha b hb=>by rw[adj] at hb;subst hb;exact fun e=>hv (e▸ha)⟩
 . rw[<-aef,adv,adj] at hx;rcases hx with hx|rfl
   . exact h.rg x hx
   . exact⟨h0,hn⟩
 . rw[<-aef,adv,adj,adX];by_cases e:v.toNat=x.toNat
   . rw[adl e,adl (by rw[h.ls];exact hn)];exact⟨fun _=> .inr A0b,fun _=>rfl⟩
   . rw[adq e,h.mem x a b];exact⟨.inl,fun k=>k.resolve_right fun k=>e (by rw[k])⟩
 . obtain⟨k,a',b',c'⟩:=h.dn x a b;exact⟨k,a',b',fun y hy=>by rw[<-aef];exact ad2 _ (c' y hy)⟩
 . rw[<-aef];exact ad2 _ (h.cl x hx y hy)
 . exact aeF.2 ⟨h.ch,(aeY _ _),fun a ha b hb=>by rw[adj] at hb;subst hb;exact hr a ha⟩
 . rcases adv.1 hz with hz|hz
   . exact h.KI j i u w z hj hi hz hji hr'
   . rw[adj] at hz;subst hz;rcases h.way (adg hj) hr' with e|⟨z',hz',e⟩
     . exact absurd (ad2 _ e) hv
     . exact h.KI j i u w z' hj hi hz' hji e
theorem Ex{f g:Nat->Nat}{a:Nat}:∀{l:List Nat},(∀x∈l,g x<=f x)->a∈l->g a+1<=f a->(l.map g).sum+1<=(l.map f).sum
 |[],_,h,_=>by cases h
 | x ::l,hle,ha,hlt=>by
   have hx:=hle x (adP ..);have hs:(l.map g).sum<=(l.map f).sum:=by
    have:∀{l:List Nat},(∀x∈l,g x<=f x)->(l.map g).sum<=(l.map f).sum:=fun {l}=>by
     induction l with
     |nil=>intro _;simp
     |cons y l ih=>intro h;have:=h y (adP ..);have:=ih (fun z hz=>h z (adE _ hz));simp only[adL,List.sum_cons];omega
    exact this (fun z hz=>hle z (adE _ hz))
   simp only[adL,List.sum_cons];rcases adA.1 ha with rfl|ha
   . omega
   . have:=Ex (fun z hz=>hle z (adE _ hz)) ha hlt;omega
def Me(R:List (List Int))(n:Nat)(dn:List Int):Nat:=((List.range n).map fun(i:Nat)=>(rowS R (i:Int)).length-(atI dn (i:Int)).toNat).sum
theorem Mf(h0:0<=l)(hn:l.toNat<n)(hd:dn[l.toNat]?=some (k:Int))(hk:k<(rowS R l).length):Me R n (dn.set l.toNat ((k:Int)+1))+1<=Me R n dn:=by
 have hl:=(iO.1 hd).1;have e1:atI (dn.set l.toNat ((k:Int)+1)) (l.toNat:Int)=k+1:=fw (by rw[tl,adX,adl rfl,adl hl]);have e2:atI dn (l.toNat:Int)=k:=fw (by rw[tl];exact hd);have e3:(l.toNat:Int)=l:=aec h0;refine Ex (a:=l.toNat) (fun x _=>?_) (adU.2 hn) ?_
 . by_cases e:x=l.toNat
   . subst e;rw[e1,e2];omega
   . have:atI (dn.set l.toNat ((k:Int)+1)) (x:Int)=atI dn (x:Int):=by unfold atI;rw[tl,adX,adq (fun h=>e h.symm)]
     rw[this];exact adp _
 . rw[e1,e2,e3];omega
def SC(R:List (List Int))(x y:Int):Prop:=x=y∨(ReachI R x y∧ReachI R y x)
theorem SC.refl(x:Int):SC R x x:= .inl rfl
theorem SC.symm{R:List (List Int)}{x y:Int}(h:SC R x y):SC R y x:=h.imp Eq.symm And.symm
theorem SC.trans{x z:Int}(h:SC R x y)(k:SC R y z):SC R x z:=by
 rcases h with rfl|h
 . exact k
 . rcases k with rfl|k
   . exact .inr h
   . exact .inr ⟨h.1.trans k.1,k.2.trans h.2⟩
inductive WU (R:List (List Int)) (P:Int->Prop) (r:Int):Int->Prop
 |refl:WU R P r r
 |step {x y:Int} (hx:P x) (e:y∈rowS R x) (h:WU R P r y):WU R P r x
theorem Ey{l:List Int}(h:l.Nodup){i j:Nat}{x:Int}(hi:l[i]?=some x)(hj:l[j]?=some x):i=j:=by
 obtain⟨a,b⟩:=iO.1 hi;obtain⟨c,d⟩:=iO.1 hj;rcases Nat.lt_trichotomy i j with e|e|e
 . exact absurd (b.trans d.symm) (ae9.1 h i j a c e)
 . exact e
 . exact absurd (d.trans b.symm) (ae9.1 h j i c a e)
variable{r:Int}
theorem WU.first{out:List Int}{P:Int->Prop}{x:Int}{i:Nat}(hnd:out.Nodup)(hr:out[k]?=some r)(hP:∀y,P y->∃j,j<=k∧out[j]?=some y)(hik:i<k){x':Int}(h:WU R P r x'):(∃j,j<=i∧out[j]?=some x')->(x=x'∨ReachI R x x')->
 ∃v w,(x=v∨ReachI R x v)∧w∈rowS R v∧(∃j,j<=i∧out[j]?=some v)∧(∃j,i<j∧j<=k∧out[j]?=some w)∧WU R P r w:=by
 induction h with
 |refl=>rintro⟨j,hj,ho⟩ _;have:=Ey hnd ho hr;omega
 | @step x' y hx e h ih=>
   intro hj hw;have hpy:∃j,j<=k∧out[j]?=some y:=by
    cases h with
    |refl=>exact⟨k,adp _,hr⟩
    |step hy _ _=>exact hP _ hy
   obtain⟨j,hjk,hjo⟩:=hpy;by_cases hle:j<=i
   . exact ih ⟨j,hle,hjo⟩ (.inr (by
      rcases hw with rfl|hw
      . exact .one e
      . exact .step hw e))
   . exact⟨x',y,hw,e,hj,⟨j,A0b,hjk,hjo⟩,h⟩
theorem FinOK.knot{out:List Int}(hF:FinOK R n out){P:Int->Prop}{r:Int}{k:Nat}(hr:out[k]?=some r)(hP:∀y,P y->∃j,j<=k∧out[j]?=some y):∀(d i:Nat) (x:Int),k-i<=d->i<=k->out[i]?=some x->WU R P r x->SC R x r:=by
 intro d
 induction d with
 | zero=>
   intro i x hd hi hx _;have:i=k:=A0b
   subst this;rw[hr] at hx;cases hx;exact .refl _
 | succ d ih=>
   intro i x hd hi hx hw;by_cases e:i=k
   . subst e;rw[hr] at hx;cases hx;exact .refl _
   obtain⟨v,w,hxv,hvw,⟨j,hji,hjv⟩,⟨j',hij',hj'k,hjw⟩,hw'⟩:=WU.first (x:=x) hF.nd hr hP A0b hw ⟨i,adp _,hx⟩ (.inl rfl);have hwv:ReachI R w v:=by
    rcases hF.F j v hjv w hvw with h|h
    . obtain⟨q,hq⟩:=ad8.1 h;have hql:q<j:=by have:=(iO.1 hq).1;rw[adz] at this;omega
      rw[agj hql] at hq;have:=Ey hF.nd hq hjw;omega
    . exact h
   have hvx:v=x∨ReachI R v x:=by
    by_cases e':j=i
    . subst e';rw[hjv] at hx;cases hx;exact .inl rfl
    . exact .inr (hF.K j i j' v x w hjv hx hjw A0b hij' (.one hvw))
   have h1:SC R x w:= .inr ⟨by
    rcases hxv with rfl|hxv
    . exact .one hvw
    . exact .step hxv hvw,by
    rcases hvx with rfl|hvx
    . exact hwv
    . exact hwv.trans hvx⟩
   exact h1.trans (ih j' w A0b hj'k hjw hw')
def zx(n:Nat)(R S:List (List Int)):Prop:=∀x y:Int,0<=x->x.toNat<n->0<=y->y.toNat<n->(x∈rowS S y↔y∈rowS R x)
def u7(R:List (List Int))(n:Nat)(x h:Int):Prop:=SC R x h∧(0<=h∧h.toNat<n)∧∀y:Int,0<=y->y.toNat<n->SC R x y->h<=y
def HSt(R:List (List Int))(n:Nat)(out:List Int)(k:Nat)(L:List Int):Prop:=
 L.length=n∧∀x:Int,0<=x->x.toNat<n->∃h,L[x.toNat]?=some h∧(h= -1↔∀j y,k<=j->out[j]?=some y-> ¬SC R x y)∧(h≠ -1->u7 R n x h)
theorem HSt.start{out:List Int}(hk:out.length<=k):HSt R n out k (List.replicate n (-1)):=
 ⟨aez,fun x h0 hn=>⟨-1,by rw[ad4,adl hn],⟨fun _ j y hj ho=>(by have:=(iO.1 ho).1;omega),fun _=>rfl⟩,fun h=>absurd rfl h⟩⟩
variable{L:List Int}
theorem HSt.same{out:List Int}(h:HSt R n out k L){x y:Int}(hx:0<=x∧x.toNat<n)(hy:0<=y∧y.toNat<n)(hs:SC R x y)(hl:L[x.toNat]?=some (-1)):L[y.toNat]?=some (-1):=by obtain⟨a,a1,a2,_⟩:=h.2 x hx.1 hx.2;obtain⟨b,b1,b2,_⟩:=h.2 y hy.1 hy.2;rw[hl] at a1;cases a1;rw[b1,b2.2 fun j z hj ho hyz=>a2.1 rfl j z hj ho (hs.trans hyz)]
theorem HSt.skip{out:List Int}(h:HSt R n out (k+1) L)(hr:out[k]?=some r)(hrr:0<=r∧r.toNat<n)(hl:L[r.toNat]?≠some (-1)):HSt R n out k L:=by
 refine⟨h.1,fun x h0 hn=>?_⟩;obtain⟨a,a1,a2,a3⟩:=h.2 x h0 hn;refine⟨a,a1,⟨fun e j y hj ho hs=>?_,fun e=>a2.2 fun j y hj=>e j y A0b ⟩,a3⟩;by_cases ej:j=k
 . subst ej;rw[hr] at ho;cases ho;subst e;exact hl (h.same ⟨h0,hn⟩ hrr hs a1)
 . exact a2.1 e j y A0b ho hs
theorem mf(h:bU n S){x y:Int}(hy:y∈rowS S x):0<=y∧y.toNat<n:=by
 unfold rowS at hy;cases hs:S[x.toNat]? with
 |none=>rw[hs] at hy;cases hy
 |some l=>rw[hs] at hy;exact(h.2.2 l (adg hs)).2 y hy
theorem zy(h:bU n R){x y:Int}(hr:ReachI R x y):0<=y∧y.toNat<n:=by
 cases hr with
 |one e=>exact mf h e
 |step _ e=>exact mf h e
variable{f L1:List Int}
theorem HSt.knot{out:List Int}(hF:FinOK R n out)(hR:bU n R)(hS:bU n S)(hrev:zx n R S)(h:HSt R n out (k+1) L)(hr:out[k]?=some r)(hl:L[r.toNat]?=some (-1))(hI:HangI S L r f L1)(hc:CB S L1 f):∀x,x∈f↔((0<=x∧x.toNat<n)∧SC R x r):=by
 have hrr:=(hF.mem r).1 (adg hr);have hLn:=h.1;intro x;refine⟨fun hx=>?_,fun⟨hx,hs⟩=>?_⟩
 . obtain⟨hx1,hx2,hx3⟩:=hI.mem x hx;rw[hLn] at hx1;refine⟨hx1,?_⟩;have hP:∀y:Int,((0<=y∧y.toNat<n)∧L[y.toNat]?=some (-1))->∃j,j<=k∧out[j]?=some y:=fun y ⟨hy,hly⟩=>by
    obtain⟨j,hj⟩:=ad8.1 ((hF.mem y).2 hy);refine⟨j,?_,hj⟩;rcases aeb k j with e|e
    . obtain⟨a,a1,a2,_⟩:=h.2 y hy.1 hy.2;rw[hly] at a1;cases a1;exact absurd (SC.refl y) (a2.1 rfl j y e hj)
    . exact e
   have hw:(0<=x∧x.toNat<n)∧WU R (fun y=>(0<=y∧y.toNat<n)∧L[y.toNat]?=some (-1)) r x:=by
    clear hx hx1 hx2
    induction hx3 with
    |refl=>exact⟨hrr,.refl⟩
    | @step x y _ e hn ih=>have hy:=mf hS e;exact⟨hy,.step ⟨hy,hn⟩ ((hrev y x hy.1 hy.2 ih.1.1 ih.1.2).1 e) ih.2⟩
   obtain⟨j,hj,hjo⟩:=hP x ⟨hx1,hx2⟩;exact hF.knot hr hP (k-j) j x (adp _) hj hjo hw.2
 . have key:∀y z:Int,(0<=y∧y.toNat<n)->SC R y r->z∈f->z∈rowS R y->y∈f:=fun y z hy hsy hz e=>by
    have hz':=(hI.mem z hz).1;rw[hLn] at hz';have h1:=hc z hz y ((hrev y z hy.1 hy.2 hz'.1 hz'.2).2 e);have h2:=hI.val y.toNat;rw[aec hy.1] at h2;split at h2
    . assumption
    . rw[h2,h.same hrr hy hsy.symm hl] at h1;exact absurd rfl h1
   rcases hs with rfl|⟨h1,h2⟩
   . exact hI.start
   . have all:∀z,ReachI R x z->z∈f->(ReachI R z r∨z=r)->x∈f:=fun z hz=>by
      induction hz with
      |one e=>intro hzf _;exact key x _ hx (.inr ⟨h1,h2⟩) hzf e
      | @step y z hy e ih=>
        intro hzf hzr;have hyr:ReachI R y r:=by
         rcases hzr with hzr|rfl
         . exact(ReachI.one e).trans hzr
         . exact .one e
        exact ih (key y z (zy hR hy) (.inr ⟨hyr,h2.trans hy⟩) hzf e) (.inl hyr)
     exact all r h1 hI.start (.inr rfl)
theorem HSt.tell{out:List Int}{L2:List Int}{hd:Int}(hF:FinOK R n out)(hR:bU n R)(hS:bU n S)(hrev:zx n R S)(h:HSt R n out (k+1) L)(hr:out[k]?=some r)(hl:L[r.toNat]?=some (-1))(hI:HangI S L r f L1)(hc:CB S L1 f)
 (hm:hd∈f) (hle:∀x∈f,hd<=x) (h2:∀j:Nat,L2[j]?=if (j:Int)∈f then some hd else L[j]?):HSt R n out k L2:=by
 have hk:=HSt.knot hF hR hS hrev h hr hl hI hc;have hrr:=(hF.mem r).1 (adg hr);obtain⟨hd1,hd2⟩:=(hk hd).1 hm;refine⟨?_,fun x h0 hn=>?_⟩
 . rw[<-h.1];have hsame:∀j:Nat,L2[j]?=none↔L[j]?=none:=fun j=>by
    rw[h2];split
    . rename_i hj;have:=((hk _).1 hj).1.2;rw[tl,<-h.1] at this;simp[io this]
    . rfl
   have a:=(hsame L.length).2 A0k;have b:=(hsame L2.length).1 A0k;rw[agc] at a b;omega
 . have h3:=h2 x.toNat;rw[aec h0] at h3;by_cases hx:x∈f
   . rw[adl hx] at h3;have hxr:=((hk x).1 hx).2;refine⟨hd,h3,⟨fun e=>by omega,fun e=>absurd hxr (e k r (adp _) hr)⟩,fun _=>⟨hxr.trans hd2.symm,hd1,fun y y0 yn hs=>hle y ((hk y).2 ⟨⟨y0,yn⟩,hs.symm.trans hxr⟩)⟩⟩
   . rw[adq hx] at h3;obtain⟨a,a1,a2,a3⟩:=h.2 x h0 hn;refine⟨a,h3.trans a1,⟨fun e j y hj ho hs=>?_,fun e=>a2.2 fun j y hj=>e j y A0b ⟩,a3⟩;by_cases ej:j=k
     . subst ej;rw[hr] at ho;cases ho;exact hx ((hk x).2 ⟨⟨h0,hn⟩,hs⟩)
     . exact a2.1 e j y A0b ho hs
theorem HSt.done{out:List Int}(hF:FinOK R n out)(h:HSt R n out 0 L):L.length=n∧∀x:Int,0<=x->x.toNat<n->∃hd,L[x.toNat]?=some hd∧u7 R n x hd:=by refine⟨h.1,fun x h0 hn=>?_⟩;obtain⟨a,a1,a2,a3⟩:=h.2 x h0 hn;obtain⟨j,hj⟩:=ad8.1 ((hF.mem x).2 ⟨h0,hn⟩);exact⟨a,a1,a3 fun e=>a2.1 e j x (adN _) hj (SC.refl x)⟩
def mer(H Hn:HH):HH:=fun y=>match H y with
 |some ob=>some ob
 |none=>Hn y
def Dis(H Hn:HH):Prop:=∀y,Hn y≠none->H y=none
variable{H Hn:HH}
theorem iB{y:Nat}(h:H y=none):mer H Hn y=Hn y:=by unfold mer;rw[h]
theorem n7(hd:Dis H Hn){g:Nat}{ob:Obj}(h:Hn g=some ob):mer H Hn g=some ob:=by rw[iB (hd g (by rw[h];simp)),h]
variable{g:Nat}
theorem P4{ob:Obj}(h:H g=some ob):mer H Hn g=some ob:=by unfold mer;rw[h]
theorem jm(h:mer H Hn g=none):H g=none∧Hn g=none:=by
 unfold mer at h;split at h
 . cases h
 . exact⟨by assumption,h⟩
theorem cH{o:Option Obj}(h:H g=none):upd (mer H Hn) g o=mer H (upd Hn g o):=by
 funext y;by_cases e:y=g
 . subst e;rw[aj,iB h,aj]
 . rw[ah _ _ e];unfold mer;rw[ah _ _ e]
theorem Dis.upd(hd:Dis H Hn){g:Nat}{o:Option Obj}(h:H g=none):Dis H (upd Hn g o):=fun y hy=>by
 by_cases e:y=g
 . rw[e];exact h
 . rw[ah _ _ e] at hy;exact hd y hy
theorem Dis.empty(H:HH):Dis H (fun _=>none):=fun _ h=>absurd rfl h
theorem jo(H:HH):mer H (fun _=>none)=H:=by funext y;unfold mer;cases H y<;>rfl
theorem RowJ.mer(hd:Dis H Hn){v:Value}{es:List Int}(h:RowJ Hn v es):RowJ (mer H Hn) v es:=h.imp id fun⟨g,cap,cur,ty,h1,h2,h3⟩=>⟨g,cap,cur,ty,h1,n7 hd h2,h3⟩
theorem RowJ.of_mer{v:Value}{es:List Int}(h:RowJ (Go.Proofs.YtiepfeebmnfbdaaGreat.mer H Hn) v es)(hb:∀g,blkOf v=some g->H g=none):RowJ Hn v es:=by
 rcases h with h|⟨g,cap,cur,ty,rfl,h2,h3⟩
 . exact .inl h
 . exact .inr ⟨g,cap,cur,ty,rfl,by rw[<-h2,iB (hb g rfl)],h3⟩
theorem nh{r u:V}{T:V->HH->Prop}(hrd:∀m w v,(∀g ob,Hn g=some ob->w.heap[g]?=some ob)->(∀g,Hn g≠none->m g=none)->Rd m w v r->Rd m w v u)(hd:Dis H Hn)(hT:T u H):K8 r (mer H Hn) T:=by
 refine⟨fun y=>(H y).isNone,u,fun m w v h1 h2 h3=>hrd m w v (fun g ob hg=>h1 g ob (n7 hd hg)) (fun g hg=>?_) h3,?_⟩
 . have hn:=hd g hg;exact h2 g (by simp[hn]) (by rw[iB hn];exact hg)
 . have e:(fun g=>if (H g).isNone=true then none else mer H Hn g)=H:=by
    funext g;cases hg:H g with
    |none=>simp
    |some ob=>simp[P4 hg]
   rw[e];exact hT
def m1(h:List Int)(M:List (List Int))(p:Nat):List (List Int):=M.set (atI h (p:Int)).toNat (rowZ M (atI h (p:Int))++[(p:Int)])
def fe(h:List Int)(n:Nat):List (List Int):=(List.range n).foldl (m1 h) (List.replicate h.length [])
theorem kS(h:List Int)(i:Nat):fe h (i+1)=m1 h (fe h i) i:=by unfold fe;rw[afs,aeT];rfl
theorem gX(h:List Int)(i:Nat):(fe h i).length=h.length:=by
 induction i with
 |zero=>simp[fe]
 |succ i ih=>rw[kS];unfold m1;rw[adV];exact ih
theorem Mg(h:List Int)(i:Nat):∀r∈fe h i,r.length<=i:=by
 induction i with
 |zero=>intro r hr;simp[fe] at hr;rw[hr.2];simp
 | succ i ih=>
   intro r hr;rw[kS] at hr;rcases afJ hr with hr|rfl
   . have:=ih r hr;omega
   . rw[adh,aej];unfold rowZ;cases e:(fe h i)[(atI h (i:Int)).toNat]? with
     |none=>simp
     |some r=>have:=ih r (adg e);simpa using this
def YO(us:U)(H:HH)(T:V->HH->Prop):Prop:=∃hs,us=[.l 1 (hs.map aw)]∧hs.length<=400∧(∀x∈hs,0<=x∧x.toNat<hs.length)∧T (.sl false 1 ((fe hs hs.length).map rI) none) H
theorem zz:cR (bV [] [] [] (fun _=>false) (fun _=>false)) 17 YO:=by
 refine mU (F:={F:=fun _=>none,D:=fun d=>d==8}) (n:=28) (k:=1) (bF [] [] [] _ _ trivial trivial trivial) A0a (fun f C e=>by cases e) (fun t s C e=>by cases e) func17 rfl (fun a w=>call17 a w) ntmps17 A0c A0c A0a ?_;rintro us H T ⟨hs,rfl,hn4,hh,hT⟩ hdat;refine⟨rfl,?_⟩;have z49:rO prog 50=some 1:=A0a
 have m49:Pv prog 50=some (54,1,24,.slice none 0 0):=A0a
 have ha:KY prog 54=true:=A0a
 have l1:((24:Nat):Int)*(hs.length:Int)<=281474976710656:=A0b
 have l2:(hs.length:Int)<=9223372036854775807:=A0b
 have l3:(0:Int)<=(hs.length:Int):=A0b
 simp +decide only[go_sem,m49,z49,eq,l1,l2,l3,tl,adx];intro g hg;refine bz (X:={i:Nat//i<=hs.length}) (fun i=>[(3,.x (.s g hs.length hs.length)),(9,.l 1 (hs.map aw)),(10,aw (hs.length:Int)),(11,aw (i.1:Int))]) (fun _=>[]) (fun i H'=>∃vs Hn,H'=mer H Hn∧Dis H Hn∧Hn g=some (rowO vs 54)∧Piles Hn vs (fe hs i.1) [g]) (fun i=>hs.length-i.1) ⟨0,adN _⟩ A0f A0f ⟨List.replicate hs.length (.slice none 0 0),upd (fun _=>none) g (some (rowO (List.replicate hs.length (.slice none 0 0)) 54)),by rw[<-cH hg,jo],(Dis.empty H).upd hg,aj _ _ _,⟨by simp[fe],fun i v es hv he=>?_,fun i j v v' b _ hv _ hb=>?_,fun i v b hv hb=>?_⟩⟩ ?_
 . rw[ad4] at hv;simp only[fe,List.range_zero,afm,ad4] at he;split at hv<;>cases hv;split at he<;>cases he<;>exact .inl ⟨rfl,rfl⟩
 . rw[ad4] at hv;split at hv<;>cases hv;cases hb
 . rw[ad4] at hv;split at hv<;>cases hv;cases hb
 rintro⟨i,hi⟩ H1 ⟨vs,Hn,rfl,hd,hgn,hpl⟩;simp only at hi hgn hpl⊢;have hvl:vs.length=hs.length:=by rw[hpl.len,gX]
 by_cases hil:i<hs.length
 case neg=>
  obtain rfl:i=hs.length:=A0b
  have d1:decide ((hs.length:Int)<hs.length)=false:=Io A0b;simp +decide only[go_sem,eq,d1];refine nh (fun m w v h1 h2 h3=>?_) hd hT;rw[Rd.x_iff.1 h3];exact jk (ty:=54) hgn hpl.row hvl (gX _ _) h1 h2
 have d1:decide ((i:Int)<hs.length)=true:=ac0 A0b;have d2:(0:Int)<=(i:Int):=A0b
 have d3:(i:Int)<hs.length:=A0b
 have d4:=ax (i:=i) A0b;have q1:hs[i]?=some hs[i]:=io hil;have q2:(hs.map aw)[(i:Int).toNat]?=some (aw hs[i]):=by rw[tl,ac9,q1];rfl
 have qm:hs[i]∈hs:=adR hil;generalize hs[i]=a at q1 q2 qm;obtain⟨a0,al⟩:=hh a qm;have a1:a<(hs.length:Int):=A0b
 have hai:atI hs (i:Int)=a:=fW q1;have c1:=bf (n7 hd hgn);obtain⟨v,hv⟩:∃v,vs[a.toNat]?=some v:=⟨_,io A0b ⟩;obtain⟨es,hes⟩:∃es,(fe hs i)[a.toNat]?=some es:=⟨_,io (by rw[gX];exact al)⟩;have hrow:=hpl.row _ v es hv hes;have p1:(vs.map V.x)[a.toNat]?=some (.x v):=by rw[ac9,hv];rfl
 have hrl:=Mg hs i es (adg hes);simp +decide only[go_sem,eq,d1,d2,d3,q2,z49,a0,a1,c1,p1,ha,adi,adx];refine⟨es,hrow.j.mer hd,A0b,fun v' g' ob hb hgg hr'=>?_⟩;have hg'n:blkOf v=some g'∨Hn g'=none:=hgg.imp id fun h=>(jm h).2
 have hgH:H g'=none:=by
  rcases hgg with h|h
  . exact hd g' (hrow.blk h)
  . exact(jm h).1
 rw[cH hgH] at hr'⊢;have hd2:=hd.upd (o:=some ob) hgH;have hr2:RowI (upd Hn g' (some ob)) v' (es++[(i:Int)]):=(hr'.of_mer (fun y hy=>by rw[hb] at hy;cases hy;exact hgH)).i A0k;have hne:g'≠g:=by
  rintro rfl;rcases hg'n with h|h
  . exact hpl.out _ v _ hv h (adj.2 rfl)
  . rw[hgn] at h;cases h
 have hpl2:=hpl.set hv (fun x hx=>by rw[adj.1 hx,hgn];simp) hb hg'n hr2;have hgn2:upd Hn g' (some ob) g=some (rowO vs 54):=by rw[ah _ _ (aeM hne)];exact hgn
 have c2:=bf (n7 hd2 hgn2);have x1:=mZ hr2.j.one;have a2:a.toNat+1<=vs.length:=A0b
 have hsp:fU vs a.toNat [v']=vs.set a.toNat v':=dh _ _ _ A0b;simp +decide only[go_sem,eq,z49,a0,a1,a2,c2,x1,hsp,d4,adi,adx];have hm:fe hs (i+1)=(fe hs i).set a.toNat (es++[(i:Int)]):=by rw[kS];unfold m1 rowZ;rw[hai,hes];rfl
 refine⟨⟨i+1,hil⟩,⟨?_,?_,vs.set a.toNat v',upd (upd Hn g' (some ob)) g (some (rowO (vs.set a.toNat v') 54)),cH hg,hd2.upd hg,aj _ _ _,?_⟩,by simp only;omega⟩
 . exact WV
 . exact WV
 . simp only[hm];exact hpl2.other (adj.2 rfl)
def f1(h:List Int)(a:Int)(q:List Int×List Int)(r:Int):List Int×List Int:=if atI h r=a then q else (q.1.set (atI h r).toNat (atI q.1 (atI h r)-1),if atI q.1 (atI h r)-1=0 then q.2++[atI h r] else q.2)
theorem Q5(h:List Int)(a:Int)(q:List Int×List Int)(r:Int):f1 h a q r=if atI h r=a then q else (q.1.set (atI h r).toNat (atI q.1 (atI h r)-1),if atI q.1 (atI h r)-1=0 then q.2++[atI h r] else q.2):=rfl
def Mh(S:List (List Int))(h:List Int)(q:List Int×List Int)(p:Int):List Int×List Int:=(rowZ S p).foldl (f1 h (atI h p)) q
def cV(S:List (List Int))(h W ps:List Int):List Int×List Int:=ps.foldl (Mh S h) (W,[])
def okFr(n m:Nat)(q:List Int×List Int):Prop:=q.1.length=n∧(∀x∈q.1,-(m:Int)<=x∧x<=100000000000)∧q.2.length<=m
theorem okFr.mono{m m':Nat}{q:List Int×List Int}(h:okFr n m q)(hm:m<=m'):okFr n m' q:=⟨h.1,fun x hx=>by have:=h.2.1 x hx;omega,adJ h.2.2 hm⟩
def Mi(us:U)(H:HH)(T:V->HH->Prop):Prop:=∃C R S hs ps W g ty,us=[jf C R S,.l 1 (ps.map aw),.l 1 (hs.map aw),.x (.s g hs.length hs.length)]∧bU hs.length S∧(∀x∈hs,0<=x∧x.toNat<hs.length)∧(∀x∈ps,0<=x∧x.toNat<hs.length)∧ps.length<=400∧W.length=hs.length∧(∀x∈W,0<=x∧x<=100000000000)∧H g=some (rowO (W.map iv) ty)∧
 ∀b z,((cV S hs W ps).2≠[]->b=false∧z=1)->T (.sl b z ((cV S hs W ps).2.map aw) none) (upd H g (some (rowO ((cV S hs W ps).1.map iv) ty)))
theorem Hy:cR (bV [] [] [] (fun _=>false) (fun _=>false)) 23 Mi:=by
 refine cO (F:={F:=fun _=>none,D:=fun _=>false}) (n:=59) (k:=4) (bF [] [] [] _ _ trivial trivial trivial) A0a (fun f C e=>by cases e) (fun t s C e=>by cases e) func23 rfl (fun a w=>call23 a w) ntmps23 A0c A0c A0a ?_;rintro us H T ⟨C,R,S,hs,ps,W0,g,ty,rfl,⟨hSl,hn4,hS⟩,hh,hps,hpl,hWl,hW0,hH,hT⟩ hdat;refine⟨rfl,?_⟩;have z52:rO prog 54=some 1:=A0a
 simp only[jf];simp +decide (maxDischargeDepth:=200) only[go_sem,eq];refine nR 9 1 55 A0O ?_;refine bz (X:={i:Nat//i<=ps.length∧okFr hs.length (i*100000000) (cV S hs W0 (ps.take i))}) (fun i=>[(2,.l 1 (hs.map aw)),(3,.x (.s g hs.length hs.length)),(4,.ptr 4 0),(9,.sl ((cV S hs W0 (ps.take i.1)).2.map aw).isEmpty 1 ((cV S hs W0 (ps.take i.1)).2.map aw) (some 55)),(15,.l 1 (ps.map aw)),(16,aw (ps.length:Int)),(17,aw (i.1:Int))]) (fun _=>[(4,[.l 3 (C.map aa),.l 1 (R.map rI),.l 1 (S.map rI)])]) (fun i H'=>H'=upd H g (some (rowO ((cV S hs W0 (ps.take i.1)).1.map iv) ty))) (fun i=>ps.length-i.1) ⟨0,adN _,by simpa[cV] using hWl,fun x hx=>by simp only[cV,ad5,afm] at hx;have:=hW0 x hx;omega,by simp[cV]⟩ A0f A0f ?_ ?_
 . show H=_;funext y;rw[aJ];split
   . rename_i e;rw[e];simpa[cV] using hH
   . rfl
 rintro⟨i,hi,hW⟩ H1 rfl;simp only at hi hW⊢;by_cases hil:i<ps.length
 case neg=>have d1:decide ((i:Int)<ps.length)=false:=Io A0b;rw[ady A0b];simp +decide only[go_sem,eq,d1];exact hT _ _ (fun h=>⟨by cases e:(cV S hs W0 ps).2 with|nil=>exact absurd e h|cons _ _=>rfl,rfl⟩)
 have d1:decide ((i:Int)<ps.length)=true:=ac0 A0b;have d2:(0:Int)<=(i:Int):=A0b
 have d3:(i:Int)<ps.length:=A0b
 have d4:=ax (i:=i) A0b;have q1:ps[i]?=some ps[i]:=io hil;have q2:(ps.map aw)[(i:Int).toNat]?=some (aw ps[i]):=by rw[tl,ac9,q1];rfl
 have qm:ps[i]∈ps:=adR hil;generalize ps[i]=p at q1 q2 qm;obtain⟨p0,pl⟩:=hps p qm;have i2:p<(S.length:Int):=A0b
 obtain⟨rs,hrsr⟩:∃rs,S[p.toNat]?=some rs:=⟨_,io A0b ⟩;obtain⟨br,zr,hbzr,hzr⟩:∃b z,rI rs= .sl b z (rs.map aw) none∧(rs≠[]->z=1):=th rs;have arr:(S.map rI)[p.toNat]?=some (.sl br zr (rs.map aw) none):=by rw[ac9,hrsr,<-hbzr];rfl
 obtain⟨hr8,hrr⟩:=hS rs (adg hrsr);have hrz:rowZ S p=rs:=by unfold rowZ;rw[hrsr];rfl
 obtain⟨a,ha⟩:∃a,hs[p.toNat]?=some a:=⟨_,io pl⟩;have hai:atI hs p=a:=fw ha;have hap:(hs.map aw)[p.toNat]?=some (aw a):=by rw[ac9,ha];rfl
 have p1:p<(hs.length:Int):=A0b
 have hstep:cV S hs W0 (ps.take (i+1))=rs.foldl (f1 hs a) (cV S hs W0 (ps.take i)):=by unfold cV;rw[aF q1,aeT];show Mh S hs _ p=_;unfold Mh;rw[hrz,hai]
 generalize cV S hs W0 (ps.take i)=Q at hW hstep⊢;simp +decide only[go_sem,eq,d1,d2,d3,q2,p0,i2,arr];refine bz (X:={k:Nat//k<=rs.length∧okFr hs.length (i*100000000+k) ((rs.take k).foldl (f1 hs a) Q)}) (fun k=>[(2,.l 1 (hs.map aw)),(3,.x (.s g hs.length hs.length)),(4,.ptr 4 0),(9,.sl (((rs.take k.1).foldl (f1 hs a) Q).2.map aw).isEmpty 1 (((rs.take k.1).foldl (f1 hs a) Q).2.map aw) (some 55)),(11,aw p),(15,.l 1 (ps.map aw)),(16,aw (ps.length:Int)),(17,aw (i:Int)),(25,.sl br zr (rs.map aw) none),(26,aw (rs.length:Int)),(27,aw (k.1:Int))]) (fun _=>[(4,[.l 3 (C.map aa),.l 1 (R.map rI),.l 1 (S.map rI)])]) (fun k H'=>H'=upd H g (some (rowO (((rs.take k.1).foldl (f1 hs a) Q).1.map iv) ty))) (fun k=>rs.length-k.1) ⟨0,adN _,by simpa using hW⟩ A0f A0f A0k ?_;rintro⟨k,hk,hW1⟩ H1 rfl;simp only at hk hW1⊢;by_cases hkl:k<rs.length
 case neg=>
  have e1:decide ((k:Int)<rs.length)=false:=Io A0b;rw[ady A0b] at hW1⊢;rw[<-hstep] at hW1⊢;simp +decide only[go_sem,eq,e1,d4];refine⟨⟨i+1,hil,hW1.mono A0b ⟩,⟨?_,?_,rfl⟩,by simp only;omega⟩
  . exact WV
  . exact WV
 obtain rfl:=hzr (fun h=>by rw[h] at hkl;cases hkl);have e1:decide ((k:Int)<rs.length)=true:=ac0 A0b;have e2:(0:Int)<=(k:Int):=A0b
 have e3:(k:Int)<rs.length:=A0b
 have e4:=ax (i:=k) A0b;have s1:rs[k]?=some rs[k]:=io hkl;have s2:(rs.map aw)[(k:Int).toNat]?=some (aw rs[k]):=by rw[tl,ac9,s1];rfl
 have sm:rs[k]∈rs:=adR hkl;generalize rs[k]=r at s1 s2 sm;obtain⟨r0,rl⟩:=hrr r sm;have r2:r<(hs.length:Int):=A0b
 obtain⟨y,hy⟩:∃y,hs[r.toNat]?=some y:=⟨_,io rl⟩;have p4:(hs.map aw)[r.toNat]?=some (aw y):=by rw[ac9,hy];rfl
 obtain⟨y0,yl⟩:=hh y (adg hy);have y2:y<(hs.length:Int):=A0b
 have hst:(rs.take (k+1)).foldl (f1 hs a) Q=f1 hs a ((rs.take k).foldl (f1 hs a) Q) r:=by rw[aF s1,aeT];rfl
 generalize (rs.take k).foldl (f1 hs a) Q=q at hW1 hst⊢;obtain⟨W,out⟩:=q;rw[Q5,fw hy] at hst;simp only at hW1 hst⊢;by_cases hya:y=a
 . rw[adl hya] at hst;have e5:decide (y=a)=true:=ac0 hya;simp +decide only[go_sem,eq,e1,e2,e3,e4,s2,p4,p0,p1,hap,r0,r2,e5];refine⟨⟨k+1,hkl,by rw[hst];exact hW1.mono A0b ⟩,⟨?_,?_,by simp only[hst]⟩,by simp only;omega⟩
   . simp +decide only[go_sem,hst]
   . exact WV
 rw[adq hya] at hst;have e5:decide (y=a)=false:=Io hya;have yW:y.toNat<W.length:=by rw[hW1.1];exact yl
 obtain⟨v,hv⟩:∃v,W[y.toNat]?=some v:=⟨_,io yW⟩;rw[fw hv] at hst;obtain⟨v0,v1⟩:=hW1.2.1 v (adg hv);have hol:=hW1.2.2;simp only at v0 v1 hol;have v2:az .i64 (v-1)=v-1:=ak A0j;have c1:=bf (H:=upd H g (some (rowO (W.map iv) ty))) (aj _ _ _);have p5:((W.map iv).map V.x)[y.toNat]?=some (aw v):=by rw[aes,ac9,hv];rfl
 have y3:y.toNat+1<=W.length:=yW;have hsp:fU (W.map iv) y.toNat [.int .i64 (v-1)]=(W.set y.toNat (v-1)).map iv:=by rw[dh _ _ _ (by rw[eq];exact yW),afH]
 have c2:=bf (H:=upd H g (some (rowO ((W.set y.toNat (v-1)).map iv) ty))) (aj _ _ _);have p6:(((W.set y.toNat (v-1)).map iv).map V.x)[y.toNat]?=some (aw (v-1)):=by rw[aes,ac9,adX,adl rfl,adl yW];rfl
 have hok:∀o:List Int,o.length<=i*100000000+(k+1)->okFr hs.length (i*100000000+(k+1)) (W.set y.toNat (v-1),o):=fun o ho=>by
  refine⟨by rw[adV];exact hW1.1,fun x hx=>?_,ho⟩;rcases afJ hx with hx|rfl
  . have:=hW1.2.1 x hx;omega
  . omega
 by_cases hz:v-1=0
 case neg=>
  rw[adq hz] at hst;have e6:decide (v-1=0)=false:=Io hz;simp +decide only[go_sem,z52,adx,adi,eq,e1,e2,e3,e4,s2,p4,p0,p1,hap,p5,p6,r0,r2,y0,y2,y3,e5,e6,c1,c2,v2,hsp,gp];refine⟨⟨k+1,hkl,by rw[hst];exact hok _ A0b ⟩,⟨?_,?_,by simp only[hst]⟩,by simp only;omega⟩
  . simp +decide only[go_sem,hst]
  . exact WV
 rw[adl hz] at hst;have e6:decide (v-1=0)=true:=ac0 hz;have g1:=db (E:=(bV [] [] [] (fun _=>false) (fun _=>false))) (el:=3) (n:=1) Rj TK TL A0c rfl (es:=out.map aw) (v:=aw y) rfl A0w A0w;simp +decide only[go_sem,z52,adx,adi,eq,e1,e2,e3,e4,s2,p4,p0,p1,hap,p5,p6,r0,r2,y0,y2,y3,e5,e6,c1,c2,v2,hsp,g1,gp];refine⟨⟨k+1,hkl,by rw[hst];exact hok _ (by rw[adh,aej];omega)⟩,⟨?_,?_,by simp only[hst]⟩,by simp only;omega⟩
 . have hem:((out++[y]).map aw).isEmpty=false:=by cases out<;>rfl
   simp +decide only[go_sem,hst,hem,adK]
 . exact WV
def nj(H:HH)(gs gd:Nat)(seen:List Bool)(dn:List Int):HH:=mer H (upd (upd (fun _=>none) gs (some (rowO (seen.map Value.bool) 4))) gd (some (rowO (dn.map iv) 3)))
section
variable{H:HH}{gs gd:Nat}{seen seen':List Bool}{dn dn':List Int}
theorem Mj(hs:H gs=none)(hne:gs≠gd):nj H gs gd seen dn gs=some (rowO (seen.map Value.bool) 4):=by unfold nj;rw[iB hs,ah _ _ hne,aj]
theorem Tq(hd:H gd=none):nj H gs gd seen dn gd=some (rowO (dn.map iv) 3):=by unfold nj;rw[iB hd,aj]
theorem Ez(hs:H gs=none)(hne:gs≠gd):upd (nj H gs gd seen dn) gs (some (rowO (seen'.map Value.bool) 4))=nj H gs gd seen' dn:=by
 unfold nj;rw[cH hs];congr 1;funext y;simp only[aJ];by_cases e:y=gs
 . subst e;simp only[adl,adq hne]
 . simp only[adq e]
theorem P5(hd:H gd=none):upd (nj H gs gd seen dn) gd (some (rowO (dn'.map iv) 3))=nj H gs gd seen dn':=by unfold nj;rw[cH hd,gp]
end
theorem P6{A:List Int}{G:U}{i:Nat}{x:Int}(h:A[i]?=some x):(A.map aw++G)[i]?=some (aw x):=by have hi:=(iO.1 h).1;rw[adu (by rw[eq];exact hi),ac9,h];rfl
theorem P7{E:Env}{el by':Nat}{z:U}(h1:bo E.P el=some n)(hby:bY E.P el=some by')(hz:aB E.P el=some z)(h4:n≠0)(h5:z.length=n){es:U}{v:V}(hc:v.cells.all V.cell=true)(hb:(es.length+1)*by'<=140737488355328)(hl:es.length+1<=9223372036854775807)(st:St)(d tok:Nat)(nl:Bool)(t':Option Nat):
 bt E st (some d) el (.sl false n es (some tok)) (.sl nl n [v] t')=some ⟨upd (strip tok (strip d st.t)) d (.sl false n (es++[v]) (some d)),aG E tok (aG E d st.b)⟩:=by
 unfold bt;simp only[h1,hby,hz];rw[adl ⟨h4,h5,trivial,.inl trivial,by simp only[aeo,hc,agu,afd],hb,hl⟩]
def YP(gd n:Nat)(R:List (List Int))(rs:List Int)(b:Bool)(z:Nat)(l:Int)(k:Nat):Nat->V
 |46=> .x (.s gd n n)
 |47=>aw l
 |48=> .x (.pointer (some ⟨gd,l.toNat,none⟩))
 |49=>aw (k:Int)
 |50=> .ptr 1 1
 |51=> .l 1 (R.map rI)
 |52=>aw l
 |53=> .ip [.sl b z (rs.map aw) none]
 |54=> .sl b z (rs.map aw) none
 |55=>aw (rs.length:Int)
 |56=> .bool (decide ((k:Int)=rs.length))
 |_=> .undef
def YQ(gd n:Nat)(R:List (List Int))(rs:List Int)(b:Bool)(l y:Int)(k:Nat):Nat->V
 |66=> .ptr 1 1
 |67=> .l 1 (R.map rI)
 |68=>aw l
 |69=> .ip [.sl b 1 (rs.map aw) none]
 |70=> .sl b 1 (rs.map aw) none
 |71=> .x (.s gd n n)
 |72=>aw l
 |73=> .x (.pointer (some ⟨gd,l.toNat,none⟩))
 |74=>aw (k:Int)
 |75=> .ip [aw y]
 |76=>aw y
 |9=>aw y
 |_=> .undef
def YR(n gs gd:Nat)(ot o:List Int)(i tk nm:Nat)(l:Int):List (Nat×V):=[(1,.ptr 1 0),(3,.x (.s gs n n)),(4,.x (.s gd n n)),(5,.sl false 1 (ot.map aw) (some tk)),(7,.row nm 1 (o.length+1)),(8,aw l),(24,aw (n:Int)),(25,aw (i:Int))]
def YS(us:U)(H:HH)(T:V->HH->Prop):Prop:=∃C R S,us=[jf C R S]∧bU C.length R∧∀out,FinOK R C.length out->T (.l 1 (out.map aw)) H
theorem P8:cR (dv [] (fun d=>d==36)) 34 YS:=by
 refine mU (F:={F:=fun _=>none,D:=fun d=>d==13||d==17,any:=fun d=>d==12||d==15}) (n:=97) (k:=1) (ug [] _ trivial) A0a (fun f C e=>by cases e) (fun t s C e=>by cases e) func34 rfl (fun a w=>call34 a w) ntmps34 A0c A0c A0a ?_;rintro us H T ⟨C,R,S,rfl,⟨hRl,hn4,hR⟩,hT⟩ hdat;refine⟨rfl,?_⟩;simp only[jf];have m131:Pv prog 96=some (4,1,1,.bool false):=A0a
 have m52:Pv prog 54=some (3,1,8,.int .i64 0):=A0a
 have z52:rO prog 54=some 1:=A0a
 have z131:rO prog 96=some 1:=A0a
 have l1:((8:Nat):Int)*(C.length:Int)<=281474976710656:=A0b
 have l0:((1:Nat):Int)*(C.length:Int)<=281474976710656:=A0b
 have l2:(C.length:Int)<=9223372036854775807:=A0b
 have l3:(0:Int)<=(C.length:Int):=A0b
 have l4:(C.length:Int)*8<=281474976710656:=A0b
 simp +decide only[go_sem,Nat.reduceBEq,m131,m52,z52,z131,eq,l0,l1,l2,l3,l4,tl,adx];intro gs hs gd hd0;have hne:gs≠gd:=fun e=>by rw[adl e.symm] at hd0;cases hd0
 have hd:H gd=none:=by rwa [adq (aeM hne)] at hd0
 have hH0:upd (upd H gs (some (rowO (List.replicate C.length (Value.bool false)) 4))) gd (some (rowO (List.replicate C.length (Value.int IntKind.i64 0)) 3))=nj H gs gd (List.replicate C.length false) (List.replicate C.length 0):=by unfold nj;rw[<-cH hd,<-cH hs,jo,List.map_replicate,List.map_replicate]
 refine bz (X:={q:Nat×(List Bool×List Int×List Int)×Nat//q.1<=C.length∧FI R C.length q.2.1.1 q.2.1.2.1 [] q.2.1.2.2∧∀x:Int,0<=x->x<(q.1:Int)->x∈q.2.1.2.2}) (fun q=>[(1,.ptr 1 0),(3,.x (.s gs C.length C.length)),(4,.x (.s gd C.length C.length)),(5,.sl false 1 (q.1.2.1.2.2.map aw) (some q.1.2.2)),(24,aw (C.length:Int)),(25,aw (q.1.1:Int))]) (fun _=>[(1,[.l 3 (C.map aa),.l 1 (R.map rI),.l 1 (S.map rI)])]) (fun q H'=>H'=nj H gs gd q.1.2.1.1 q.1.2.1.2.1) (fun q=>C.length-q.1.1) ⟨(0,(List.replicate C.length false,List.replicate C.length 0,[]),21),adN _,FI.zero R C.length,fun x a b=>by omega⟩ A0f A0f hH0 ?_;rintro⟨⟨i,⟨seen,dn,out⟩,tok⟩,hi,hF,hall⟩ H1 rfl;simp only at hi hF hall⊢;by_cases hil:i<C.length
 case neg=>have d1:decide ((i:Int)<C.length)=false:=Io A0b;simp +decide only[go_sem,Nat.reduceBEq,eq,d1];refine nh (fun m w v _ _ h=>h) (((Dis.empty H).upd hs).upd hd) (hT out (hF.fin fun x a b=>hall x a A0b))
 have d1:decide ((i:Int)<C.length)=true:=ac0 A0b;have d2:(0:Int)<=(i:Int):=A0b
 have d3:(i:Int)<C.length:=A0b
 have d4:=ax (i:=i) A0b;have d5:i+1<=seen.length:=by rw[hF.ls];omega
 have c1:=bf (Mj (seen:=seen) (dn:=dn) hs hne);obtain⟨sb,hsb⟩:∃sb,seen[i]?=some sb:=⟨_,io (by rw[hF.ls];exact hil)⟩;have p1:((seen.map Value.bool).map V.x)[i]?=some (.bool sb):=by rw[aes,ac9,hsb];rfl
 cases sb with
 | true=>
   have hin:(i:Int)∈out:=by
    have:=(hF.mem (i:Int) A0b A0b).1 (by rw[tl];exact hsb)
    rwa [aep] at this
   simp +decide only[go_sem,Nat.reduceBEq,eq,z131,adx,adi,tl,d1,d2,d3,d4,c1,p1];refine⟨⟨(i+1,(seen,dn,out),tok),hil,hF,fun x a b=>?_⟩,⟨?_,?_,rfl⟩,by simp only;omega⟩
   . simp only at b;by_cases e:x=(i:Int)
     . rw[e];exact hin
     . exact hall x a A0b
   . exact WT
   . exact WT
 |false=>
 have hF1:=hF.push (v:=(i:Int)) A0b A0b (by rw[tl];exact hsb) (fun z h=>by cases h);rw[tl] at hF1;have hsp:fU (seen.map Value.bool) i [.bool true]=(seen.set i true).map Value.bool:=by rw[dh _ _ _ (by rw[eq];exact d5),afH]
 have u1:=Ez (H:=H) (gs:=gs) (gd:=gd) (seen:=seen) (seen':=seen.set i true) (dn:=dn) hs hne;simp +decide (maxDischargeDepth:=200) only[go_sem,Nat.reduceBEq,eq,z131,adx,adi,tl,d1,d2,d3,d4,c1,p1,d5,hsp,u1];refine bz (X:={q:((List Bool×List Int)×List Int×List Int)×U×Nat×Nat//FI R C.length q.1.1.1 q.1.1.2 q.1.2.1 q.1.2.2∧(i:Int)∈q.1.2.2++q.1.2.1∧(∀x∈out,x∈q.1.2.2)∧q.2.2.1≠1}) (fun q=>[(1,.ptr 1 0),(3,.x (.s gs C.length C.length)),(4,.x (.s gd C.length C.length)),(5,.sl false 1 (q.1.1.2.2.map aw) (some q.1.2.2.2)),(7,.row q.1.2.2.1 1 q.1.1.2.1.length),(24,aw (C.length:Int)),(25,aw (i:Int))]) (fun q=>[(1,[.l 3 (C.map aa),.l 1 (R.map rI),.l 1 (S.map rI)]),(q.1.2.2.1,q.1.1.2.1.map aw++q.1.2.1)]) (fun q H'=>H'=nj H gs gd q.1.1.1.1 q.1.1.1.2) (fun q=>q.1.1.2.1.length+2*Me R C.length q.1.1.1.2) ⟨(((seen.set i true,dn),[(i:Int)],out),[],36,tok),hF1,A0k,fun x h=>h,A0k⟩ A0f A0f rfl ?_;rintro⟨⟨⟨⟨sn,dm⟩,path,ot⟩,G,nm,tk⟩,hF,him,hot,n1⟩ H1 rfl;simp only at hF him hot n1⊢;have n2: ¬1=nm:=fun e=>n1 e.symm
 have hol:(ot++path).length<=C.length:=dA hF.nd hF.rg;rw[adh] at hol;rcases af2 path with e|⟨o,l,e⟩
 . subst e;have e0:decide ((0:Int)<((([]:List Int).length:Nat):Int))=false:=rfl;rw[aep] at him
   . simp +decide only[go_sem,Nat.reduceBEq,e0,d4,n1,n2];refine⟨⟨(i+1,(sn,dm,ot),tk),hil,hF,fun x a b=>?_⟩,⟨?_,?_,rfl⟩,by simp only;omega⟩
     . simp only at b;by_cases e:x=(i:Int)
       . rw[e];exact him
       . exact hot x (hall x a A0b)
     . exact WT
     . exact WT
 rw[af3] at e;subst e;have hpl:(o++[l]).length=o.length+1:=A0k
 have ⟨hl0,hln⟩:=hF.rg l A0k;rw[hpl] at hol;have e0:decide ((0:Int)<((o.length+1:Nat):Int))=true:=ac0 A0b;have w1:az .i64 (((o.length+1:Nat):Int)-1)=(o.length:Int):=by rw[iP,IntKind.wrap_i64];omega
 have f1:(0:Int)<=(o.length:Int):=A0b
 have f2:(o.length:Int)<((o.length+1:Nat):Int):=A0b
 have f3:(o.length:Int)<=((o.length+1:Nat):Int):=A0b
 have r1:((o++[l]).map aw++G)[o.length]?=some (aw l):=P6 A0k;obtain⟨G',hG'⟩:∃G',(o++[l]).map aw++G=o.map aw++G':=⟨aw l::G,A0k⟩;obtain⟨k,hk1,hk2,hk3⟩:=hF.dn l hl0 hln;have c2:=bf (Tq (gs:=gs) (seen:=sn) (dn:=dm) hd);have p2:((dm.map iv).map V.x)[l.toNat]?=some (aw (k:Int)):=by rw[aes,ac9,hk1];rfl
 have i2:l<(R.length:Int):=A0b
 have i3:l<(C.length:Int):=A0b
 have i4:l.toNat+1<=dm.length:=by rw[hF.ld];exact hln
 obtain⟨rs,hrsr⟩:∃rs,R[l.toNat]?=some rs:=⟨_,io A0b ⟩;obtain⟨br,zr,hbzr,hzr⟩:∃b z,rI rs= .sl b z (rs.map aw) none∧(rs≠[]->z=1):=th rs;have arr:(R.map rI)[l.toNat]?=some (.sl br zr (rs.map aw) none):=by rw[ac9,hrsr,<-hbzr];rfl
 have hrz:rowS R l=rs:=by unfold rowS;rw[hrsr];rfl
 obtain⟨hr8,hrr⟩:=hR rs (adg hrsr);rw[hrz] at hk2 hk3;simp +decide only[go_sem,Nat.reduceBEq,eq,hpl,z52,z131,adx,adi,tl,e0,w1,f1,f2,f3,r1,n1,n2];refine nV (fun k=>match k with|2=>[46,47]|3=>[48]|5=>[50]|7=>[51,52]|8=>[53]|9=>[54]|10=>[49,55]|_=>[]) (YP gd C.length R rs br zr l k) (YR C.length gs gd ot o i tk nm l++[(56,.bool (decide ((k:Int)=rs.length)))]) [(1,[.l 3 (C.map aa),.l 1 (R.map rI),.l 1 (S.map rI)]),(nm,(o++[l]).map aw++G)] A0a A0a ?_ ?_
 . intro st k o ho hn hb hbb;have b1:st.t 1= .ptr 1 0:=hb 1 A0a;have b4:st.t 4= .x (.s gd C.length C.length):=hb 4 A0a;have b8:st.t 8=aw l:=hb 8 A0a;have hb1:st.b 1=some [.l 3 (C.map aa),.l 1 (R.map rI),.l 1 (S.map rI)]:=by rw[hbb];rfl
   rcases k with _|_|_|_|_|_|_|_|_|_|_|k
   . cases ho;simp +decide only[go_sem,Nat.reduceBEq,b1,b4,b8,hb1,z52,eq,adx,adi,hl0,i2,i3,c2,p2,arr];exact WW
   . cases ho;simp +decide only[go_sem,Nat.reduceBEq,b1,b4,b8,hb1,z52,eq,adx,adi,hl0,i2,i3,c2,p2,arr];exact WW
   . cases ho;have h46:st.t 46= .x (.s gd C.length C.length):=hn 46 A0c;have h47:st.t 47=aw l:=hn 47 A0c;simp +decide only[go_sem,Nat.reduceBEq,b1,b4,b8,h46,h47,hb1,z52,eq,adx,adi,hl0,i2,i3,c2,p2,arr];exact WW
   . cases ho;have h48:st.t 48= .x (.pointer (some ⟨gd,l.toNat,none⟩)):=hn 48 A0c;simp +decide only[go_sem,Nat.reduceBEq,b1,b4,b8,h48,hb1,z52,eq,adx,adi,hl0,i2,i3,c2,p2,arr];exact WW
   . cases ho;simp +decide only[go_sem,Nat.reduceBEq,b1,b4,b8,hb1,z52,eq,adx,adi,hl0,i2,i3,c2,p2,arr];exact WW
   . cases ho;have h50:st.t 50= .ptr 1 1:=hn 50 A0c;simp +decide only[go_sem,Nat.reduceBEq,b1,b4,b8,h50,hb1,z52,eq,adx,adi,hl0,i2,i3,c2,p2,arr];exact WW
   . cases ho;simp +decide only[go_sem,Nat.reduceBEq,b1,b4,b8,hb1,z52,eq,adx,adi,hl0,i2,i3,c2,p2,arr];exact WW
   . cases ho;have h51:st.t 51= .l 1 (R.map rI):=hn 51 A0c;have h52:st.t 52=aw l:=hn 52 A0c;simp +decide only[go_sem,Nat.reduceBEq,b1,b4,b8,h51,h52,hb1,z52,eq,adx,adi,hl0,i2,i3,c2,p2,arr];exact WW
   . cases ho;have h53:st.t 53= .ip [.sl br zr (rs.map aw) none]:=hn 53 A0c;simp +decide only[go_sem,Nat.reduceBEq,b1,b4,b8,h53,hb1,z52,eq,adx,adi,hl0,i2,i3,c2,p2,arr];exact WW
   . cases ho;have h54:st.t 54= .sl br zr (rs.map aw) none:=hn 54 A0c;simp +decide only[go_sem,Nat.reduceBEq,b1,b4,b8,h54,hb1,z52,eq,adx,adi,hl0,i2,i3,c2,p2,arr];exact WW
   . cases ho;have h49:st.t 49=aw (k:Int):=hn 49 A0c;have h55:st.t 55=aw (rs.length:Int):=hn 55 A0c;simp +decide only[go_sem,Nat.reduceBEq,b1,b4,b8,h49,h55,hb1,z52,eq,adx,adi,hl0,i2,i3,c2,p2,arr];exact WW
   . cases ho
 refine⟨⟨au A0a,au A0a,au A0a,au A0a,au A0a,au A0a,au A0a,au A0a,fM A0a,trivial⟩,⟨by simp +decide only[go_sem,Nat.reduceBEq,gC,n1,n2],by simp +decide only[go_sem,Nat.reduceBEq,gC,n1,n2],trivial⟩,?_⟩;by_cases hkl:k=rs.length
 . have e1:decide ((k:Int)=rs.length)=true:=ac0 A0b;have hF2:=hF.pop (by rw[hk1,hrz,hkl]);have g1:=P7 (E:=(dv [] (fun d=>d==36))) (el:=3) (n:=1) Rj TK TL A0c rfl (es:=ot.map aw) (v:=aw l) rfl A0w A0w;simp only[YR,aee,aex];simp +decide only[go_sem,Nat.reduceBEq,eq,hpl,z52,adx,adi,tl,w1,f1,f3,e1,hG',g1,n1,n2];refine⟨⟨(((sn,dm),o,ot++[l]),G',nm,65),hF2,?_,fun x h=>ad2 _ (hot x h),n1⟩,⟨?_,?_,rfl⟩,by simp only[hpl];omega⟩
   . simp only[adv,adj] at him⊢;grind
   . simp +decide only[go_sem,Nat.reduceBEq,adK]
   . exact WS
 have hkl:k<rs.length:=A0b
 have e1:decide ((k:Int)=rs.length)=false:=Io A0b;obtain rfl:=hzr (fun h=>by rw[h] at hkl;cases hkl);have q1:rs[k]?=some rs[k]:=io hkl;have q2:(rs.map aw)[(k:Int).toNat]?=some (aw rs[k]):=by rw[tl,ac9,q1];rfl
 have qm:rs[k]∈rs:=adR hkl;generalize rs[k]=y at q1 q2 qm;obtain⟨y0,yn⟩:=hrr y qm;have h1:(0:Int)<=(k:Int):=A0b
 have h2:(k:Int)<rs.length:=A0b
 have h3:az .i64 ((k:Int)+1)=(k:Int)+1:=ak A0j;have h4:y<(C.length:Int):=A0b
 have h5:y.toNat+1<=sn.length:=by rw[hF.ls];exact yn
 have hq:(rowS R l)[k]?=some y:=by rw[hrz];exact q1
 have hdec:=Mf (R:=R) (n:=C.length) hl0 hln hk1 (by rw[hrz];exact hkl);have hsp:fU (dm.map iv) l.toNat [.int .i64 ((k:Int)+1)]=(dm.set l.toNat ((k:Int)+1)).map iv:=by rw[dh _ _ _ (by rw[eq];exact i4),afH]
 have u1:=P5 (H:=H) (gs:=gs) (seen:=sn) (dn:=dm) (dn':=dm.set l.toNat ((k:Int)+1)) hd;have c3:=bf (Mj (seen:=sn) (dn:=dm.set l.toNat ((k:Int)+1)) hs hne);obtain⟨sb,hsb⟩:∃sb,sn[y.toNat]?=some sb:=⟨_,io (by rw[hF.ls];exact yn)⟩;have p3:((sn.map Value.bool).map V.x)[y.toNat]?=some (.bool sb):=by rw[aes,ac9,hsb];rfl
 rw[tl] at q2;have hmo:∀z∈(o++[l]),ReachI R z y:=fun z hz=>by
  rcases adv.1 hz with hz|hz
  . exact .step ((aeF.1 hF.ch).2.2 z hz _ (agl _)) (adg hq)
  . rw[adj] at hz;subst hz;exact .one (adg hq)
 simp only[YR,aee,aex];simp +decide only[go_sem,Nat.reduceBEq,e1];refine nV (fun k=>match k with|1=>[66]|3=>[67,68]|4=>[69]|7=>[71,72]|8=>[73]|9=>[70,74]|10=>[75]|11=>[76]|_=>[]) (YQ gd C.length R rs br l y k) (YR C.length gs gd ot o i tk nm l++[(9,aw y)]) [(1,[.l 3 (C.map aa),.l 1 (R.map rI),.l 1 (S.map rI)]),(nm,(o++[l]).map aw++G)] A0a A0a ?_ ?_
 . intro st k o ho hn hb hbb;have b1:st.t 1= .ptr 1 0:=hb 1 A0a;have b4:st.t 4= .x (.s gd C.length C.length):=hb 4 A0a;have b8:st.t 8=aw l:=hb 8 A0a;have hb1:st.b 1=some [.l 3 (C.map aa),.l 1 (R.map rI),.l 1 (S.map rI)]:=by rw[hbb];rfl
   rcases k with _|_|_|_|_|_|_|_|_|_|_|_|k
   . cases ho;simp +decide only[go_sem,Nat.reduceBEq,b1,b4,b8,hb1,z52,eq,adx,adi,tl,hl0,i2,i3,c2,p2,arr,h1,h2,q2];exact WW
   . cases ho;have h66:st.t 66= .ptr 1 1:=hn 66 A0c;simp +decide only[go_sem,Nat.reduceBEq,b1,b4,b8,h66,hb1,z52,eq,adx,adi,tl,hl0,i2,i3,c2,p2,arr,h1,h2,q2];exact WW
   . cases ho;simp +decide only[go_sem,Nat.reduceBEq,b1,b4,b8,hb1,z52,eq,adx,adi,tl,hl0,i2,i3,c2,p2,arr,h1,h2,q2];exact WW
   . cases ho;have h67:st.t 67= .l 1 (R.map rI):=hn 67 A0c;have h68:st.t 68=aw l:=hn 68 A0c;simp +decide only[go_sem,Nat.reduceBEq,b1,b4,b8,h67,h68,hb1,z52,eq,adx,adi,tl,hl0,i2,i3,c2,p2,arr,h1,h2,q2];exact WW
   . cases ho;have h69:st.t 69= .ip [.sl br 1 (rs.map aw) none]:=hn 69 A0c;simp +decide only[go_sem,Nat.reduceBEq,b1,b4,b8,h69,hb1,z52,eq,adx,adi,tl,hl0,i2,i3,c2,p2,arr,h1,h2,q2];exact WW
   . cases ho;simp +decide only[go_sem,Nat.reduceBEq,b1,b4,b8,hb1,z52,eq,adx,adi,tl,hl0,i2,i3,c2,p2,arr,h1,h2,q2];exact WW
   . cases ho;simp +decide only[go_sem,Nat.reduceBEq,b1,b4,b8,hb1,z52,eq,adx,adi,tl,hl0,i2,i3,c2,p2,arr,h1,h2,q2];exact WW
   . cases ho;have h71:st.t 71= .x (.s gd C.length C.length):=hn 71 A0c;have h72:st.t 72=aw l:=hn 72 A0c;simp +decide only[go_sem,Nat.reduceBEq,b1,b4,b8,h71,h72,hb1,z52,eq,adx,adi,tl,hl0,i2,i3,c2,p2,arr,h1,h2,q2];exact WW
   . cases ho;have h73:st.t 73= .x (.pointer (some ⟨gd,l.toNat,none⟩)):=hn 73 A0c;simp +decide only[go_sem,Nat.reduceBEq,b1,b4,b8,h73,hb1,z52,eq,adx,adi,tl,hl0,i2,i3,c2,p2,arr,h1,h2,q2];exact WW
   . cases ho;have h70:st.t 70= .sl br 1 (rs.map aw) none:=hn 70 A0c;have h74:st.t 74=aw (k:Int):=hn 74 A0c;simp +decide only[go_sem,Nat.reduceBEq,b1,b4,b8,h70,h74,hb1,z52,eq,adx,adi,tl,hl0,i2,i3,c2,p2,arr,h1,h2,q2];exact WW
   . cases ho;have h75:st.t 75= .ip [aw y]:=hn 75 A0c;simp +decide only[go_sem,Nat.reduceBEq,b1,b4,b8,h75,hb1,z52,eq,adx,adi,tl,hl0,i2,i3,c2,p2,arr,h1,h2,q2];exact WW
   . cases ho;have h76:st.t 76=aw y:=hn 76 A0c;simp +decide only[go_sem,Nat.reduceBEq,b1,b4,b8,h76,hb1,z52,eq,adx,adi,tl,hl0,i2,i3,c2,p2,arr,h1,h2,q2];exact WW
   . cases ho
 refine⟨⟨au A0a,au A0a,au A0a,au A0a,au A0a,au A0a,au A0a,au A0a,fM A0a,trivial⟩,⟨by simp +decide only[go_sem,Nat.reduceBEq,gC,n1,n2],by simp +decide only[go_sem,Nat.reduceBEq,gC,n1,n2],trivial⟩,?_⟩;simp only[YR,aee,aex];cases sb with
 | true=>
   have hF2:=hF.look hk1 hl0 hq ((hF.mem y y0 yn).1 hsb);simp +decide only[go_sem,Nat.reduceBEq,eq,hpl,z52,z131,adx,adi,tl,hl0,i3,i4,c2,p2,h3,hsp,u1,c3,y0,h4,p3,n1,n2];refine⟨⟨(((sn,dm.set l.toNat ((k:Int)+1)),o++[l],ot),G,nm,tk),hF2,him,hot,n1⟩,⟨?_,?_,rfl⟩,by simp only;omega⟩
   . simp +decide only[go_sem,Nat.reduceBEq,hpl]
   . exact WS
 | false=>
   have hin:y∉ot++(o++[l]):=fun e=>by rw[(hF.mem y y0 yn).2 e] at hsb;cases hsb
   have hF1:=hF.push y0 yn hsb hmo;have hl8:y∈ot++(o++[l]++[y]):=A0k
   have hF2:=hF1.look hk1 hl0 hq hl8;have hol2:(ot++(o++[l]++[y])).length<=C.length:=dA hF2.nd hF2.rg;rw[adh,adh,hpl,aej] at hol2;have hsp2:fU (sn.map Value.bool) y.toNat [.bool true]=(sn.set y.toNat true).map Value.bool:=by rw[dh _ _ _ (by rw[eq];exact h5),afH]
   have u2:=Ez (H:=H) (gs:=gs) (gd:=gd) (seen:=sn) (seen':=sn.set y.toNat true) (dn:=dm.set l.toNat ((k:Int)+1)) hs hne
   have g1:∀(st:St) (d s:Nat) (nl:Bool) (t':Option Nat),bt (dv [] (fun d=>d==36)) st (some d) 3 (.row s 1 (o.length+1)) (.sl nl 1 [aw y] t')=match st.b s with
    |some cs=>some ⟨upd (kill s (kill d st.t)) d (.row d 1 (o.length+1+1)),upd (upd st.b s none) d (some (cs.take ((o.length+1)*1)++(aw y).cells))⟩
    |none=>none:=fun st d s nl t'=>nB (E:=(dv [] (fun d=>d==36))) Rj TK TL A0c rfl rfl A0b A0b st d s nl t'
   have g2:((o++[l]).map aw++G).take (o.length+1)++[aw y]=(o++[l]++[y]).map aw++[]:=by rw[ael A0k,ady A0k,aep];simp only[adK,adL,afr]
   have hpl2:(o++[l]++[y]).length=o.length+1+1:=A0k
   simp +decide only[go_sem,Nat.reduceBEq,eq,hpl,z52,z131,adx,adi,tl,hl0,i3,i4,c2,p2,h3,h5,hsp,u1,c3,y0,h4,p3,hsp2,u2,g1,g2,n1,n2];refine⟨⟨(((sn.set y.toNat true,dm.set l.toNat ((k:Int)+1)),o++[l]++[y],ot),[],94,tk),hF2,?_,hot,A0k⟩,⟨?_,?_,rfl⟩,by simp only[hpl,hpl2];omega⟩
   . simp only[adv,adj] at him⊢;grind
   . simp +decide only[go_sem,Nat.reduceBEq,hpl2,n1,n2]
   . exact WS
def Ts(us:U)(H:HH)(T:V->HH->Prop):Prop:=∃rs v,us=[rI rs,aw v]∧rs.length<=100000000∧∀i:Int,(0<=i↔v∈rs)->T (aw i) H
theorem P9:cR (bV [] [] [] (fun _=>false) (fun _=>false)) 52 Ts:=by
 refine cO (F:={F:=fun _=>none,D:=fun _=>false}) (n:=19) (k:=2) (bF [] [] [] _ _ trivial trivial trivial) A0a (fun f C e=>by cases e) (fun t s C e=>by cases e) func52 rfl (fun a w=>call52 a w) ntmps52 A0c A0c A0a ?_;rintro us H T ⟨rs,v,rfl,hl,hT⟩ hdat;refine⟨rfl,?_⟩;obtain⟨b,z,hb,hz⟩:=th rs;rw[hb];have l3:(0:Int)<=(rs.length:Int):=A0b
 simp +decide only[go_sem,eq];refine bz (X:={i:Nat//i<=rs.length∧∀x∈rs.take i,x≠v}) (fun i=>[(0,.sl b z (rs.map aw) none),(1,aw v),(6,.sl b z (rs.map aw) none),(7,aw (rs.length:Int)),(8,aw (i.1:Int))]) (fun _=>[]) (fun _ H'=>H'=H) (fun i=>rs.length-i.1) ⟨0,adN _,fun x hx=>by simp at hx⟩ A0f A0f rfl ?_;rintro⟨i,hi,hno⟩ H1 rfl;simp only at hi hno⊢;by_cases hil:i<rs.length
 case neg=>have d1:decide ((i:Int)<rs.length)=false:=Io A0b;rw[ady A0b] at hno;simp +decide only[go_sem,eq,d1];exact hT _ ⟨fun h=>by omega,fun h=>absurd rfl (hno v h)⟩
 obtain rfl:=hz (fun h=>by rw[h] at hil;cases hil);have d1:decide ((i:Int)<rs.length)=true:=ac0 A0b;have d2:(0:Int)<=(i:Int):=A0b
 have d3:(i:Int)<rs.length:=A0b
 have d4:=ax (i:=i) A0b;have q1:rs[i]?=some rs[i]:=io hil;have q2:(rs.map aw)[(i:Int).toNat]?=some (aw rs[i]):=by rw[tl,ac9,q1];rfl
 have qm:rs[i]∈rs:=adR hil;generalize rs[i]=x at q1 q2 qm;rw[tl] at q2;by_cases e:v=x
 . have e1:decide (v=x)=true:=ac0 e;simp +decide only[go_sem,tl,eq,d1,d2,d3,q2,e1];exact hT _ ⟨fun _=>e▸qm,fun _=>by omega⟩
 . have e1:decide (v=x)=false:=Io e;simp +decide only[go_sem,tl,eq,d1,d2,d3,d4,q2,e1];refine⟨⟨i+1,hil,fun y hy=>?_⟩,⟨?_,?_,rfl⟩,by simp only;omega⟩
   . rw[aF q1,adv,adj] at hy;rcases hy with hy|rfl
     . exact hno y hy
     . exact fun h=>e h.symm
   . exact WV
   . exact WV
def Ml(us:U)(H:HH)(T:V->HH->Prop):Prop:=∃rs v,us=[rI rs,aw v]∧rs.length<=100000000∧T (.bool (decide (v∈rs))) H
theorem Mm:cR (bV [] [] [] (fun _=>false) (fun _=>false)) 39 Ml:=by
 refine cO (F:={F:=yK [(52,Ts)],D:=fun _=>false}) (n:=9) (k:=2) (bF [] [] [] _ _ trivial trivial trivial) A0a (gU (l:=[(52,Ts)]) ⟨P9,trivial⟩) (fun t s C e=>by cases e) func39 rfl (fun a w=>call39 a w) ntmps39 A0c A0c A0a ?_;rintro us H T ⟨rs,v,rfl,hl,hT⟩ hdat;refine⟨rfl,?_⟩;obtain⟨b,z,hb,hz⟩:=th rs;rw[hb];simp +decide only[go_sem];refine⟨rs,v,by rw[hb],hl,fun i hi=>?_⟩;simp +decide only[go_sem];have:decide (v∈rs)=decide (0<=i):=by simp only[hi]
 rw[this] at hT;exact hT
variable{xs:List Value}{o:Nat}
theorem qY{L:List Value}(h:o+xs.length<=L.length):(fU L o xs)[k]?=if k<o then L[k]? else if k<o+xs.length then xs[k-o]? else L[k]?:=by
 have h1:(L.take o).length=o:=A0K
 unfold fU;rw[aef,af8,h1];split
 . rw[agj A0b]
 . rw[af8];split
   . rw[adl A0b]
   . rw[adq A0b,aeA];congr 1;omega
theorem Mn{L:List Value}(h:o+xs.length<=L.length):(fU L o xs).length=L.length:=by unfold fU;simp only[adh,adz,aeE];omega
def cellAt(L:List Value)(j:Nat)(q:C3):Prop:=L[j*3]?=some (.string q.1)∧L[j*3+1]?=some (.int .i64 q.2.1)∧L[j*3+2]?=some (.int .i64 q.2.2)
theorem cellAt.put{L:List Value}{i j:Nat}{q q':C3}(h:i*3+3<=L.length)(hj:i≠j->cellAt L j q)(e:i=j->q'=q):cellAt (fU L (i*3) [.string q'.1,.int .i64 q'.2.1,.int .i64 q'.2.2]) j q:=by
 have hl:i*3+[Value.string q'.1,.int .i64 q'.2.1,.int .i64 q'.2.2].length<=L.length:=h;unfold cellAt;rw[qY hl,qY hl,qY hl];simp only[adm,adT];by_cases he:i=j
 . obtain rfl:=e he;subst he;rw[adq A0b,adl A0b,adq A0b,adl A0b,adq A0b,adl A0b];rw[show i*3-i*3=0 by omega,show i*3+1-i*3=1 by omega,show i*3+2-i*3=2 by omega];exact⟨rfl,rfl,rfl⟩
 . obtain⟨a,b,c⟩:=hj he;refine⟨?_,?_,?_⟩
   . split
     . exact a
     . rw[adq A0b];exact a
   . split
     . exact b
     . rw[adq A0b];exact b
   . split
     . exact c
     . rw[adq A0b];exact c
theorem CL{m:Lim}{w:World}{L:List Value}{ty:TypeId}{qs:List C3}(hg:H g=some (rowO L ty))(hl:L.length=qs.length*3)(hq:∀(j:Nat) (q:C3),qs[j]?=some q->cellAt L j q)(hw:∀g ob,H g=some ob->w.heap[g]?=some ob)(hm:∀g,H g≠none->m g=none):Rd m w (.s g qs.length qs.length) (.l 3 (qs.map aa)):=by
 have hh:=hw g _ hg;have hmg:=hm g A0M;have:=Rd.sl (m:=m) (w:=w) g 0 qs.length 3 (qs.map aa) none (fun k=>(L[k]?).getD undef) (ag hh) A0w (fun i e hi=>by
  rw[ac9,adn] at hi;obtain⟨n,_,rfl⟩:=hi;rfl) (fun k hk=>by
  rw[eq] at hk;rw[adi,Box.cell hh,aew,io A0b];rfl) (fun fr hf=>by rw[hmg] at hf;cases hf) (fun i e hi j d hd=>by
  rw[ac9,adn] at hi;obtain⟨q,hn,rfl⟩:=hi;obtain⟨a,b,c⟩:=hq i q hn;rcases j with _|_|_|j
  . cases hd;rw[aeq,a];exact .x _
  . cases hd;rw[b];exact .x _
  . cases hd;rw[c];exact .x _
  . cases hd)
 rwa [eq] at this
def Y8(C:List C3)(ps:List Int)(r:Bool):V:= .agg [.sl false 3 ((ps.map (di C)).map aa) none,.bool r]
def YT(us:U)(H:HH)(T:V->HH->Prop):Prop:=∃C R S p ps,us=[jf C R S,.sl false 1 ((p::ps).map aw) none]∧bU C.length R∧(∀x∈p::ps,0<=x∧x.toNat<C.length)∧(p::ps).length<=400∧T (Y8 C (p::ps) (decide (1<((p::ps).length:Int))||decide (p∈rowZ R p))) H
abbrev FQ(g L):=upd (fun _=>none) g (some (rowO L 33))
theorem Mo:cR (bV [] [] [] (fun _=>false) (fun _=>false)) 22 YT:=by
 refine mU (F:={F:=yK [(39,Ml)],D:=fun d=>d==11}) (n:=45) (k:=2) (bF [] [] [] _ _ trivial trivial trivial) A0a (gU (l:=[(39,Ml)]) ⟨Mm,trivial⟩) (fun t s C e=>by cases e) func22 rfl (fun a w=>call22 a w) ntmps22 A0c A0c A0a ?_;rintro us H T ⟨C,R,S,p,ps0,rfl,⟨hRl,hn4,hR⟩,hps,hpl,hT⟩ hdat;refine⟨rfl,?_⟩;simp only[jf];generalize hpe:p::ps0=ps at*;have m27:Pv prog 29=some (33,3,32,.agg #[.string ⟨#[]⟩,.int .i64 0,.int .i64 0]):=A0a
 have l1:((32:Nat):Int)*(ps.length:Int)<=281474976710656:=A0b
 have l2:(ps.length:Int)<=9223372036854775807:=A0b
 have l3:(0:Int)<=(ps.length:Int):=A0b
 simp +decide (maxDischargeDepth:=200) only[go_sem,Nat.reduceBEq,m27,eq,l1,l2,l3,tl,adx];intro g hg;refine bz (X:={q:Nat×List Value//q.1<=ps.length∧q.2.length=ps.length*3∧∀j x,j<q.1->ps[j]?=some x->cellAt q.2 j (di C x)}) (fun q=>[(1,.l 1 (ps.map aw)),(2,.ptr 2 0),(4,.ptr 4 0),(5,.x (.s g ps.length ps.length)),(12,.l 1 (ps.map aw)),(13,aw (ps.length:Int)),(14,aw (q.1.1:Int))]) (fun _=>[(2,[.l 3 (C.map aa),.l 1 (R.map rI),.l 1 (S.map rI)]),(4,[.sl true 0 [] none,.bool false])]) (fun q H'=>H'=mer H (upd (fun _=>none) g (some (rowO q.1.2 33)))) (fun q=>ps.length-q.1.1) ⟨(0,(madeCells #[.string ⟨#[]⟩,.int .i64 0,.int .i64 0] (ps.length*3)).toList),adN _,by simp[madeCells],fun j x h=>by omega⟩ A0f A0f (by show upd H g _=_;rw[<-cH hg,jo]) ?_;rintro⟨⟨i,L⟩,hi,hL,hc⟩ H1 rfl;simp only at hi hL hc⊢;have hd:Dis H (fun _=>none):=Dis.empty H;by_cases hil:i<ps.length
 case pos=>
  have d1:decide ((i:Int)<ps.length)=true:=ac0 A0b;have d2:(0:Int)<=(i:Int):=A0b
  have d3:(i:Int)<ps.length:=A0b
  have d4:=ax (i:=i) A0b;have q1:ps[i]?=some ps[i]:=io hil;have q2:(ps.map aw)[(i:Int).toNat]?=some (aw ps[i]):=by rw[tl,ac9,q1];rfl
  have qm:ps[i]∈ps:=adR hil;generalize ps[i]=x at q1 q2 qm;rw[tl] at q2;obtain⟨x0,xl⟩:=hps x qm;have x2:x<(C.length:Int):=A0b
  obtain⟨y,hy⟩:∃y,C[x.toNat]?=some y:=⟨_,io xl⟩;have hat:di C x=y:=by unfold di;rw[hy];rfl
  obtain⟨ys,yc,yr⟩:=y;have p1:(C.map aa)[x.toNat]?=some (.agg [.x (.string ys),.i yc,.i yr]):=by rw[ac9,hy];rfl
  have hm:mer H (upd (fun _=>none) g (some (rowO L 33))) g=some (rowO L 33):=by rw[iB hg,aj]
  have c1:=bf hm;have i3:i*3+3<=L.length:=A0b
  have xs1:nP (.agg [.x (.string ys),.i yc,.i yr])=some [.string ys,.int .i64 yc,.int .i64 yr]:=rfl;have z27:rO prog 29=some 3:=A0a
  have u1:∀o,upd (mer H (FQ g L)) g o=mer H (upd (fun _=>none) g o):=fun o=>by rw[cH hg,gp]
  simp +decide only[go_sem,Nat.reduceBEq,z27,tl,eq,adi,d1,d2,d3,d4,q2,x0,x2,p1,c1,xs1,u1,adm,adT,i3];refine⟨⟨(i+1,fU L (i*3) [.string ys,.int .i64 yc,.int .i64 yr]),hil,?_,fun j x' hj hx'=>?_⟩,⟨?_,?_,rfl⟩,by simp only;omega⟩
  . simp only;rw[Mn (by exact i3)];exact hL
  . simp only at hj⊢;exact cellAt.put (q':=(ys,yc,yr)) i3 (fun hne=>hc j x' A0b hx') (fun he=>by subst he;rw[q1] at hx';cases hx';exact hat.symm)
  . exact WT
  . exact WT
 have d1:decide ((i:Int)<ps.length)=false:=Io A0b;have hii:i=ps.length:=A0b
 have z0:(0:Int)<(ps.length:Int):=by rw[<-hpe,adm];omega
 have q0:(ps.map aw)[0]?=some (aw p):=by rw[<-hpe];rfl
 obtain⟨p0,pl⟩:=hps p (by rw[<-hpe];exact adP ..);have p2:p<(R.length:Int):=A0b
 obtain⟨rs,hrsr⟩:∃rs,R[p.toNat]?=some rs:=⟨_,io A0b ⟩;obtain⟨br,zr,hbzr,hzr⟩:∃b z,rI rs= .sl b z (rs.map aw) none∧(rs≠[]->z=1):=th rs;have arr:(R.map rI)[p.toNat]?=some (.sl br zr (rs.map aw) none):=by rw[ac9,hrsr,<-hbzr];rfl
 obtain⟨hr8,hrr⟩:=hR rs (adg hrsr);have hrz:rowZ R p=rs:=by unfold rowZ;rw[hrsr];rfl
 rw [hrz] at hT;have hend:∀r,T (Y8 C ps r) H->K8 (.agg [.x (.s g ps.length ps.length),.bool r]) (mer H (FQ g L)) T:=fun r hr=>by
  refine nh (fun m w v h1 h2 h3=>?_) ((Dis.empty H).upd hg) hr;cases h3 with
  | agg cs Cs hl h=>
    refine .agg cs _ hl (fun k v u hi hu=>?_);rcases k with _|_|k
    . cases hu;have h4:=h 0 v _ hi rfl;cases h4;have h5:=CL (m:=m) (w:=w) (qs:=ps.map (di C)) (aj (fun _=>none) g (some (rowO L 33))) (by rw[eq];exact hL) (fun j q hj=>by rw[ac9,adn] at hj;obtain⟨x,hx,rfl⟩:=hj;exact hc j x (by have:=(iO.1 hx).1;omega) hx) h1 h2
      rwa [eq] at h5
    . cases hu;exact h 1 v _ hi rfl
    . cases hu
 by_cases hlen:(1:Int)<(ps.length:Int)
 . have e1:decide ((1:Int)<(ps.length:Int))=true:=ac0 hlen;rw[e1,Bool.true_or] at hT;simp +decide only[go_sem,Nat.reduceBEq,eq,d1,z0,q0,p0,p2,arr,e1];exact hend _ hT
 . have e1:decide ((1:Int)<(ps.length:Int))=false:=Io hlen;rw[e1,afG] at hT;simp +decide only[go_sem,Nat.reduceBEq,eq,d1,z0,q0,p0,p2,arr,e1];refine⟨rs,p,by rw[hbzr],hr8,?_⟩;simp +decide only[go_sem,Nat.reduceBEq,e1];exact hend _ hT
def YU(us:U)(H:HH)(T:V->HH->Prop):Prop:=∃rs,us=[.l 1 (rs.map aw)]∧rs≠[]∧rs.length<=100000000∧∀d∈rs,(∀x∈rs,d<=x)->T (aw d) H
theorem Qa:cR (bV [] [] [] (fun _=>false) (fun _=>false)) 36 YU:=by
 refine cO (F:={F:=fun _=>none,D:=fun _=>false}) (n:=25) (k:=1) (bF [] [] [] _ _ trivial trivial trivial) A0a (fun f C e=>by cases e) (fun t s C e=>by cases e) func36 rfl (fun a w=>call36 a w) ntmps36 A0c A0c A0a ?_;rintro us H T ⟨rs,rfl,hne,hl,hT⟩ hdat;refine⟨rfl,?_⟩;obtain⟨r0,rt,rfl⟩:=List.exists_cons_of_ne_nil hne;generalize hrs:r0::rt=rs at*;have hpos:0<rs.length:=by rw[<-hrs,adm];omega
 have z1:decide ((rs.length:Int)<1)=false:=Io A0b;have z2:(0:Int)<(rs.length:Int):=A0b
 have z3:(rs.map aw)[0]?=some (aw r0):=by rw[<-hrs];rfl
 simp +decide only[go_sem,eq,z1,z2,z3];refine bz (X:={q:Nat×Int//1<=q.1∧q.1<=rs.length∧q.2∈rs.take q.1∧∀x∈rs.take q.1,q.2<=x}) (fun q=>[(0,.l 1 (rs.map aw)),(3,aw q.1.2),(4,aw (q.1.1:Int))]) (fun _=>[]) (fun _ H'=>H'=H) (fun q=>rs.length-q.1.1) ⟨(1,r0),adp _,hpos,by rw[<-hrs];simp,fun x hx=>by rw[<-hrs] at hx;simp at hx;omega⟩ A0f A0f rfl ?_;rintro⟨⟨i,d⟩,hi1,hi,hd,hle⟩ H1 rfl;simp only at hi1 hi hd hle⊢;by_cases hil:i<rs.length
 case neg=>have d1:decide ((i:Int)<rs.length)=false:=Io A0b;rw[ady A0b] at hd hle;simp +decide only[go_sem,eq,d1];exact hT d hd hle
 have d1:decide ((i:Int)<rs.length)=true:=ac0 A0b;have d2:(0:Int)<=(i:Int):=A0b
 have d3:(i:Int)<rs.length:=A0b
 have d4:=ax (i:=i) A0b;have q1:rs[i]?=some rs[i]:=io hil;have q2:(rs.map aw)[(i:Int).toNat]?=some (aw rs[i]):=by rw[tl,ac9,q1];rfl
 have qm:rs[i]∈rs:=adR hil;generalize rs[i]=x at q1 q2 qm;rw[tl] at q2;simp +decide only[go_sem,eq,tl,d1,d2,d3,d4,q2];have hm:EO d x=if d<=x then d else x:=by unfold EO;first|rfl|grind
 refine⟨⟨(i+1,EO d x),by simp only;omega,hil,?_,fun y hy=>?_⟩,⟨?_,?_,rfl⟩,by simp only;omega⟩
 . simp only;rw[aF q1,hm,adv,adj];split
   . exact .inl hd
   . exact .inr rfl
 . simp only at hy⊢;rw[aF q1,adv,adj] at hy;rw[hm];rcases hy with hy|rfl
   . have:=hle y hy;split<;>omega
   . split<;>omega
 . exact WV
 . exact WV
