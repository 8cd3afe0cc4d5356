/- Chapter 12: which cells hang on which, plainly. No program is named here. -/
import Derived.Test.YtalkmhjanlljhaaMG
import Derived.Test.YtalkmhjanlljhaaMPB
import Derived.Test.YtalkmhjanlljhaaMR
import Derived.Test.YtalkmhjanlljhaaMT
namespace Go.Proofs.Ytalkmhjanlljhaa
set_option linter.unusedSimpArgs false
set_option maxRecDepth 100000
open Go Go.RowKit
abbrev En:=C3×Bool×Nd×T3
def aP (L:List En):List C3:=L.map fun e=>e.1
def mj (out:List En) (e:En):List En:=
 out.takeWhile (fun x=>ac x.1 e.1)++e::(match out.dropWhile (fun x=>ac x.1 e.1) with
  |x::r=>if x.1=e.1 then r else x::r
  |[]=>[])
def aK (l:List En):List En:=l.foldl mj []
theorem ml {e:En}:∀{l:List En},∀x∈l.takeWhile (fun x=>ac x.1 e.1),ac x.1 e.1=true
 |[],x,h=>by cases h
 | y ::l,x,h=>by
   cases hy:ac y.1 e.1 with
   | true=>
     simp only[List.takeWhile,hy] at h;rcases S5.1 h with rfl|h
     . exact hy
     . exact ml x h
   |false=>simp only[List.takeWhile,hy] at h;cases h
theorem mn {e:En}:∀{l:List En},eW ac (aP l)->∀x∈l.dropWhile (fun x=>ac x.1 e.1),ac x.1 e.1=false
 |[],_,x,h=>by cases h
 | y ::l,hs,x,h=>by
   have hs':=T5.1 (show(y.1::aP l).Pairwise _ from hs);cases hy:ac y.1 e.1 with
   |true=>simp only[List.dropWhile,hy] at h;exact mn hs'.2 x h
   | false=>
     simp only[List.dropWhile,hy] at h;rcases S5.1 h with rfl|h
     . exact hy
     . cases hx:ac x.1 e.1 with
       |false=>rfl
       |true=>have h1:=hs'.1 x.1 (SU.2 ⟨x,h,rfl⟩);rw[bq.trans _ _ _ h1 hx] at hy;cases hy
variable {e:En}
theorem rC {out:List En} (hs:eW ac (aP out)) {x:En}:x∈(match out.dropWhile (fun x=>ac x.1 e.1) with
 |x::r=>if x.1=e.1 then r else x::r
 |[]=>[])↔x∈out.dropWhile (fun x=>ac x.1 e.1)∧x.1≠e.1:=by
 have hd:=mn (e:=e) hs;have hsub:eW ac (aP (out.dropWhile fun x=>ac x.1 e.1)):=Ud ((List.dropWhile_sublist _).map _) hs;generalize out.dropWhile (fun x=>ac x.1 e.1)=r at hd hsub;cases r with
 |nil=>simp
 | cons y r=>
   have hp:=T5.1 (show(y.1::aP r).Pairwise _ from hsub);have hne:∀z∈r,z.1≠e.1:=fun z hz ez=>by have h1:=hp.1 z.1 (SU.2 ⟨z,hz,rfl⟩);rw[ez] at h1;rw[hd y (Tm ..)] at h1;cases h1
   simp only;split
   . rename_i he;constructor
     . exact fun hx=>⟨Tg _ hx,hne x hx⟩
     . rintro⟨hx,hn⟩;rcases S5.1 hx with rfl|hx
       . exact absurd he hn
       . exact hx
   . rename_i he;constructor
     . intro hx;refine⟨hx,?_⟩;rcases S5.1 hx with rfl|hx
       . exact he
       . exact hne x hx
     . exact fun hx=>hx.1
theorem FD {out:List En} (hs:eW ac (aP out)) (e:En):eW ac (aP (mj out e)):=by
 have e0:=Ub (p:=fun x:En=>ac x.1 e.1) (l:=out);have hs2:eW ac (aP (out.takeWhile (fun x=>ac x.1 e.1))++aP (out.dropWhile fun x=>ac x.1 e.1)):=by unfold aP at hs⊢;rw[<-TH,e0];exact hs
 have h2:=UF.1 hs2
 have hrest:∀x∈aP (match out.dropWhile (fun x=>ac x.1 e.1) with
  |x::r=>if x.1=e.1 then r else x::r
  |[]=>[]),x∈aP (out.dropWhile fun x=>ac x.1 e.1)∧ac e.1 x=true:=fun x hx=>by
  obtain⟨y,hy,rfl⟩:=SU.1 hx;obtain⟨h3,h4⟩:=(rC hs).1 hy;refine⟨SU.2 ⟨y,h3,rfl⟩,?_⟩;cases hl:ac e.1 y.1 with
  |true=>rfl
  |false=>exact absurd (bq.tri _ _ hl (mn hs y h3)).symm h4
 have hr:eW ac (aP (match out.dropWhile (fun x=>ac x.1 e.1) with
  |x::r=>if x.1=e.1 then r else x::r
  |[]=>[])):=by
  refine Ud ?_ h2.2.1;unfold aP;refine List.Sublist.map _ ?_;generalize out.dropWhile (fun x=>ac x.1 e.1)=r;cases r with
  |nil=>exact List.Sublist.refl _
  | cons y r=>
    simp only;split
    . exact List.sublist_cons_self _ _
    . exact List.Sublist.refl _
 unfold mj aP;rw[TH,Tv];refine UF.2 ⟨h2.1,T5.2 ⟨fun x hx=>(hrest x hx).2,hr⟩,fun a ha b hb=>?_⟩;obtain⟨y,hy,rfl⟩:=SU.1 ha;rcases S5.1 hb with rfl|hb
 . exact ml y hy
 . exact h2.2.2 _ ha _ (hrest b hb).1
theorem FF {out:List En} (hs:eW ac (aP out)) {e x:En}:x∈mj out e↔x=e∨x∈out∧x.1≠e.1:=by
 have e0:=Ub (p:=fun x:En=>ac x.1 e.1) (l:=out);have hm:x∈out↔x∈out.takeWhile (fun x=>ac x.1 e.1)∨x∈out.dropWhile (fun x=>ac x.1 e.1):=by rw[<-Ta,e0]
 unfold mj;rw[Ta,S5,rC hs,hm];constructor
 . rintro(h|h|h)
   . refine .inr ⟨.inl h,fun ee=>?_⟩;have:=ml x h;rw[ee,bq.irr] at this;cases this
   . exact .inl h
   . exact .inr ⟨.inr h.1,h.2⟩
 . rintro(h|⟨h|h,hn⟩)
   . exact .inr (.inl h)
   . exact .inl h
   . exact .inr (.inr ⟨h,hn⟩)
theorem FG (out:List En) (e:En):(mj out e).length<=out.length+1:=by
 have e0:=UY List.length (Ub (p:=fun x:En=>ac x.1 e.1) (l:=out));unfold mj;rw[SQ] at e0⊢;rw[SV];generalize out.dropWhile (fun x=>ac x.1 e.1)=r at e0;cases r with
 |nil=>simp only[Tu] at e0⊢;omega
 | cons y r=>
   simp only[SV] at e0;simp only;split
   . omega
   . rw[SV];omega
variable {l:List En}
theorem nQ:∀{out:List En},eW ac (aP out)->eW ac (aP (l.foldl mj out))∧(l.foldl mj out).length<=out.length+l.length:=by
 induction l with
 |nil=>exact fun h=>⟨h,by simp⟩
 |cons e l ih=>intro out h;obtain⟨h1,h2⟩:=ih (FD h e);have:=FG out e;refine⟨h1,?_⟩;rw[Uh,SV];omega
theorem dE (l:List En):eW ac (aP (aK l)):=(nQ List.Pairwise.nil).1
theorem Cz (l:List En):(aK l).length<=l.length:=by have:=(nQ (l:=l) (out:=[]) List.Pairwise.nil).2;show(List.foldl mj [] l).length<=l.length;simpa using this
theorem zt (l:List En) (e:En):aK (l++[e])=mj (aK l) e:=by simp[aK]
theorem rD (l:List En):∀x:En,x∈aK l↔∃l1 l2,l=l1++x::l2∧∀y∈l2,y.1≠x.1:=by
 suffices h:∀(k:List En) (x:En),x∈aK k.reverse↔∃l1 l2,k.reverse=l1++x::l2∧∀y∈l2,y.1≠x.1 by
  intro x;have:=h l.reverse x
  rwa [List.reverse_reverse] at this
 intro k
 induction k with
 |nil=>intro x;simp[aK]
 | cons e k ih=>
   intro x;rw[List.reverse_cons,zt,FF (dE _),ih x];constructor
   . rintro(rfl|⟨⟨l1,l2,h1,h2⟩,hn⟩)
     . exact⟨k.reverse,[],rfl,fun y hy=>by cases hy⟩
     . refine⟨l1,l2++[e],by rw[h1];simp,fun y hy=>?_⟩;rcases Ta.1 hy with hy|hy
       . exact h2 y hy
       . rw[Tf.1 hy];exact fun h=>hn h.symm
   . rintro⟨l1,l2,h1,h2⟩;rcases List.eq_nil_or_concat l2 with rfl|⟨l3,z,rfl⟩
     . have:=List.append_inj' h1 rfl;have h3:=this.2;simp only[Tr,Us] at h3;exact .inl h3.symm
     . rw[List.concat_eq_append] at h1 h2;have h3:k.reverse++[e]=(l1++x::l3)++[z]:=by rw[h1];simp
       obtain⟨h4,h5⟩:=List.append_inj' h3 rfl;simp only[Tr,Us] at h5;subst h5;exact .inr ⟨⟨l1,l3,h4,fun y hy=>h2 y (TD _ hy)⟩,fun h=>h2 e (TT _ (Tf.2 rfl)) h.symm⟩
def eQ (L:List En) (e:En):List C3:=if e.2.1=true then (aJ e.2.2.1).filter (fun c=>uM (aP L) c) else []
def c8 (L:List En) (c:C3):List C3:=match L.find? (fun e=>eA e.1 c) with
 |some e=>eQ L e
 |none=>[]
def readersD (L:List En) (c:C3):List C3:=(L.filter fun e=>uM (eQ L e) c).map fun e=>e.1
inductive Hang (L:List En) (c:C3):C3->Prop
 |one {x:C3} (h:x∈readersD L c):Hang L c x
 |next {y x:C3} (h:Hang L c y) (h2:x∈readersD L y):Hang L c x
open Classical in
noncomputable def c9 (L:List En) (c:C3):List C3:=(aP L).filter fun x=>decide (Hang L c x)
variable {L:List En} {c:C3}
theorem zu (h:c∈eQ L e):c∈aP L:=by
 unfold eQ at h;split at h
 . exact cd.1 (Ts.1 h).2
 . cases h
theorem uO (L:List En) (e:En):eW ac (eQ L e):=by
 unfold eQ;split
 . exact Ud Uz (jZ _)
 . exact List.Pairwise.nil
theorem gQ {x:C3}:x∈readersD L c↔∃e∈L,e.1=x∧c∈eQ L e:=by
 unfold readersD;rw[SU];constructor
 . rintro⟨e,he,rfl⟩;obtain⟨h1,h2⟩:=Ts.1 he;exact⟨e,h1,rfl,cd.1 h2⟩
 . rintro⟨e,he,rfl,h⟩;exact⟨e,Ts.2 ⟨he,cd.2 h⟩,rfl⟩
theorem kA {x:C3} (h:x∈readersD L c):x∈aP L:=by obtain⟨e,he,rfl,_⟩:=gQ.1 h;exact SU.2 ⟨e,he,rfl⟩
theorem rE (hs:eW ac (aP L)) (c:C3):eW ac (readersD L c):=Ud (Uz.map _) hs
theorem FH {x:C3} (h:Hang L c x):x∈aP L:=by
 cases h with
 |one h=>exact kA h
 |next _ h=>exact kA h
theorem zw (hs:eW ac (aP L)) (c:C3):eW ac (c9 L c):=Ud Uz hs
open Classical in
theorem fM {x:C3}:x∈c9 L c↔Hang L c x:=by unfold c9;rw[Ts,Tk];exact⟨fun h=>h.2,fun h=>⟨FH h,h⟩⟩
theorem CB (hs:eW ac (aP L)) {c:C3} {l:List C3} (hl:eW ac l) (h1:∀x∈readersD L c,x∈l) (h2:∀y∈l,∀x∈readersD L y,x∈l) (h3:∀x∈l,Hang L c x):l=c9 L c:=
 gO bq hl (zw hs c) fun x=>⟨fun h=>fM.2 (h3 x h),fun h=>by
  have k:=fM.1 h;clear h
  induction k with
  |one k1=>exact h1 _ k1
  |next _ k2 ih=>exact h2 _ ih _ k2⟩
theorem uP {y x:C3} (h:y∈readersD L c) (h2:Hang L y x):Hang L c x:=by
 induction h2 with
 |one h3=>exact .next (.one h) h3
 |next _ h3 ih=>exact .next ih h3
theorem nR (hs:eW ac (aP L)) {e f:En} (he:e∈L) (hf:f∈L) (h:e.1=f.1):e=f:=by
 induction L with
 |nil=>cases he
 | cons y L ih=>
   have hp:=T5.1 (show(y.1::aP L).Pairwise _ from hs);have key:∀z∈L,y.1≠z.1:=fun z hz ez=>by have h1:=hp.1 z.1 (SU.2 ⟨z,hz,rfl⟩);rw[ez,bq.irr] at h1;cases h1
   rcases S5.1 he with he1|he1
   . rcases S5.1 hf with hf1|hf1
     . rw[he1,hf1]
     . exact absurd (he1▸h) (key f hf1)
   . rcases S5.1 hf with hf1|hf1
     . exact absurd (hf1▸h.symm) (key e he1)
     . exact ih hp.2 he1 hf1
theorem it (hs:eW ac (aP L)) {e:En} (he:e∈L):c8 L e.1=eQ L e:=by
 unfold c8;cases hf:L.find? (fun x=>eA x.1 e.1) with
 |none=>have:=List.find?_eq_none.1 hf e he;exact absurd (Io rfl) this
 |some f=>have h0:eA f.1 e.1=true:=List.find?_some (p:=fun x:En=>eA x.1 e.1) hf;have h1:f.1=e.1:=Ti h0;have h2:=nR hs (List.mem_of_find?_eq_some hf) he h1;rw[h2]
theorem nS (h:c∉aP L):c8 L c=[]:=by
 have e:L.find? (fun e=>eA e.1 c)=none:=List.find?_eq_none.2 fun x hx e=>h (SU.2 ⟨x,hx,Ti e⟩)
 unfold c8;rw[e]
theorem fA (hs:eW ac (aP L)) {c x:C3}:c∈c8 L x↔x∈readersD L c:=by
 rw[gQ];constructor
 . intro h;by_cases hx:x∈aP L
   . obtain⟨e,he,rfl⟩:=SU.1 hx;rw[it hs he] at h;exact⟨e,he,rfl,h⟩
   . rw[nS hx] at h;cases h
 . rintro⟨e,he,rfl,h⟩;rw[it hs he];exact h
def jD (L:List En) (c:C3) (l:List C3):Prop:=eW ac l∧(∀x∈readersD L c,x∈l)∧∀x∈l,Hang L c x
theorem FI {l m:List C3} (hl:eW ac l) (hm:eW ac m) (h:∀x∈l,x∈m):l.Sublist m:=by
 have e:l=m.filter fun x=>uM l x:=gO bq hl (Ud Uz hm) fun x=>⟨fun hx=>Ts.2 ⟨h x hx,cd.2 hx⟩,fun hx=>cd.1 (Ts.1 hx).2⟩
 rw[e];exact Uz
def CC (rs:List V) (b:Nat->Option (List V)):V->Prop
 | .ptr s 0=>(b s).map (List.map V.bare)=some rs
 |_=>False
def MS (t:Tmp) (rs:List V):Out->St->Prop
 | .exit _,_=>False
 |_,st=>CC rs st.b (st.t t)
section
variable {E:Env} {n:Nat} {pm:Pm} {m0 m:Lim} {w0 w:World} {β:Nat->Nat} {st:St} {a:Act}
end
attribute [go_sem] MS CC
def cK (e:En):V:= .agg (.x (.string e.1.1):: .x (.int .i64 e.1.2.1):: .x (.int .i64 e.1.2.2):: .x (.bool e.2.1)::(gh e.2.2.1.hd (kw e.2.2.1)++[.x (.int .i64 e.2.2.2.1),.x (.int .i64 e.2.2.2.2.1),.x (.string e.2.2.2.2.2)]))
theorem wJ (a b:En) (e:cK a=cK b):a=b:=by
 obtain⟨⟨a1,a2,a3⟩,a4,n,a5,a6,a7⟩:=a;obtain⟨⟨b1,b2,b3⟩,b4,n',b5,b6,b7⟩:=b;simp only[cK,V.agg.injEq,Tr,V.x.injEq,Value.string.injEq,Value.int.injEq,Value.bool.injEq,U5] at e;obtain⟨rfl,rfl,rfl,rfl,e⟩:=e;have h:=List.append_inj e rfl;have h2:=h.2;simp only[Tr,V.x.injEq,Value.string.injEq,Value.int.injEq,U5,Us] at h2;obtain⟨rfl,rfl,rfl⟩:=h2;have hn:am n=am n':=by rw[aS,aS,h.1]
 rw[ii _ _ hn]
theorem cu (a b:C3) (e:aa a=aa b):a=b:=by obtain⟨a1,a2,a3⟩:=a;obtain⟨b1,b2,b3⟩:=b;simp only[aa,V.agg.injEq,Tr,V.x.injEq,Value.int.injEq,Value.string.injEq,U5,Us] at e;obtain⟨rfl,rfl,rfl⟩:=e;rfl
theorem bB {α β:Type} {f:α->β} (hf:∀a b,f a=f b->a=b):∀{l l':List α},l.map f=l'.map f->l=l'
 |[],[],_=>rfl
 |[],_::_,h=>by cases h
 |_::_,[],h=>by cases h
 |a::l,b::l',h=>by obtain⟨h1,h2⟩:=T4 (show f a::l.map f=f b::l'.map f from h);rw[hf a b h1,bB hf h2]
abbrev ES:=Bool×Nat×List En
def ej (p:ES):List V:=[.sl p.1 p.2.1 (p.2.2.map cK) none]
theorem j3 (p q:ES) (e:ej p=ej q):p=q:=by obtain⟨a,b,c⟩:=p;obtain⟨d,f,g⟩:=q;simp only[ej,Tr,V.sl.injEq,Us] at e;obtain⟨rfl,rfl,h⟩:=e;rw[bB wJ h]
def RL (p:ES):Prop:=(p.2.2≠[]->p.2.1=20)∧p.2.2.length<=400∧∀e∈p.2.2,kN e.2.2.1<=400
theorem CD {x:En} (h:x∈aK l):x∈l:=by obtain⟨l1,l2,e,_⟩:=(rD l x).1 h;rw[e];exact TT _ (Tm ..)
theorem FJ (e:En):∃N T:List V,cK e= .agg (.x (.string e.1.1):: .x (.int .i64 e.1.2.1):: .x (.int .i64 e.1.2.2):: .x (.bool e.2.1)::(N++T))∧N.length=13∧T.length=3∧am e.2.2.1= .agg N∧(N++T).take 13=N:=
 ⟨gh e.2.2.1.hd (kw e.2.2.1),_,rfl,rfl,rfl,aS _,rfl⟩
end Go.Proofs.Ytalkmhjanlljhaa
