/- Chapter 12: which cells hang on which, plainly. No program is named here. -/
import Derived.Test.YtmfojhkjbkombaaMG
import Derived.Test.YtmfojhkjbkombaaMPB
import Derived.Test.YtmfojhkjbkombaaMR
import Derived.Test.YtmfojhkjbkombaaMT
namespace Go.Proofs.Ytmfojhkjbkombaa
set_option linter.unusedSimpArgs false
set_option maxRecDepth 100000
open Go Go.RowKit
abbrev En:=C3×Bool×Nd×T3
def bo (L:List En):List C3:=L.map fun e=>e.1
def ou (out:List En) (e:En):List En:=
 out.takeWhile (fun x=>ab x.1 e.1)++e::(match out.dropWhile (fun x=>ab x.1 e.1) with
  |x::r=>if x.1=e.1 then r else x::r
  |[]=>[])
def cC (l:List En):List En:=l.foldl ou []
theorem ov {e:En}:∀{l:List En},∀x∈l.takeWhile (fun x=>ab x.1 e.1),ab x.1 e.1=true
 |[],x,h=>by cases h
 | y ::l,x,h=>by
   cases hy:ab y.1 e.1 with
   | true=>
     simp only[List.takeWhile,hy] at h;rcases ZE.1 h with rfl|h
     . exact hy
     . exact ov x h
   |false=>simp only[List.takeWhile,hy] at h;cases h
theorem ow {e:En}:∀{l:List En},iF ab (bo l)->∀x∈l.dropWhile (fun x=>ab x.1 e.1),ab x.1 e.1=false
 |[],_,x,h=>by cases h
 | y ::l,hs,x,h=>by
   have hs':=aaK.1 (show(y.1::bo l).Pairwise _ from hs);cases hy:ab y.1 e.1 with
   |true=>simp only[List.dropWhile,hy] at h;exact ow hs'.2 x h
   | false=>
     simp only[List.dropWhile,hy] at h;rcases ZE.1 h with rfl|h
     . exact hy
     . cases hx:ab x.1 e.1 with
       |false=>rfl
       |true=>have h1:=hs'.1 x.1 (ZA.2 ⟨x,h,rfl⟩);rw[bQ.trans _ _ _ h1 hx] at hy;cases hy
theorem vG {out:List En} {e:En} (hs:iF ab (bo out)) {x:En}:x∈(match out.dropWhile (fun x=>ab x.1 e.1) with
 |x::r=>if x.1=e.1 then r else x::r
 |[]=>[])↔x∈out.dropWhile (fun x=>ab x.1 e.1)∧x.1≠e.1:=by
 have hd:=ow (e:=e) hs;have hsub:iF ab (bo (out.dropWhile fun x=>ab x.1 e.1)):=abD ((List.dropWhile_sublist _).map _) hs;generalize out.dropWhile (fun x=>ab x.1 e.1)=r at hd hsub;cases r with
 |nil=>simp
 | cons y r=>
   have hp:=aaK.1 (show(y.1::bo r).Pairwise _ from hsub);have hne:∀z∈r,z.1≠e.1:=fun z hz ez=>by have h1:=hp.1 z.1 (ZA.2 ⟨z,hz,rfl⟩);rw[ez] at h1;rw[hd y (ZP ..)] at h1;cases h1
   simp only;split
   . rename_i he;constructor
     . exact fun hx=>⟨ZI _ hx,hne x hx⟩
     . rintro⟨hx,hn⟩;rcases ZE.1 hx with rfl|hx
       . exact absurd he hn
       . exact hx
   . rename_i he;constructor
     . intro hx;refine⟨hx,?_⟩;rcases ZE.1 hx with rfl|hx
       . exact he
       . exact hne x hx
     . exact fun hx=>hx.1
theorem Lj {out:List En} (hs:iF ab (bo out)) (e:En):iF ab (bo (ou out e)):=by
 have e0:=aaQ (p:=fun x:En=>ab x.1 e.1) (l:=out);have hs2:iF ab (bo (out.takeWhile (fun x=>ab x.1 e.1))++bo (out.dropWhile fun x=>ab x.1 e.1)):=by unfold bo at hs⊢;rw[<-ZY,e0];exact hs
 have h2:=aaC.1 hs2
 have hrest:∀x∈bo (match out.dropWhile (fun x=>ab x.1 e.1) with
  |x::r=>if x.1=e.1 then r else x::r
  |[]=>[]),x∈bo (out.dropWhile fun x=>ab x.1 e.1)∧ab e.1 x=true:=fun x hx=>by
  obtain⟨y,hy,rfl⟩:=ZA.1 hx;obtain⟨h3,h4⟩:=(vG hs).1 hy;refine⟨ZA.2 ⟨y,h3,rfl⟩,?_⟩;cases hl:ab e.1 y.1 with
  |true=>rfl
  |false=>exact absurd (bQ.tri _ _ hl (ow hs y h3)).symm h4
 have hr:iF ab (bo (match out.dropWhile (fun x=>ab x.1 e.1) with
  |x::r=>if x.1=e.1 then r else x::r
  |[]=>[])):=by
  refine abD ?_ h2.2.1;unfold bo;refine List.Sublist.map _ ?_;generalize out.dropWhile (fun x=>ab x.1 e.1)=r;cases r with
  |nil=>exact List.Sublist.refl _
  | cons y r=>
    simp only;split
    . exact List.sublist_cons_self _ _
    . exact List.Sublist.refl _
 unfold ou bo;rw[ZY,ZN];refine aaC.2 ⟨h2.1,aaK.2 ⟨fun x hx=>(hrest x hx).2,hr⟩,fun a ha b hb=>?_⟩;obtain⟨y,hy,rfl⟩:=ZA.1 ha;rcases ZE.1 hb with rfl|hb
 . exact ov y hy
 . exact h2.2.2 _ ha _ (hrest b hb).1
theorem Lk {out:List En} (hs:iF ab (bo out)) {e x:En}:x∈ou out e↔x=e∨x∈out∧x.1≠e.1:=by
 have e0:=aaQ (p:=fun x:En=>ab x.1 e.1) (l:=out);have hm:x∈out↔x∈out.takeWhile (fun x=>ab x.1 e.1)∨x∈out.dropWhile (fun x=>ab x.1 e.1):=by rw[<-Zv,e0]
 unfold ou;rw[Zv,ZE,vG hs,hm];constructor
 . rintro(h|h|h)
   . refine .inr ⟨.inl h,fun ee=>?_⟩;have:=ov x h;rw[ee,bQ.irr] at this;cases this
   . exact .inl h
   . exact .inr ⟨.inr h.1,h.2⟩
 . rintro(h|⟨h|h,hn⟩)
   . exact .inr (.inl h)
   . exact .inl h
   . exact .inr (.inr ⟨h,hn⟩)
theorem Ll (out:List En) (e:En):(ou out e).length<=out.length+1:=by
 have e0:=abo List.length (aaQ (p:=fun x:En=>ab x.1 e.1) (l:=out));unfold ou;rw[Zr] at e0⊢;rw[ZB];generalize out.dropWhile (fun x=>ab x.1 e.1)=r at e0;cases r with
 |nil=>simp only[Z5] at e0⊢;omega
 | cons y r=>
   simp only[ZB] at e0;simp only;split
   . omega
   . rw[ZB];omega
variable {l:List En}
theorem DJ:∀{out:List En},iF ab (bo out)->iF ab (bo (l.foldl ou out))∧(l.foldl ou out).length<=out.length+l.length:=by
 induction l with
 |nil=>exact fun h=>⟨h,A0l⟩
 |cons e l ih=>intro out h;obtain⟨h1,h2⟩:=ih (Lj h e);have:=Ll out e;refine⟨h1,?_⟩;rw[aao,ZB];omega
theorem fE (l:List En):iF ab (bo (cC l)):=(DJ List.Pairwise.nil).1
theorem qg (l:List En) (e:En):cC (l++[e])=ou (cC l) e:=by simp[cC]
theorem vH (l:List En):∀x:En,x∈cC l↔∃l1 l2,l=l1++x::l2∧∀y∈l2,y.1≠x.1:=by
 suffices h:∀(k:List En) (x:En),x∈cC k.reverse↔∃l1 l2,k.reverse=l1++x::l2∧∀y∈l2,y.1≠x.1 by
  intro x;have:=h l.reverse x
  rwa [List.reverse_reverse] at this
 intro k
 induction k with
 |nil=>intro x;simp[cC]
 | cons e k ih=>
   intro x;rw[List.reverse_cons,qg,Lk (fE _),ih x];constructor
   . rintro(rfl|⟨⟨l1,l2,h1,h2⟩,hn⟩)
     . exact⟨k.reverse,[],rfl,fun y hy=>by cases hy⟩
     . refine⟨l1,l2++[e],by rw[h1];simp,fun y hy=>?_⟩;rcases Zv.1 hy with hy|hy
       . exact h2 y hy
       . rw[Zn.1 hy];exact fun h=>hn h.symm
   . rintro⟨l1,l2,h1,h2⟩;rcases abZ l2 with rfl|⟨l3,z,rfl⟩
     . have:=List.append_inj' h1 rfl;have h3:=this.2;simp only[Z2,aaZ] at h3;exact .inl h3.symm
     . rw[ab0] at h1 h2;have h3:k.reverse++[e]=(l1++x::l3)++[z]:=by rw[h1];simp
       obtain⟨h4,h5⟩:=List.append_inj' h3 rfl;simp only[Z2,aaZ] at h5;subst h5;exact .inr ⟨⟨l1,l3,h4,fun y hy=>h2 y (Z6 _ hy)⟩,fun h=>h2 e (aaL _ (Zn.2 rfl)) h.symm⟩
def eb (L:List En) (e:En):List C3:=if e.2.1=true then (aJ e.2.2.1).filter (fun c=>Ml (bo L) c) else []
def ox (L:List En) (c:C3):List C3:=match L.find? (fun e=>gq e.1 c) with
 |some e=>eb L e
 |none=>[]
def readersD (L:List En) (c:C3):List C3:=(L.filter fun e=>Ml (eb L e) c).map fun e=>e.1
inductive Hang (L:List En) (c:C3):C3->Prop
 |one {x:C3} (h:x∈readersD L c):Hang L c x
 |next {y x:C3} (h:Hang L c y) (h2:x∈readersD L y):Hang L c x
theorem zw (L:List En) (e:En):iF ab (eb L e):=by
 unfold eb;split
 . exact abD List.filter_sublist (lh _)
 . exact List.Pairwise.nil
variable {L:List En}
theorem vI {c x:C3}:x∈readersD L c↔∃e∈L,e.1=x∧c∈eb L e:=by
 unfold readersD;rw[ZA];constructor
 . rintro⟨e,he,rfl⟩;obtain⟨h1,h2⟩:=aaa.1 he;exact⟨e,h1,rfl,ie.1 h2⟩
 . rintro⟨e,he,rfl,h⟩;exact⟨e,aaa.2 ⟨he,ie.2 h⟩,rfl⟩
theorem vJ (hs:iF ab (bo L)) (c:C3):iF ab (readersD L c):=abD (List.filter_sublist.map _) hs
theorem qh (hs:iF ab (bo L)) {e f:En} (he:e∈L) (hf:f∈L) (h:e.1=f.1):e=f:=by
 induction L with
 |nil=>cases he
 | cons y L ih=>
   have hp:=aaK.1 (show(y.1::bo L).Pairwise _ from hs);have key:∀z∈L,y.1≠z.1:=fun z hz ez=>by have h1:=hp.1 z.1 (ZA.2 ⟨z,hz,rfl⟩);rw[ez,bQ.irr] at h1;cases h1
   rcases ZE.1 he with he1|he1
   . rcases ZE.1 hf with hf1|hf1
     . rw[he1,hf1]
     . exact absurd (he1▸h) (key f hf1)
   . rcases ZE.1 hf with hf1|hf1
     . exact absurd (hf1▸h.symm) (key e he1)
     . exact ih hp.2 he1 hf1
theorem lI (hs:iF ab (bo L)) {e:En} (he:e∈L):ox L e.1=eb L e:=by
 unfold ox;cases hf:L.find? (fun x=>gq x.1 e.1) with
 |none=>have:=List.find?_eq_none.1 hf e he;exact absurd (Zk rfl) this
 |some f=>have h0:gq f.1 e.1=true:=List.find?_some (p:=fun x:En=>gq x.1 e.1) hf;have h1:f.1=e.1:=ZO h0;have h2:=qh hs (List.mem_of_find?_eq_some hf) he h1;rw[h2]
def kE (L:List En) (c:C3) (l:List C3):Prop:=iF ab l∧(∀x∈readersD L c,x∈l)∧∀x∈l,Hang L c x
def HS (rs:List V) (b:Nat->Option (List V)):V->Prop
 | .ptr s 0=>(b s).map (List.map V.bare)=some rs
 |_=>False
def Tg (t:Tmp) (rs:List V):Out->St->Prop
 | .exit _,_=>False
 |_,st=>HS rs st.b (st.t t)
section
variable {E:Env} {n:Nat} {pm:Pm} {m0 m:Lim} {w0 w:World} {β:Nat->Nat} {st:St} {a:Act}
end
attribute [go_sem] Tg HS
def dv (e:En):V:= .agg (.x (.string e.1.1):: .x (.int .i64 e.1.2.1):: .x (.int .i64 e.1.2.2):: .x (.bool e.2.1)::(ib e.2.2.1.hd (nL e.2.2.1)++[.x (.int .i64 e.2.2.2.1),.x (.int .i64 e.2.2.2.2.1),.x (.string e.2.2.2.2.2)]))
theorem Bb (a b:En) (e:dv a=dv b):a=b:=by
 obtain⟨⟨a1,a2,a3⟩,a4,n,a5,a6,a7⟩:=a;obtain⟨⟨b1,b2,b3⟩,b4,n',b5,b6,b7⟩:=b;simp only[dv,V.agg.injEq,Z2,V.x.injEq,Value.string.injEq,Value.int.injEq,Value.bool.injEq,abI] at e;obtain⟨rfl,rfl,rfl,rfl,e⟩:=e;have h:=List.append_inj e rfl;have h2:=h.2;simp only[Z2,V.x.injEq,Value.string.injEq,Value.int.injEq,abI,aaZ] at h2;obtain⟨rfl,rfl,rfl⟩:=h2;have hn:av n=av n':=by rw[be,be,h.1]
 rw[la _ _ hn]
theorem cA (a b:C3) (e:aa a=aa b):a=b:=by obtain⟨a1,a2,a3⟩:=a;obtain⟨b1,b2,b3⟩:=b;simp only[aa,V.agg.injEq,Z2,V.x.injEq,Value.int.injEq,Value.string.injEq,abI,aaZ] at e;obtain⟨rfl,rfl,rfl⟩:=e;rfl
theorem bm {α β:Type} {f:α->β} (hf:∀a b,f a=f b->a=b):∀{l l':List α},l.map f=l'.map f->l=l'
 |[],[],_=>rfl
 |[],_::_,h=>by cases h
 |_::_,[],h=>by cases h
 |a::l,b::l',h=>by obtain⟨h1,h2⟩:=aaT (show f a::l.map f=f b::l'.map f from h);rw[hf a b h1,bm hf h2]
abbrev ES:=Bool×Nat×List En
def iZ (p:ES):List V:=[.sl p.1 p.2.1 (p.2.2.map dv) none]
theorem DK (p q:ES) (e:iZ p=iZ q):p=q:=by obtain⟨a,b,c⟩:=p;obtain⟨d,f,g⟩:=q;simp only[iZ,Z2,V.sl.injEq,aaZ] at e;obtain⟨rfl,rfl,h⟩:=e;rw[bm Bb h]
def Yn (p:ES):Prop:=(p.2.2≠[]->p.2.1=20)∧p.2.2.length<=400∧∀e∈p.2.2,rq e.2.2.1<=400
theorem HT {x:En} (h:x∈cC l):x∈l:=by obtain⟨l1,l2,e,_⟩:=(vH l x).1 h;rw[e];exact aaL _ (ZP ..)
theorem Lm (e:En):∃N T:List V,dv e= .agg (.x (.string e.1.1):: .x (.int .i64 e.1.2.1):: .x (.int .i64 e.1.2.2):: .x (.bool e.2.1)::(N++T))∧N.length=13∧T.length=3∧av e.2.2.1= .agg N∧(N++T).take 13=N:=
 ⟨ib e.2.2.1.hd (nL e.2.2.1),_,rfl,rfl,rfl,be _,rfl⟩
end Go.Proofs.Ytmfojhkjbkombaa
