/- What a node itself reads: refs.rangeOf. -/
import Derived.Test.YtmfojhkjbkombaaGreatMT
import Derived.Test.YtmfojhkjbkombaaGreatML
import Derived.Test.YtmfojhkjbkombaaGreatMI
import Derived.Test.YtmfojhkjbkombaaGreatMR
import Derived.Sort.Walk0
namespace Go.Proofs.YtmfojhkjbkombaaGreat
set_option linter.unusedSimpArgs false
open Go Go.RowKit
abbrev R2:=C3×C3
def rgV (q:R2):V:= .agg [.x (.string q.1.1),.x (.int .i64 q.1.2.1),.x (.int .i64 q.1.2.2),.x (.string q.2.1),.x (.int .i64 q.2.2.1),.x (.int .i64 q.2.2.2)]
def rg (h:Hd):R2:=if h.k=2 then ((h.cs,h.cc,h.cr),(h.cs,h.cc,h.cr)) else if h.k=3 then ((h.cs,h.cc,h.cr),(h.ts,h.tc,h.tr)) else ((⟨#[]⟩,0,0),(⟨#[]⟩,0,0))
def Xo (q:R2):Bool:=rh q.1.1 q.1.2.1 q.1.2.2 q.2.1 q.2.2.1 q.2.2.2&&decide (dT q.1.2.1 q.1.2.2 q.2.2.1 q.2.2.2<=400)
def l6 (h:Hd):List R2:=if Xo (rg h)=true then [rg h] else []
mutual
def allN:Nd->List R2
 | .leaf h=>l6 h
 | .mk h l=>l6 h++allL l
def allL:List Nd->List R2
 |[]=>[]
 |n::l=>allN n++allL l
end
theorem mu (a:Nd):allN a=l6 a.hd++allL a.ks:=by cases a<;>simp only[allN,allL,Nd.hd,Nd.ks,Z9]
abbrev Lv:=Bool×Nat×List Nd
def lvC:List Lv->Nat
 |[]=>0
 |e::r=>cntL e.2.2+lvC r
structure OutI (nd:Nd) (pre:List (List V)) (r:List Lv):Prop where
 ok:∀e∈r,e.2.2≠[]->e.2.1=13
 small:2*lvC r+r.length<=801
 sub:∀e∈r,∀q∈allL e.2.2,q∈allN nd
 full:∀q∈allN nd,[rgV q]∈pre∨∃e∈r,q∈allL e.2.2
 come:∀x∈pre,∃q∈allN nd,x=[rgV q]
structure InI (nd:Nd) (lv:List Nd) (M:Nat) (pre:List (List V)) (r:List Lv) (i:Nat):Prop where
 ok:∀e∈r,e.2.2≠[]->e.2.1=13
 small:2*lvC r+r.length+2*cntL (lv.drop i)+i+1<=M
 sub:∀e∈r,∀q∈allL e.2.2,q∈allN nd
 subL:∀q∈allL lv,q∈allN nd
 full:∀q∈allN nd,[rgV q]∈pre∨(∃e∈r,q∈allL e.2.2)∨q∈allL (lv.drop i)
 come:∀x∈pre,∃q∈allN nd,x=[rgV q]
theorem Gp {l:List Nd} {n:Nd} (h:n∈l) {q:R2} (hq:q∈allN n):q∈allL l:=by
 induction l with
 |nil=>cases h
 | cons a l ih=>
   rw[allL,YM];rcases YT.1 h with rfl|h
   . exact .inl hq
   . exact .inr (ih h)
theorem KB {l:List Nd} {i:Nat} {c:Nd} (h:l[i]?=some c):l.drop i=c::l.drop (i+1):=by obtain⟨hi,rfl⟩:=iO.1 h;exact abk hi
variable {nd:Nd} {lv:List Nd} {M:Nat} {pre:List (List V)} {r:List Lv}
theorem InI.next {i:Nat} (h:InI nd lv M pre r i) {c:Nd} (hc:lv[i]?=some c) {nl:Bool} {sz:Nat} {l:List Nd} (hl:c.ks=l) (hs:l≠[]->sz=13):
 (Xo (rg c.hd)=false->InI nd lv M pre ((nl,sz,l)::r) (i+1))∧(Xo (rg c.hd)=true->InI nd lv M (pre++[[rgV (rg c.hd)]]) ((nl,sz,l)::r) (i+1)∧rg c.hd∈allN nd):=by
 have hd:=KB hc;have hm:c∈lv:=YB hc;have hsmall:2*lvC ((nl,sz,l)::r)+((nl,sz,l)::r).length+2*cntL (lv.drop (i+1))+(i+1)+1<=M:=by have h1:=h.small;have h2:=nI c;rw[hd] at h1;rw[hl] at h2;simp only[lvC,YI,cntL] at h1⊢;omega
 have hself:∀q∈allN c,q∈l6 c.hd∨q∈allL l:=fun q hq=>by rw[mu,YM,hl] at hq;exact hq
 have hin:∀q∈allN c,q∈allN nd:=fun q hq=>h.subL q (Gp hm hq)
 have hok:∀e∈(nl,sz,l)::r,e.2.2≠[]->e.2.1=13:=fun e he=>by
  rcases YT.1 he with rfl|he
  . exact hs
  . exact h.ok e he
 have hsub:∀e∈(nl,sz,l)::r,∀q∈allL e.2.2,q∈allN nd:=fun e he q hq=>by
  rcases YT.1 he with rfl|he
  . exact hin q (by rw[mu,YM,hl];exact .inr hq)
  . exact h.sub e he q hq
 refine⟨fun hq=>⟨hok,hsmall,hsub,h.subL,fun q hq1=>?_,h.come⟩,fun hq=>⟨⟨hok,hsmall,hsub,h.subL,fun q hq1=>?_,fun x hx=>?_⟩,?_⟩⟩
 . rcases h.full q hq1 with h1|⟨e,he,h1⟩|h1
   . exact .inl h1
   . exact .inr (.inl ⟨e,YY _ he,h1⟩)
   . rw[hd,allL,YM] at h1;rcases h1 with h1|h1
     . rcases hself q h1 with h2|h2
       . simp[l6,hq] at h2
       . exact .inr (.inl ⟨_,Zc ..,h2⟩)
     . exact .inr (.inr h1)
 . rcases h.full q hq1 with h1|⟨e,he,h1⟩|h1
   . exact .inl (Zi _ h1)
   . exact .inr (.inl ⟨e,YY _ he,h1⟩)
   . rw[hd,allL,YM] at h1;rcases h1 with h1|h1
     . rcases hself q h1 with h2|h2
       . simp only[l6,hq,YX,YF] at h2;subst h2;exact .inl A0j
       . exact .inr (.inl ⟨_,Zc ..,h2⟩)
     . exact .inr (.inr h1)
 . rcases YM.1 hx with hx|hx
   . exact h.come x hx
   . obtain rfl:=YF.1 hx;exact⟨_,hin _ (by rw[mu,YM];left;simp[l6,hq]),rfl⟩
 . exact hin _ (by rw[mu,YM];left;simp[l6,hq])
theorem InI.out (h:InI nd lv M pre r lv.length) (hM:M<=801):OutI nd pre r∧2*lvC r+r.length<M:=by
 have h1:=h.small;refine⟨⟨h.ok,A0b,h.sub,fun q hq=>?_,h.come⟩,A0b⟩;rcases h.full q hq with h1|h1|h1
 . exact .inl h1
 . exact .inr h1
 . rw[List.drop_length] at h1;cases h1
theorem ib {E:Env} {n:Nat} {D:List Deferred} {m:Lim} {w:World} {O:Nat->Prop} {st:St} {a:Act} (h:Now E n D O m st a w) (i:Nat) {u:V} (hi:st.t i=u) (hu:u.dat=true):Rd m w (a.tmps.getD i Go.undef) u:=by obtain⟨b,β,hr⟩:=h.rel;exact(hi▸hr.tmps i:Rs m w β _ u).dat hu
theorem CR (p q:C3) (e:aa p=aa q):p=q:=by obtain⟨a,b,c⟩:=p;obtain⟨a',b',c'⟩:=q;simp only[aa,V.agg.injEq,Zb,V.x.injEq,Value.string.injEq,Value.int.injEq,aaU,Z7] at e;obtain⟨rfl,rfl,rfl⟩:=e;rfl
theorem Gq (x y:List UInt8):Op.bytesLess x y=decide (x<y):=by
 induction x generalizing y with
 |nil=>cases y<;>simp[Op.bytesLess]
 | cons a x ih=>
   cases y with
   |nil=>simp[Op.bytesLess]
   |cons b y=>simp[Op.bytesLess,ih,List.cons_lt_cons_iff,Bool.decide_or,Bool.decide_and,Bool.beq_eq_decide_eq]
variable {a b:List UInt8}
theorem CS {c:List UInt8} (h:Op.bytesLess a b=true) (k:Op.bytesLess b c=true):Op.bytesLess a c=true:=by rw[Gq] at*;exact Yz (List.lt_trans (Y9 h) (Y9 k))
theorem KC (h:Op.bytesLess a b=false) (k:Op.bytesLess b a=false):a=b:=by rw[Gq] at*;exact List.le_antisymm (aaD k) (aaD h)
theorem KD {a b:ByteArray} (h:a.toList=b.toList):a=b:=by rw[Lib.toList_data,Lib.toList_data] at h;exact ByteArray.ext (Zt.1 h)
structure Tot {α:Type} (lt:α->α->Bool):Prop where
 irr:∀a,lt a a=false
 trans:∀a b c,lt a b=true->lt b c=true->lt a c=true
 tri:∀a b,lt a b=false->lt b a=false->a=b
theorem bQ:Tot ae:=by
 refine⟨?_,?_,?_⟩
 . rintro⟨s,c,r⟩;simp[ae,dJ]
 . rintro⟨s,c,r⟩ ⟨s',c',r'⟩ ⟨s2,c2,r2⟩ h k;simp only[ae,dJ] at*;by_cases e1:s=s'
   . subst e1;rw[YG rfl] at h;by_cases e2:s=s2
     . subst e2;rw[YG rfl] at k⊢;by_cases f1:r=r'
       . subst f1;rw[YG rfl] at h;by_cases f2:r=r2
         . subst f2;rw[YG rfl] at k⊢;have:=Y9 h;have:=Y9 k;exact Yz A0b
         . rw[YL f2] at k⊢;exact k
       . rw[YL f1] at h;have:=Y9 h;by_cases f2:r'=r2
         . subst f2;rw[YL f1];exact h
         . rw[YL f2] at k;have:=Y9 k;rw[YL A0b];exact Yz A0b
     . rw[YL e2] at k⊢;exact k
   . rw[YL e1] at h;by_cases e2:s'=s2
     . subst e2;rw[YL e1];exact h
     . rw[YL e2] at k;have h3:=CS h k;by_cases e3:s=s2
       . subst e3;rw[kq] at h3;cases h3
       . rw[YL e3];exact h3
 . rintro⟨s,c,r⟩ ⟨s',c',r'⟩ h k;simp only[ae,dJ] at*;by_cases e1:s=s'
   . subst e1;rw[YG rfl] at h k;by_cases f1:r=r'
     . subst f1;rw[YG rfl] at h k;have:=aaD h;have:=aaD k;rw[show c=c' from by omega]
     . rw[YL f1] at h;rw[YL (fun e=>f1 e.symm)] at k;have:=aaD h;have:=aaD k;omega
   . rw[YL e1] at h;rw[YL (fun e=>e1 e.symm)] at k;exact absurd (KD (KC h k)) e1
abbrev iD {α:Type} (lt:α->α->Bool) (l:List α):Prop:=l.Pairwise fun a b=>lt a b=true
theorem rm {α:Type} {lt:α->α->Bool} (ht:Tot lt):∀{a b:List α},iD lt a->iD lt b->(∀x,x∈a↔x∈b)->a=b
 |[],[],_,_,_=>rfl
 |[],y::b,_,_,h=>absurd ((h y).2 (Zc ..)) A0j
 |x::a,[],_,_,h=>absurd ((h x).1 (Zc ..)) A0j
 | x ::a,y::b,ha,hb,h=>by
   have ha':=ZZ.1 ha;have hb':=ZZ.1 hb;have exy:x=y:=by
    rcases YT.1 ((h x).1 (Zc ..)) with e|e
    . exact e
    . rcases YT.1 ((h y).2 (Zc ..)) with f|f
      . exact f.symm
      . have h1:=hb'.1 x e;have h2:=ha'.1 y f;have h3:=ht.trans _ _ _ h1 h2;rw[ht.irr] at h3;cases h3
   subst exy;congr 1;refine rm ht ha'.2 hb'.2 (fun z=>⟨fun hz=>?_,fun hz=>?_⟩)
   . rcases YT.1 ((h z).1 (YY _ hz)) with e|e
     . subst e;have:=ha'.1 z hz;rw[ht.irr] at this;cases this
     . exact e
   . rcases YT.1 ((h z).2 (YY _ hz)) with e|e
     . subst e;have:=hb'.1 z hz;rw[ht.irr] at this;cases this
     . exact e
variable {l:List C3} {p:C3}
theorem ku:mo l p=true↔p∈l:=by
 unfold mo;rw[Z2];constructor
 . rintro⟨q,hq,he⟩;rw[<-Y9 he];exact hq
 . exact fun h=>⟨p,h,Yz rfl⟩
theorem Gr {q:C3}:q∈aQ l p↔q∈l∨q=p:=by
 unfold aQ;split
 . rename_i h;exact⟨.inl,fun hx=>hx.elim id (fun e=>e▸ku.1 h)⟩
 . have e:q∈l↔q∈l.takeWhile (fun q=>ae q p)∨q∈l.dropWhile (fun q=>ae q p):=by rw[<-YM,ZH]
   rw[YM,YT,e];constructor
   . rintro(h|h|h)
     . exact .inl (.inl h)
     . exact .inr h
     . exact .inl (.inr h)
   . rintro((h|h)|h)
     . exact .inl h
     . exact .inr (.inr h)
     . exact .inr (.inl h)
theorem KE (hs:iD ae l):∀q∈l.dropWhile (fun q=>ae q p),ae q p=false:=by
 induction l with
 |nil=>intro q h;cases h
 | cons x l ih=>
   have hs':=ZZ.1 hs;intro q h;cases hx:ae x p with
   |true=>simp only[List.dropWhile,hx] at h;exact ih hs'.2 q h
   | false=>
     simp only[List.dropWhile,hx] at h;rcases YT.1 h with rfl|h
     . exact hx
     . cases hq:ae q p with
       |false=>rfl
       |true=>rw[bQ.trans _ _ _ (hs'.1 q h) hq] at hx;exact hx
theorem KF:∀q∈l.takeWhile (fun q=>ae q p),ae q p=true:=by
 induction l with
 |nil=>intro q h;cases h
 | cons x l ih=>
   intro q h;cases hx:ae x p with
   | true=>
     simp only[List.takeWhile,hx] at h;rcases YT.1 h with rfl|h
     . exact hx
     . exact ih q h
   |false=>simp only[List.takeWhile,hx] at h;cases h
theorem ud (hs:iD ae l):iD ae (aQ l p):=by
 unfold aQ;split
 . exact hs
 . rename_i hn;have e:=ZH (p:=fun q=>ae q p) (l:=l);have hs2:iD ae (l.takeWhile (fun q=>ae q p)++l.dropWhile (fun q=>ae q p)):=by rw[e];exact hs
   have h2:=ZS.1 hs2;have hd:=KE (p:=p) hs;have hlt:∀q∈l.dropWhile (fun q=>ae q p),ae p q=true:=fun q hq=>by
    cases hpq:ae p q with
    |true=>rfl
    |false=>have:=bQ.tri _ _ hpq (hd q hq);subst this;exact absurd (ku.2 ((List.dropWhile_sublist _).subset hq)) hn
   refine ZS.2 ⟨h2.1,ZZ.2 ⟨hlt,h2.2.1⟩,fun a ha b hb=>?_⟩;rcases YT.1 hb with rfl|hb
   . exact KF a ha
   . exact h2.2.2 a ha b hb
theorem Gs (c:List C3):∀(acc:List C3) (q:C3),q∈c.foldl aQ acc↔q∈acc∨q∈c:=by
 induction c with
 |nil=>intro acc q;simp
 |cons p c ih=>intro acc q;rw[ZR,ih,Gr,YT,or_assoc]
theorem nO (c:List C3):∀{acc:List C3},iD ae acc->iD ae (c.foldl aQ acc):=by
 induction c with
 |nil=>exact fun h=>h
 |cons p c ih=>exact fun h=>ih (ud h)
theorem ue (h:Hd):iD ae (dU h):=by
 unfold dU;cases decide (h.k=2)&&cG h.cs h.cc h.cr with
 |true=>exact ud List.Pairwise.nil
 | false=>cases decide (h.k=3) with
   |true=>exact nO _ List.Pairwise.nil
   |false=>exact List.Pairwise.nil
mutual
theorem pV:∀a:Nd,iD ae (aM a)
 | .leaf h=>by rw[aM];exact ue h
 | .mk h l=>by rw[aM];exact nP l (ue h)
theorem nP:∀(l:List Nd) {acc:List C3},iD ae acc->iD ae (aR acc l)
 |[],_,h=>by rw[aR];exact h
 |n::l,_,h=>by rw[aR];exact nP l (nO _ h)
end
end Go.Proofs.YtmfojhkjbkombaaGreat
