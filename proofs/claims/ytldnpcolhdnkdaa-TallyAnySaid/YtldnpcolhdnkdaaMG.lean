/- What a node itself reads: refs.rangeOf. -/
import Derived.Test.YtldnpcolhdnkdaaMT
import Derived.Test.YtldnpcolhdnkdaaML
import Derived.Test.YtldnpcolhdnkdaaMI
import Derived.Test.YtldnpcolhdnkdaaMR
import Derived.Sort.Walk0
namespace Go.Proofs.Ytldnpcolhdnkdaa
set_option linter.unusedSimpArgs false
open Go Go.RowKit
abbrev R2:=C3×C3
def rgV (q:R2):V:= .agg [.x (.string q.1.1),.x (.int .i64 q.1.2.1),.x (.int .i64 q.1.2.2),.x (.string q.2.1),.x (.int .i64 q.2.2.1),.x (.int .i64 q.2.2.2)]
def rg (h:Hd):R2:=if h.k=2 then ((h.cs,h.cc,h.cr),(h.cs,h.cc,h.cr)) else if h.k=3 then ((h.cs,h.cc,h.cr),(h.ts,h.tc,h.tr)) else ((⟨#[]⟩,0,0),(⟨#[]⟩,0,0))
def Ox (q:R2):Bool:=PA q.1.1 q.1.2.1 q.1.2.2 q.2.1 q.2.2.1 q.2.2.2&&decide (Kl q.1.2.1 q.1.2.2 q.2.2.1 q.2.2.2<=400)
def kL (h:Hd):List R2:=if Ox (rg h)=true then [rg h] else []
mutual
def allN:Nd->List R2
 | .leaf h=>kL h
 | .mk h l=>kL h++allL l
def allL:List Nd->List R2
 |[]=>[]
 |n::l=>allN n++allL l
end
theorem kZ (a:Nd):allN a=kL a.hd++allL a.ks:=by cases a<;>simp only[allN,allL,Nd.hd,Nd.ks,QS]
abbrev Lv:=Bool×Nat×List Nd
def lvC:List Lv->Nat
 |[]=>0
 |e::r=>cntL e.2.2+lvC r
structure OutI (nd:Nd) (pre:List (List V)) (r:List Lv):Prop where
 ok:∀e∈r,e.2.2≠[]->e.2.1=13
 small:2*lvC r+r.length<=801
 sub:∀e∈r,∀q∈allL e.2.2,q∈allN nd
 full:∀q∈allN nd,[rgV q]∈pre∨∃e∈r,q∈allL e.2.2
 come:∀x∈pre,∃q∈allN nd,x=[rgV q]
structure InI (nd:Nd) (lv:List Nd) (M:Nat) (pre:List (List V)) (r:List Lv) (i:Nat):Prop where
 ok:∀e∈r,e.2.2≠[]->e.2.1=13
 small:2*lvC r+r.length+2*cntL (lv.drop i)+i+1<=M
 sub:∀e∈r,∀q∈allL e.2.2,q∈allN nd
 subL:∀q∈allL lv,q∈allN nd
 full:∀q∈allN nd,[rgV q]∈pre∨(∃e∈r,q∈allL e.2.2)∨q∈allL (lv.drop i)
 come:∀x∈pre,∃q∈allN nd,x=[rgV q]
variable {l:List Nd}
theorem Bt {n:Nd} (h:n∈l) {q:R2} (hq:q∈allN n):q∈allL l:=by
 induction l with
 |nil=>cases h
 | cons a l ih=>
   rw[allL,PU];rcases PY.1 h with rfl|h
   . exact .inl hq
   . exact .inr (ih h)
theorem E8 {i:Nat} {c:Nd} (h:l[i]?=some c):l.drop i=c::l.drop (i+1):=by obtain⟨hi,rfl⟩:=PE.1 h;exact R7 hi
variable {nd:Nd} {lv:List Nd} {M:Nat} {pre:List (List V)} {r:List Lv}
theorem InI.next {i:Nat} (h:InI nd lv M pre r i) {c:Nd} (hc:lv[i]?=some c) {nl:Bool} {sz:Nat} {l:List Nd} (hl:c.ks=l) (hs:l≠[]->sz=13):
 (Ox (rg c.hd)=false->InI nd lv M pre ((nl,sz,l)::r) (i+1))∧(Ox (rg c.hd)=true->InI nd lv M (pre++[[rgV (rg c.hd)]]) ((nl,sz,l)::r) (i+1)∧rg c.hd∈allN nd):=by
 have hd:=E8 hc;have hm:c∈lv:=PM hc;have hsmall:2*lvC ((nl,sz,l)::r)+((nl,sz,l)::r).length+2*cntL (lv.drop (i+1))+(i+1)+1<=M:=by have h1:=h.small;have h2:=HK c;rw[hd] at h1;rw[hl] at h2;simp only[lvC,P5,cntL] at h1⊢;omega
 have hself:∀q∈allN c,q∈kL c.hd∨q∈allL l:=fun q hq=>by rw[kZ,PU,hl] at hq;exact hq
 have hin:∀q∈allN c,q∈allN nd:=fun q hq=>h.subL q (Bt hm hq)
 have hok:∀e∈(nl,sz,l)::r,e.2.2≠[]->e.2.1=13:=fun e he=>by
  rcases PY.1 he with rfl|he
  . exact hs
  . exact h.ok e he
 have hsub:∀e∈(nl,sz,l)::r,∀q∈allL e.2.2,q∈allN nd:=fun e he q hq=>by
  rcases PY.1 he with rfl|he
  . exact hin q (by rw[kZ,PU,hl];exact .inr hq)
  . exact h.sub e he q hq
 refine⟨fun hq=>⟨hok,hsmall,hsub,h.subL,fun q hq1=>?_,h.come⟩,fun hq=>⟨⟨hok,hsmall,hsub,h.subL,fun q hq1=>?_,fun x hx=>?_⟩,?_⟩⟩
 . rcases h.full q hq1 with h1|⟨e,he,h1⟩|h1
   . exact .inl h1
   . exact .inr (.inl ⟨e,P4 _ he,h1⟩)
   . rw[hd,allL,PU] at h1;rcases h1 with h1|h1
     . rcases hself q h1 with h2|h2
       . simp[kL,hq] at h2
       . exact .inr (.inl ⟨_,PZ ..,h2⟩)
     . exact .inr (.inr h1)
 . rcases h.full q hq1 with h1|⟨e,he,h1⟩|h1
   . exact .inl (Qp _ h1)
   . exact .inr (.inl ⟨e,P4 _ he,h1⟩)
   . rw[hd,allL,PU] at h1;rcases h1 with h1|h1
     . rcases hself q h1 with h2|h2
       . simp only[kL,hq,Qt,PQ] at h2;subst h2;exact .inl (by simp)
       . exact .inr (.inl ⟨_,PZ ..,h2⟩)
     . exact .inr (.inr h1)
 . rcases PU.1 hx with hx|hx
   . exact h.come x hx
   . obtain rfl:=PQ.1 hx;exact⟨_,hin _ (by rw[kZ,PU];left;simp[kL,hq]),rfl⟩
 . exact hin _ (by rw[kZ,PU];left;simp[kL,hq])
theorem InI.out (h:InI nd lv M pre r lv.length) (hM:M<=801):OutI nd pre r∧2*lvC r+r.length<M:=by
 have h1:=h.small;refine⟨⟨h.ok,by omega,h.sub,fun q hq=>?_,h.come⟩,by omega⟩;rcases h.full q hq with h1|h1|h1
 . exact .inl h1
 . exact .inr h1
 . rw[List.drop_length] at h1;cases h1
structure Tot {α:Type} (lt:α->α->Bool):Prop where
 irr:∀a,lt a a=false
 trans:∀a b c,lt a b=true->lt b c=true->lt a c=true
 tri:∀a b,lt a b=false->lt b a=false->a=b
end Go.Proofs.Ytldnpcolhdnkdaa
