/- The reference's rows of cells that are read. -/
import Derived.Test.YtmfojhkjbkombaaML
import Derived.Test.YtmfojhkjbkombaaMPO
import Derived.Test.YtmfojhkjbkombaaMT
namespace Go.Proofs.Ytmfojhkjbkombaa
set_option linter.unusedSimpArgs false
open Go Go.RowKit
theorem Dg (l:List (Nat×(List V->Option V))) (M:Nat->Bool) (lp:List (Nat×(List V->Option (V×List (List V))))) (any:Nat->Bool) (k:Nat) (b:Nat->Option (List V)):aC (bZ l M lp (fun _=>false) any) k b=b:=rfl
attribute [go_sem] Dg
def ab (p q:C3):Bool:=gC p.1 p.2.1 p.2.2 q.1 q.2.1 q.2.2
def Ml (l:List C3) (p:C3):Bool:=l.any fun q=>gq q p
def fy (l:List C3) (p:C3):List C3:=if Ml l p=true then l else l.takeWhile (fun q=>ab q p)++p::l.dropWhile (fun q=>ab q p)
def Mm (l:List C3):Nat:=if l.isEmpty then 0 else 3
def nO (h:Hd):List C3:=(dR h.cs h.cc h.cr h.ts h.tc h.tr).getD []
def iV (h:Hd):List C3:=bif decide (h.k=2)&&bV h.cs h.cc h.cr then fy [] (h.cs,h.cc,h.cr) else bif decide (h.k=3) then (nO h).foldl fy [] else []
mutual
def aJ:Nd->List C3
 | .leaf h=>iV h
 | .mk h l=>fA (iV h) l
def fA:List C3->List Nd->List C3
 |acc,[]=>acc
 |acc,n::l=>fA ((aJ n).foldl fy acc) l
end
theorem pY (l:List C3) (p:C3):(fy l p).length<=l.length+1:=by
 unfold fy;split
 . omega
 . have:(l.takeWhile (fun q=>ab q p)).length+(l.dropWhile (fun q=>ab q p)).length=l.length:=by rw[<-Zr,aaQ]
   simp only[Zr,ZB];omega
theorem un (c:List C3):∀acc:List C3,(c.foldl fy acc).length<=acc.length+c.length:=by
 induction c with
 |nil=>intro acc;simp
 |cons p c ih=>intro acc;have:=ih (fy acc p);have:=pY acc p;simp only[aao,ZB];omega
theorem Dh (h:Hd):(nO h).length<=400:=by
 unfold nO dR;split
 . rename_i hh;obtain⟨hok,h4⟩:=hh;obtain⟨_,_,_,hc,hr⟩:=ku.1 hok;rw[aaE,dI];have e1:h.tc-h.cc+1=(((h.tc-h.cc+1).toNat:Nat):Int):=A0c
   have e2:h.tr-h.cr+1=(((h.tr-h.cr+1).toNat:Nat):Int):=A0c
   unfold cV at h4;rw[e1,e2] at h4;have:(((h.tr-h.cr+1).toNat*(h.tc-h.cc+1).toNat:Nat):Int)<=400:=by push_cast;rw[Int.mul_comm];exact h4
   omega
 . simp
theorem uo (h:Hd):(iV h).length<=400:=by
 unfold iV;cases decide (h.k=2)&&bV h.cs h.cc h.cr with
 |true=>have:=pY [] (h.cs,h.cc,h.cr);simp only[cond_true];simp at this;omega
 | false=>
   cases decide (h.k=3) with
   |true=>have:=un (nO h) [];have:=Dh h;simp only[cond_true,acv];simp at*;omega
   |false=>simp
mutual
theorem jW:∀a:Nd,(aJ a).length<=400*rq a
 | .leaf h=>by have:=uo h;simp only[aJ,rq];omega
 | .mk h l=>by have:=nP (iV h) l;have:=uo h;simp only[aJ,rq];omega
theorem nP:∀(acc:List C3) (l:List Nd),(fA acc l).length<=acc.length+400*cntL l
 |acc,[]=>by simp[fA]
 |acc,n::l=>by have:=nP ((aJ n).foldl fy acc) l;have:=un (aJ n) acc;have:=jW n;simp only[fA,cntL];omega
end
def nQ (nd:Nd):Option V:=if rq nd<=400 then some (.sl (aJ nd).isEmpty (Mm (aJ nd)) ((aJ nd).map aa) none) else none
theorem Di {nd:Nd} (h:rq nd<=400):nQ nd=some (.sl (aJ nd).isEmpty (Mm (aJ nd)) ((aJ nd).map aa) none):=Zp h
end Go.Proofs.Ytmfojhkjbkombaa
