/- Formulas as plain data: what a node is, how deep, how many, which two are one. Nothing of the program. -/
import Derived.Test.YtmfojhkjbkombaaMPO
import Derived.Test.YtmfojhkjbkombaaMAd
namespace Go.Proofs.Ytmfojhkjbkombaa
set_option linter.unusedSimpArgs false
open Go Go.RowKit
structure Hd where
 k:Int
 op:ByteArray
 nm:ByteArray
 vk:Int
 vn:Int
 vs:ByteArray
 cs:ByteArray
 cc:Int
 cr:Int
 ts:ByteArray
 tc:Int
 tr:Int
inductive Nd where
 |leaf (h:Hd)
 |mk (h:Hd) (l:List Nd)
namespace Nd
def hd:Nd->Hd
 | .leaf h=>h
 | .mk h _=>h
def ks:Nd->List Nd
 | .leaf _=>[]
 | .mk _ l=>l
end Nd
def ib (h:Hd) (K:V):List V:=[.x (.int .i64 h.k),.x (.string h.op),.x (.string h.nm),.x (.int .i64 h.vk),.x (.int .i64 h.vn),.x (.string h.vs),.x (.string h.cs),.x (.int .i64 h.cc),.x (.int .i64 h.cr),.x (.string h.ts),.x (.int .i64 h.tc),.x (.int .i64 h.tr),K]
mutual
def av:Nd->V
 | .leaf h=> .agg (ib h (.sl true 0 [] none))
 | .mk h l=> .agg (ib h (.sl false 13 (eJ l) none))
def eJ:List Nd->List V
 |[]=>[]
 |n::l=>av n::eJ l
end
theorem nK:∀l,eJ l=l.map av
 |[]=>rfl
 |n::l=>by rw[eJ,ZN,nK l]
def nL:Nd->V
 | .leaf _=> .sl true 0 [] none
 | .mk _ l=> .sl false 13 (l.map av) none
theorem be (n:Nd):av n= .agg (ib n.hd (nL n)):=by
 cases n with
 |leaf h=>rw[av];rfl
 |mk h l=>rw[av,nK];rfl
theorem C2 (n:Nd):∃nl sz,nL n= .sl nl sz (n.ks.map av) none∧(n.ks≠[]->sz=13):=by
 cases n with
 |leaf h=>exact⟨true,0,rfl,fun h=>absurd rfl h⟩
 |mk h l=>exact⟨false,13,rfl,fun _=>rfl⟩
theorem ic {h h':Hd} {K K':V} (e:ib h K=ib h' K'):h=h'∧K=K':=by cases h;cases h';simp only[ib,Z2,V.x.injEq,Value.int.injEq,Value.string.injEq,abI,aaZ] at e;obtain⟨rfl,rfl,rfl,rfl,rfl,rfl,rfl,rfl,rfl,rfl,rfl,rfl,rfl⟩:=e;exact⟨rfl,rfl⟩
mutual
theorem la:∀a b:Nd,av a=av b->a=b
 | .leaf h,.leaf h',e=>by rw[av,av] at e;rw[(ic (V.agg.inj e)).1]
 | .mk h l,.mk h' l',e=>by rw[av,av] at e;obtain⟨h1,h2⟩:=ic (V.agg.inj e);have:=(V.sl.inj h2).2.2.1;rw[h1,nM l l' this]
 | .leaf h,.mk h' l',e=>by rw[av,av] at e;have:=(ic (V.agg.inj e)).2;cases this
 | .mk h l,.leaf h',e=>by rw[av,av] at e;have:=(ic (V.agg.inj e)).2;cases this
theorem nM:∀l l':List Nd,eJ l=eJ l'->l=l'
 |[],[],_=>rfl
 |n::l,n'::l',e=>by rw[eJ,eJ] at e;obtain⟨h1,h2⟩:=aaT e;rw[la n n' h1,nM l l' h2]
 |[],n'::l',e=>by rw[eJ,eJ] at e;cases e
 |n::l,[],e=>by rw[eJ,eJ] at e;cases e
end
theorem pU (n:Nd):(av n).cells.length=13:=by rw[be];rfl
theorem yu (n:Nd):(av n).cells.take 13=(av n).cells:=by rw[<-pU n,aak]
theorem C4 (n:Nd):V.agg (av n).cells=av n:=by rw[be];rfl
theorem C5 (n:Nd):(av n).cells.all V.cell=true:=by rw[be];cases n<;>rfl
theorem yw (n:Nd):(av n).cells.drop 12=[nL n]:=by rw[be];rfl
theorem Gz (n:Nd):(av n).cells[12]?=some (nL n):=by rw[be];rfl
theorem GA (n:Nd):(av n).dat=true:=by rw[be];rfl
theorem C6 (n:Nd):(av n).bare=av n:=by rw[be];exact dc _
theorem KQ (n:Nd):(av n).notPtr=true:=by rw[be];rfl
theorem C7 (op:Op) (n:Nd):cQ op (av n)=av n:=by rw[be];exact px _ _
theorem C8 (n:Nd):∃nl sz,av n= .agg [.x (.int .i64 n.hd.k),.x (.string n.hd.op),.x (.string n.hd.nm),.x (.int .i64 n.hd.vk),.x (.int .i64 n.hd.vn),.x (.string n.hd.vs),.x (.string n.hd.cs),.x (.int .i64 n.hd.cc),.x (.int .i64 n.hd.cr),.x (.string n.hd.ts),.x (.int .i64 n.hd.tc),.x (.int .i64 n.hd.tr),.sl nl sz (n.ks.map av) none]∧(n.ks≠[]->sz=13):=by obtain⟨nl,sz,h1,h2⟩:=C2 n;exact⟨nl,sz,by rw[be,h1];rfl,h2⟩
theorem NQ {l:List Nd} {i:Nat} (h:i<l.length):∃n,l[i]?=some n∧(l.map av)[((i:Nat):Int).toNat]?=some (av n):=by have h1:l[i]?=some l[i]:=eq h;refine⟨l[i],h1,?_⟩;rw[yf,Io,h1];rfl
mutual
def rq:Nd->Nat
 | .leaf _=>1
 | .mk _ l=>1+cntL l
def cntL:List Nd->Nat
 |[]=>0
 |n::l=>rq n+cntL l
end
theorem NR (n:Nd):rq n=1+cntL n.ks:=by cases n<;>simp[rq,cntL,Nd.ks]
theorem aO {α:Type} {l:List α} {i:Nat} {x:α} (h:l[i]?=some x):l.take (i+1)=l.take i++[x]:=by rw[ack,h];rfl
theorem C9 (b:Nat->Option (List V)) (n:Nd):fo b (av n)=av n:=by rw[be];exact tR b _
theorem uf (n:Nd) (l:List V):bp (av n::l)=bp l:=by rw[be];rfl
theorem ug (n:Nd) (l:List V):bc (av n::l)=bc l:=by rw[be];rfl
theorem Da (n:Nd):(av n).datP=true:=by rw[be];rfl
theorem yx (k:Nat) (n:Nd):ko k (av n)=av n:=by rw[be];rfl
theorem Db (E:Env) (st:St) (d:Nat) (n:Nd):jw E st (some d) (av n)=st.put (some d) (av n):=by rw[be];exact tS st E d _
theorem ru (k:Nat) (n:Nd) (us:List V):db k (av n::us)=db (k+1) us:=jR (by rw[be];rfl)
theorem uh (k:Nat) (n:Nd) (us:List V) (b:Nat->Option (List V)):dG k (av n::us) b=dG (k+1) us b:=fe (by rw[be];rfl)
theorem ui (k:Nat) (n:Nd) (us:List V) (t:Nat->V):dH k (av n::us) t=dH (k+1) us t:=fc (by rw[be];rfl)
theorem yy (n:Nd) (l:List V):cT (av n::l)=cT l:=by rw[be];rfl
attribute [go_sem] ui yy uh ru C9 uf ug Da yx Db
attribute [go_sem] pU yu C4 C5 yw Gz GA C6 KQ C7
def Zi (s:ByteArray):Bool:=(decide (s=⟨#[43]⟩)||(decide (s=⟨#[45]⟩)||(decide (s=⟨#[42]⟩)||(decide (s=⟨#[47]⟩)||(decide (s=⟨#[38]⟩)||(decide (s=⟨#[61]⟩)||(decide (s=⟨#[60,62]⟩)||(decide (s=⟨#[60]⟩)||(decide (s=⟨#[62]⟩)||(decide (s=⟨#[60,61]⟩)||decide (s=⟨#[62,61]⟩)))))))))))
def SU (s:ByteArray):Bool:=decide (1<=s.size)&&decide (s.size<=8)&& !decide (s=⟨#[84,82,85,69]⟩)&& !decide (s=⟨#[70,65,76,83,69]⟩)&&(List.range s.size).all fun j=>NN (fj s j)
def NS (s:ByteArray) (c r:Int) (s':ByteArray) (c' r':Int):Bool:=j7 s c r s' c' r'&&decide (cV c r c' r'<=400)
def Mj (h:Hd) (n:Nat):Bool:=
 bif decide (h.k=1) then decide (h.op=⟨#[]⟩)&&(decide (h.nm=⟨#[]⟩)&&((decide (h.cs=⟨#[]⟩)&&(decide (h.cc=0)&&decide (h.cr=0)))&&((decide (h.ts=⟨#[]⟩)&&(decide (h.tc=0)&&decide (h.tr=0)))&&(decide ((n:Int)=0))))) else
 bif decide (h.k=2) then decide (h.op=⟨#[]⟩)&&(decide (h.nm=⟨#[]⟩)&&((decide (h.vk=0)&&(decide (h.vn=0)&&decide (h.vs=⟨#[]⟩)))&&((decide (h.ts=⟨#[]⟩)&&(decide (h.tc=0)&&decide (h.tr=0)))&&(decide ((n:Int)=0))))) else
 bif decide (h.k=3) then decide (h.op=⟨#[]⟩)&&(decide (h.nm=⟨#[]⟩)&&((decide (h.vk=0)&&(decide (h.vn=0)&&decide (h.vs=⟨#[]⟩)))&&(decide ((n:Int)=0)))) else
 bif decide (h.k=4) then decide (h.nm=⟨#[]⟩)&&((decide (h.vk=0)&&(decide (h.vn=0)&&decide (h.vs=⟨#[]⟩)))&&((decide (h.cs=⟨#[]⟩)&&(decide (h.cc=0)&&decide (h.cr=0)))&&((decide (h.ts=⟨#[]⟩)&&(decide (h.tc=0)&&decide (h.tr=0)))))) else
 bif decide (h.k=5) then decide (h.nm=⟨#[]⟩)&&((decide (h.vk=0)&&(decide (h.vn=0)&&decide (h.vs=⟨#[]⟩)))&&((decide (h.cs=⟨#[]⟩)&&(decide (h.cc=0)&&decide (h.cr=0)))&&((decide (h.ts=⟨#[]⟩)&&(decide (h.tc=0)&&decide (h.tr=0)))))) else
 bif decide (h.k=6) then decide (h.op=⟨#[]⟩)&&((decide (h.vk=0)&&(decide (h.vn=0)&&decide (h.vs=⟨#[]⟩)))&&((decide (h.cs=⟨#[]⟩)&&(decide (h.cc=0)&&decide (h.cr=0)))&&((decide (h.ts=⟨#[]⟩)&&(decide (h.tc=0)&&decide (h.tr=0)))))) else
 bif decide (h.k=7) then decide (h.op=⟨#[]⟩)&&(decide (h.nm=⟨#[]⟩)&&((decide (h.vk=0)&&(decide (h.vn=0)&&decide (h.vs=⟨#[]⟩)))&&((decide (h.cs=⟨#[]⟩)&&(decide (h.cc=0)&&decide (h.cr=0)))&&((decide (h.ts=⟨#[]⟩)&&(decide (h.tc=0)&&decide (h.tr=0)))&&(decide ((n:Int)=0)))))) else false
def eD (a:Nd):List V:=[av a]
theorem uj (a b:Nd) (e:eD a=eD b):a=b:=la _ _ (aaT e).1
theorem jV (nd:Nd):∃(k:Int) (op:ByteArray) (nm:ByteArray) (vk:Int) (vn:Int) (vs:ByteArray) (cs:ByteArray) (cc:Int) (cr:Int) (ts:ByteArray) (tc:Int) (tr:Int) (l:List Nd) (nl:Bool) (sz:Nat),nd.hd=⟨k,op,nm,vk,vn,vs,cs,cc,cr,ts,tc,tr⟩∧nd.ks=l∧av nd= .agg [.x (.int .i64 k),.x (.string op),.x (.string nm),.x (.int .i64 vk),.x (.int .i64 vn),.x (.string vs),.x (.string cs),.x (.int .i64 cc),.x (.int .i64 cr),.x (.string ts),.x (.int .i64 tc),.x (.int .i64 tr),.sl nl sz (l.map av) none]∧(l≠[]->sz=13):=by obtain⟨nl,sz,hf,hs⟩:=C8 nd;exact⟨_,_,_,_,_,_,_,_,_,_,_,_,_,nl,sz,rfl,rfl,hf,hs⟩
def Yz (h:Hd) (n:Nat):Bool:=
 bif decide (h.k=1) then NP h.vk h.vn h.vs&&((decide (h.vk=1)&&decide (0<=h.vn)||decide (h.vk=2))||decide (h.vk=3)) else bif decide (h.k=2) then bV h.cs h.cc h.cr else
 bif decide (h.k=3) then NS h.cs h.cc h.cr h.ts h.tc h.tr else bif decide (h.k=4) then decide (h.op=⟨#[45]⟩)&&decide ((n:Int)=1) else
 bif decide (h.k=5) then Zi h.op&&decide ((n:Int)=2) else bif decide (h.k=6) then SU h.nm&&decide ((n:Int)<=20) else true
mutual
def rN:Nd->Bool
 | .leaf h=>Mj h 0&&Yz h 0
 | .mk h l=>Mj h l.length&&(rL l&&Yz h l.length)
def rL:List Nd->Bool
 |[]=>true
 |n::l=>rN n&&rL l
end
end Go.Proofs.Ytmfojhkjbkombaa
