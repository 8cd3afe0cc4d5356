/- Formulas as plain data: what a node is, how deep, how many, which two are one. Nothing of the program. -/
import Derived.Test.YtmfojhkjbkombaaGreatMPO
import Derived.Test.YtmfojhkjbkombaaGreatMAd
namespace Go.Proofs.YtmfojhkjbkombaaGreat
set_option linter.unusedSimpArgs false
open Go Go.RowKit
structure Hd where
 k:Int
 op:ByteArray
 nm:ByteArray
 vk:Int
 vn:Int
 vs:ByteArray
 cs:ByteArray
 cc:Int
 cr:Int
 ts:ByteArray
 tc:Int
 tr:Int
inductive Nd where
 |leaf (h:Hd)
 |mk (h:Hd) (l:List Nd)
namespace Nd
def hd:Nd->Hd
 | .leaf h=>h
 | .mk h _=>h
def ks:Nd->List Nd
 | .leaf _=>[]
 | .mk _ l=>l
end Nd
def iS (h:Hd) (K:V):List V:=[.x (.int .i64 h.k),.x (.string h.op),.x (.string h.nm),.x (.int .i64 h.vk),.x (.int .i64 h.vn),.x (.string h.vs),.x (.string h.cs),.x (.int .i64 h.cc),.x (.int .i64 h.cr),.x (.string h.ts),.x (.int .i64 h.tc),.x (.int .i64 h.tr),K]
mutual
def aP:Nd->V
 | .leaf h=> .agg (iS h (.sl true 0 [] none))
 | .mk h l=> .agg (iS h (.sl false 13 (eQ l) none))
def eQ:List Nd->List V
 |[]=>[]
 |n::l=>aP n::eQ l
end
theorem nE:∀l,eQ l=l.map aP
 |[]=>rfl
 |n::l=>by rw[eQ,Y0,nE l]
def pM:Nd->V
 | .leaf _=> .sl true 0 [] none
 | .mk _ l=> .sl false 13 (l.map aP) none
theorem bv (n:Nd):aP n= .agg (iS n.hd (pM n)):=by
 cases n with
 |leaf h=>rw[aP];rfl
 |mk h l=>rw[aP,nE];rfl
theorem Cz (n:Nd):∃nl sz,pM n= .sl nl sz (n.ks.map aP) none∧(n.ks≠[]->sz=13):=by
 cases n with
 |leaf h=>exact⟨true,0,rfl,fun h=>absurd rfl h⟩
 |mk h l=>exact⟨false,13,rfl,fun _=>rfl⟩
theorem g9 {h h':Hd} {K K':V} (e:iS h K=iS h' K'):h=h'∧K=K':=by cases h;cases h';simp only[iS,Zb,V.x.injEq,Value.int.injEq,Value.string.injEq,aaU,Z7] at e;obtain⟨rfl,rfl,rfl,rfl,rfl,rfl,rfl,rfl,rfl,rfl,rfl,rfl,rfl⟩:=e;exact⟨rfl,rfl⟩
mutual
theorem kU:∀a b:Nd,aP a=aP b->a=b
 | .leaf h,.leaf h',e=>by rw[aP,aP] at e;rw[(g9 (V.agg.inj e)).1]
 | .mk h l,.mk h' l',e=>by rw[aP,aP] at e;obtain⟨h1,h2⟩:=g9 (V.agg.inj e);have:=(V.sl.inj h2).2.2.1;rw[h1,nF l l' this]
 | .leaf h,.mk h' l',e=>by rw[aP,aP] at e;have:=(g9 (V.agg.inj e)).2;cases this
 | .mk h l,.leaf h',e=>by rw[aP,aP] at e;have:=(g9 (V.agg.inj e)).2;cases this
theorem nF:∀l l':List Nd,eQ l=eQ l'->l=l'
 |[],[],_=>rfl
 |n::l,n'::l',e=>by rw[eQ,eQ] at e;obtain⟨h1,h2⟩:=aag e;rw[kU n n' h1,nF l l' h2]
 |[],n'::l',e=>by rw[eQ,eQ] at e;cases e
 |n::l,[],e=>by rw[eQ,eQ] at e;cases e
end
theorem pN (n:Nd):(aP n).cells.length=13:=by rw[bv];rfl
theorem xR (n:Nd):(aP n).cells.take 13=(aP n).cells:=by rw[<-pN n,Zy]
theorem CB (n:Nd):V.agg (aP n).cells=aP n:=by rw[bv];rfl
theorem CC (n:Nd):(aP n).cells.all V.cell=true:=by rw[bv];cases n<;>rfl
theorem xS (n:Nd):(aP n).cells.drop 12=[pM n]:=by rw[bv];rfl
theorem Ge (n:Nd):(aP n).cells[12]?=some (pM n):=by rw[bv];rfl
theorem Gf (n:Nd):(aP n).dat=true:=by rw[bv];rfl
theorem CD (n:Nd):(aP n).bare=aP n:=by rw[bv];exact iE _
theorem Kv (n:Nd):(aP n).notPtr=true:=by rw[bv];rfl
theorem CE (op:Op) (n:Nd):cS op (aP n)=aP n:=by rw[bv];exact ph _ _
theorem CF (n:Nd):∃nl sz,aP n= .agg [.x (.int .i64 n.hd.k),.x (.string n.hd.op),.x (.string n.hd.nm),.x (.int .i64 n.hd.vk),.x (.int .i64 n.hd.vn),.x (.string n.hd.vs),.x (.string n.hd.cs),.x (.int .i64 n.hd.cc),.x (.int .i64 n.hd.cr),.x (.string n.hd.ts),.x (.int .i64 n.hd.tc),.x (.int .i64 n.hd.tr),.sl nl sz (n.ks.map aP) none]∧(n.ks≠[]->sz=13):=by obtain⟨nl,sz,h1,h2⟩:=Cz n;exact⟨nl,sz,by rw[bv,h1];rfl,h2⟩
variable {l:List Nd}
theorem nG {i:Nat} (h:i<l.length):∃n,l[i]?=some n∧(l.map aP)[((i:Nat):Int).toNat]?=some (aP n):=by have h1:l[i]?=some l[i]:=io h;refine⟨l[i],h1,?_⟩;rw[xH,Io,h1];rfl
mutual
def nH:Nd->Nat
 | .leaf _=>1
 | .mk _ l=>1+cntL l
def cntL:List Nd->Nat
 |[]=>0
 |n::l=>nH n+cntL l
end
theorem nI (n:Nd):nH n=1+cntL n.ks:=by cases n<;>simp[nH,cntL,Nd.ks]
theorem Kw (n:Nd):1<=nH n:=by rw[nI];omega
theorem Gg {n:Nd} (h:n∈l):nH n<=cntL l:=by
 induction l with
 |nil=>cases h
 | cons x l ih=>
   simp only[cntL];rcases YT.1 h with rfl|h
   . omega
   . have:=ih h;omega
theorem Gh (l:List Nd):l.length<=cntL l:=by
 induction l with
 |nil=>simp
 |cons x l ih=>simp only[cntL,YI];have:=Kw x;omega
theorem aF {α:Type} {l:List α} {i:Nat} {x:α} (h:l[i]?=some x):l.take (i+1)=l.take i++[x]:=by rw[aby,h];rfl
theorem CG (b:Nat->Option (List V)) (n:Nd):fk b (aP n)=aP n:=by rw[bv];exact tF b _
theorem tV (n:Nd) (l:List V):bA (aP n::l)=bA l:=by rw[bv];rfl
theorem tW (n:Nd) (l:List V):bn (aP n::l)=bn l:=by rw[bv];rfl
theorem CH (n:Nd):(aP n).datP=true:=by rw[bv];rfl
theorem xT (k:Nat) (n:Nd):ki k (aP n)=aP n:=by rw[bv];rfl
theorem CJ (E:Env) (st:St) (d:Nat) (n:Nd):jq E st (some d) (aP n)=st.put (some d) (aP n):=by rw[bv];exact tG st E d _
theorem rj (k:Nat) (n:Nd) (us:List V):db k (aP n::us)=db (k+1) us:=jJ (by rw[bv];rfl)
theorem tX (k:Nat) (n:Nd) (us:List V) (b:Nat->Option (List V)):dC k (aP n::us) b=dC (k+1) us b:=ff (by rw[bv];rfl)
theorem tY (k:Nat) (n:Nd) (us:List V) (t:Nat->V):dD k (aP n::us) t=dD (k+1) us t:=fe (by rw[bv];rfl)
theorem xU (n:Nd) (l:List V):cV (aP n::l)=cV l:=by rw[bv];rfl
attribute [go_sem] tY xU tX rj CG tV tW CH xT CJ
attribute [go_sem] pN xR CB CC xS Ge Gf CD Kv CE
def Yy (s:ByteArray):Bool:=(decide (s=⟨#[43]⟩)||(decide (s=⟨#[45]⟩)||(decide (s=⟨#[42]⟩)||(decide (s=⟨#[47]⟩)||(decide (s=⟨#[38]⟩)||(decide (s=⟨#[61]⟩)||(decide (s=⟨#[60,62]⟩)||(decide (s=⟨#[60]⟩)||(decide (s=⟨#[62]⟩)||(decide (s=⟨#[60,61]⟩)||decide (s=⟨#[62,61]⟩)))))))))))
def Sq (s:ByteArray):Bool:=decide (1<=s.size)&&decide (s.size<=8)&& !decide (s=⟨#[84,82,85,69]⟩)&& !decide (s=⟨#[70,65,76,83,69]⟩)&&(List.range s.size).all fun j=>Nr (fh s j)
def Nv (s:ByteArray) (c r:Int) (s':ByteArray) (c' r':Int):Bool:=rh s c r s' c' r'&&decide (dT c r c' r'<=400)
def L4 (h:Hd) (n:Nat):Bool:=
 bif decide (h.k=1) then decide (h.op=⟨#[]⟩)&&(decide (h.nm=⟨#[]⟩)&&((decide (h.cs=⟨#[]⟩)&&(decide (h.cc=0)&&decide (h.cr=0)))&&((decide (h.ts=⟨#[]⟩)&&(decide (h.tc=0)&&decide (h.tr=0)))&&(decide ((n:Int)=0))))) else
 bif decide (h.k=2) then decide (h.op=⟨#[]⟩)&&(decide (h.nm=⟨#[]⟩)&&((decide (h.vk=0)&&(decide (h.vn=0)&&decide (h.vs=⟨#[]⟩)))&&((decide (h.ts=⟨#[]⟩)&&(decide (h.tc=0)&&decide (h.tr=0)))&&(decide ((n:Int)=0))))) else
 bif decide (h.k=3) then decide (h.op=⟨#[]⟩)&&(decide (h.nm=⟨#[]⟩)&&((decide (h.vk=0)&&(decide (h.vn=0)&&decide (h.vs=⟨#[]⟩)))&&(decide ((n:Int)=0)))) else
 bif decide (h.k=4) then decide (h.nm=⟨#[]⟩)&&((decide (h.vk=0)&&(decide (h.vn=0)&&decide (h.vs=⟨#[]⟩)))&&((decide (h.cs=⟨#[]⟩)&&(decide (h.cc=0)&&decide (h.cr=0)))&&((decide (h.ts=⟨#[]⟩)&&(decide (h.tc=0)&&decide (h.tr=0)))))) else
 bif decide (h.k=5) then decide (h.nm=⟨#[]⟩)&&((decide (h.vk=0)&&(decide (h.vn=0)&&decide (h.vs=⟨#[]⟩)))&&((decide (h.cs=⟨#[]⟩)&&(decide (h.cc=0)&&decide (h.cr=0)))&&((decide (h.ts=⟨#[]⟩)&&(decide (h.tc=0)&&decide (h.tr=0)))))) else
 bif decide (h.k=6) then decide (h.op=⟨#[]⟩)&&((decide (h.vk=0)&&(decide (h.vn=0)&&decide (h.vs=⟨#[]⟩)))&&((decide (h.cs=⟨#[]⟩)&&(decide (h.cc=0)&&decide (h.cr=0)))&&((decide (h.ts=⟨#[]⟩)&&(decide (h.tc=0)&&decide (h.tr=0)))))) else
 bif decide (h.k=7) then decide (h.op=⟨#[]⟩)&&(decide (h.nm=⟨#[]⟩)&&((decide (h.vk=0)&&(decide (h.vn=0)&&decide (h.vs=⟨#[]⟩)))&&((decide (h.cs=⟨#[]⟩)&&(decide (h.cc=0)&&decide (h.cr=0)))&&((decide (h.ts=⟨#[]⟩)&&(decide (h.tc=0)&&decide (h.tr=0)))&&(decide ((n:Int)=0)))))) else false
def nJ (a:Nd):List V:=[aP a]
theorem tZ (a b:Nd) (e:nJ a=nJ b):a=b:=kU _ _ (aag e).1
theorem ko {sz:Nat} (hs:l≠[]->sz=13) {i:Nat} (hi:i<l.length):sz=13:=hs (by intro e;rw[e] at hi;simp at hi)
theorem Kx {nd c:Nd} {i:Nat} (h:nd.ks[i]?=some c):nH c<nH nd:=by have:=Gg (YB h);rw[nI nd];omega
theorem Gi (nd:Nd):nd.ks.length<nH nd:=by have:=Gh nd.ks;rw[nI nd];omega
theorem ed (nd:Nd):∃(k:Int) (op:ByteArray) (nm:ByteArray) (vk:Int) (vn:Int) (vs:ByteArray) (cs:ByteArray) (cc:Int) (cr:Int) (ts:ByteArray) (tc:Int) (tr:Int) (l:List Nd) (nl:Bool) (sz:Nat),nd.hd=⟨k,op,nm,vk,vn,vs,cs,cc,cr,ts,tc,tr⟩∧nd.ks=l∧aP nd= .agg [.x (.int .i64 k),.x (.string op),.x (.string nm),.x (.int .i64 vk),.x (.int .i64 vn),.x (.string vs),.x (.string cs),.x (.int .i64 cc),.x (.int .i64 cr),.x (.string ts),.x (.int .i64 tc),.x (.int .i64 tr),.sl nl sz (l.map aP) none]∧(l≠[]->sz=13):=by obtain⟨nl,sz,hf,hs⟩:=CF nd;exact⟨_,_,_,_,_,_,_,_,_,_,_,_,_,nl,sz,rfl,rfl,hf,hs⟩
def XJ (h:Hd) (n:Nat):Bool:=
 bif decide (h.k=1) then Nu h.vk h.vn h.vs&&((decide (h.vk=1)&&decide (0<=h.vn)||decide (h.vk=2))||decide (h.vk=3)) else bif decide (h.k=2) then cG h.cs h.cc h.cr else
 bif decide (h.k=3) then Nv h.cs h.cc h.cr h.ts h.tc h.tr else bif decide (h.k=4) then decide (h.op=⟨#[45]⟩)&&decide ((n:Int)=1) else
 bif decide (h.k=5) then Yy h.op&&decide ((n:Int)=2) else bif decide (h.k=6) then Sq h.nm&&decide ((n:Int)<=20) else true
mutual
def rN:Nd->Bool
 | .leaf h=>L4 h 0&&XJ h 0
 | .mk h l=>L4 h l.length&&(rL l&&XJ h l.length)
def rL:List Nd->Bool
 |[]=>true
 |n::l=>rN n&&rL l
end
end Go.Proofs.YtmfojhkjbkombaaGreat
