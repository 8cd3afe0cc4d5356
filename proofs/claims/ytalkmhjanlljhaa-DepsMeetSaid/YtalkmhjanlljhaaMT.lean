/- Formulas as plain data: what a node is, how deep, how many, which two are one. Nothing of the program. -/
import Derived.Test.YtalkmhjanlljhaaMPO
import Derived.Test.YtalkmhjanlljhaaMAd
namespace Go.Proofs.Ytalkmhjanlljhaa
set_option linter.unusedSimpArgs false
set_option maxHeartbeats 8000000
set_option maxRecDepth 100000
open Go Go.RowKit
attribute [go_sem] Try.results15 Try.results34
structure Hd where
 k:Int
 op:ByteArray
 nm:ByteArray
 vk:Int
 vn:Int
 vs:ByteArray
 cs:ByteArray
 cc:Int
 cr:Int
 ts:ByteArray
 tc:Int
 tr:Int
inductive Nd where
 |leaf (h:Hd)
 |mk (h:Hd) (l:List Nd)
namespace Nd
def hd:Nd->Hd
 | .leaf h=>h
 | .mk h _=>h
def ks:Nd->List Nd
 | .leaf _=>[]
 | .mk _ l=>l
end Nd
def gh (h:Hd) (K:V):List V:=[.x (.int .i64 h.k),.x (.string h.op),.x (.string h.nm),.x (.int .i64 h.vk),.x (.int .i64 h.vn),.x (.string h.vs),.x (.string h.cs),.x (.int .i64 h.cc),.x (.int .i64 h.cr),.x (.string h.ts),.x (.int .i64 h.tc),.x (.int .i64 h.tr),K]
mutual
def am:Nd->V
 | .leaf h=> .agg (gh h (.sl true 0 [] none))
 | .mk h l=> .agg (gh h (.sl false 13 (eb l) none))
def eb:List Nd->List V
 |[]=>[]
 |n::l=>am n::eb l
end
theorem lU:∀l,eb l=l.map am
 |[]=>rfl
 |n::l=>by rw[eb,Tv,lU l]
def kw:Nd->V
 | .leaf _=> .sl true 0 [] none
 | .mk _ l=> .sl false 13 (l.map am) none
theorem aS (n:Nd):am n= .agg (gh n.hd (kw n)):=by
 cases n with
 |leaf h=>rw[am];rfl
 |mk h l=>rw[am,lU];rfl
theorem y5 (n:Nd):∃nl sz,kw n= .sl nl sz (n.ks.map am) none∧(n.ks≠[]->sz=13):=by
 cases n with
 |leaf h=>exact⟨true,0,rfl,fun h=>absurd rfl h⟩
 |mk h l=>exact⟨false,13,rfl,fun _=>rfl⟩
variable {h h':Hd}
theorem gi {K K':V} (e:gh h K=gh h' K'):h=h'∧K=K':=by cases h;cases h';simp only[gh,Tr,V.x.injEq,Value.int.injEq,Value.string.injEq,U5,Us] at e;obtain⟨rfl,rfl,rfl,rfl,rfl,rfl,rfl,rfl,rfl,rfl,rfl,rfl,rfl⟩:=e;exact⟨rfl,rfl⟩
mutual
theorem ii:∀a b:Nd,am a=am b->a=b
 | .leaf h,.leaf h',e=>by rw[am,am] at e;rw[(gi (V.agg.inj e)).1]
 | .mk h l,.mk h' l',e=>by rw[am,am] at e;obtain⟨h1,h2⟩:=gi (V.agg.inj e);have:=(V.sl.inj h2).2.2.1;rw[h1,lV l l' this]
 | .leaf h,.mk h' l',e=>by rw[am,am] at e;have:=(gi (V.agg.inj e)).2;cases this
 | .mk h l,.leaf h',e=>by rw[am,am] at e;have:=(gi (V.agg.inj e)).2;cases this
theorem lV:∀l l':List Nd,eb l=eb l'->l=l'
 |[],[],_=>rfl
 |n::l,n'::l',e=>by rw[eb,eb] at e;obtain⟨h1,h2⟩:=T4 e;rw[ii n n' h1,lV l l' h2]
 |[],n'::l',e=>by rw[eb,eb] at e;cases e
 |n::l,[],e=>by rw[eb,eb] at e;cases e
end
theorem ij (n:Nd):(am n).cells.length=13:=by rw[aS];rfl
theorem uB (n:Nd):(am n).cells.take 13=(am n).cells:=by rw[<-ij n,Ui]
theorem y6 (n:Nd):V.agg (am n).cells=am n:=by rw[aS];rfl
theorem y7 (n:Nd):(am n).cells.all V.cell=true:=by rw[aS];cases n<;>rfl
theorem uC (n:Nd):(am n).cells.drop 12=[kw n]:=by rw[aS];rfl
theorem Cd (n:Nd):(am n).cells[12]?=some (kw n):=by rw[aS];rfl
theorem Ce (n:Nd):(am n).dat=true:=by rw[aS];rfl
theorem y8 (n:Nd):(am n).bare=am n:=by rw[aS];exact cL _
theorem Fm (n:Nd):(am n).notPtr=true:=by rw[aS];rfl
theorem y9 (op:Op) (n:Nd):cy op (am n)=am n:=by rw[aS];exact nj _ _
theorem za (n:Nd):∃nl sz,am n= .agg [.x (.int .i64 n.hd.k),.x (.string n.hd.op),.x (.string n.hd.nm),.x (.int .i64 n.hd.vk),.x (.int .i64 n.hd.vn),.x (.string n.hd.vs),.x (.string n.hd.cs),.x (.int .i64 n.hd.cc),.x (.int .i64 n.hd.cr),.x (.string n.hd.ts),.x (.int .i64 n.hd.tc),.x (.int .i64 n.hd.tr),.sl nl sz (n.ks.map am) none]∧(n.ks≠[]->sz=13):=by obtain⟨nl,sz,h1,h2⟩:=y5 n;exact⟨nl,sz,by rw[aS,h1];rfl,h2⟩
variable {l:List Nd} {i:Nat}
theorem Cf (h:i<l.length):∃n,l[i]?=some n∧(l.map am)[((i:Nat):Int).toNat]?=some (am n):=by have h1:l[i]?=some l[i]:=eq h;refine⟨l[i],h1,?_⟩;rw[uw,SS,h1];rfl
mutual
def kN:Nd->Nat
 | .leaf _=>1
 | .mk _ l=>1+cntL l
def cntL:List Nd->Nat
 |[]=>0
 |n::l=>kN n+cntL l
end
mutual
def dN:Nd->Nat
 | .leaf _=>1
 | .mk _ l=>1+dL l
def dL:List Nd->Nat
 |[]=>0
 |n::l=>max (dN n) (dL l)
end
theorem oT (n:Nd):kN n=1+cntL n.ks:=by cases n<;>simp[kN,cntL,Nd.ks]
theorem MO (n:Nd):dN n=1+dL n.ks:=by cases n<;>simp[dN,dL,Nd.ks]
theorem bA {α:Type} {l:List α} {x:α} (h:l[i]?=some x):l.take (i+1)=l.take i++[x]:=by rw[List.take_add_one,h];rfl
def i7 (h:Hd) (n:Nat) (h':Hd) (n':Nat):Bool:=
 decide (h.k=h'.k)&&(decide (h.op=h'.op)&&(decide (h.nm=h'.nm)&&((decide (h.vk=h'.vk)&&(decide (h.vn=h'.vn)&&decide (h.vs=h'.vs)))&&
  ((decide (h.cs=h'.cs)&&(decide (h.cc=h'.cc)&&decide (h.cr=h'.cr)))&&((decide (h.ts=h'.ts)&&(decide (h.tc=h'.tc)&&decide (h.tr=h'.tr)))&&decide ((n:Int)=(n':Int)))))))
mutual
def sameN:Nd->Nd->Bool
 | .leaf h,b=>i7 h 0 b.hd b.ks.length
 | .mk h l,b=>i7 h l.length b.hd b.ks.length&&kx l b.ks
def kx:List Nd->List Nd->Bool
 |[],_=>true
 |_::_,[]=>false
 |n::l,n'::l'=>sameN n n'&&kx l l'
end
theorem qW (a b:Nd):sameN a b=(i7 a.hd a.ks.length b.hd b.ks.length&&kx a.ks b.ks):=by cases a<;>simp[sameN,kx,Nd.hd,Nd.ks]
theorem zb {n n':Nat} (e:i7 h n h' n'=true):n=n':=by simp only[i7,SR,Tk] at e;omega
mutual
def Fn:Nd->Prop
 | .leaf h=>h.vn<=9223372036854775807
 | .mk h l=>h.vn<=9223372036854775807∧IE l
def IE:List Nd->Prop
 |[]=>True
 |n::l=>Fn n∧IE l
end
theorem HW (n:Nd):Fn n↔n.hd.vn<=9223372036854775807∧IE n.ks:=by cases n<;>simp[Fn,IE,Nd.hd,Nd.ks]
theorem HX (h:∀n∈l,Fn n):IE l:=by
 induction l with
 |nil=>trivial
 |cons x l ih=>exact⟨h x (by simp),ih fun n hn=>h n (Tg _ hn)⟩
theorem zd (b:Nat->Option (List V)) (n:Nd):eK b (am n)=am n:=by rw[aS];exact qK b _
theorem qX (n:Nd) (l:List V):bi (am n::l)=bi l:=by rw[aS];rfl
theorem qY (n:Nd) (l:List V):aX (am n::l)=aX l:=by rw[aS];rfl
theorem ze (n:Nd):(am n).datP=true:=by rw[aS];rfl
theorem uD (k:Nat) (n:Nd):js k (am n)=am n:=by rw[aS];rfl
theorem zf (E:Env) (st:St) (d:Nat) (n:Nd):iA E st (some d) (am n)=st.put (some d) (am n):=by rw[aS];exact qL st E d _
theorem oU (k:Nat) (n:Nd) (us:List V):cH k (am n::us)=cH (k+1) us:=iX (by rw[aS];rfl)
theorem qZ (k:Nat) (n:Nd) (us:List V) (b:Nat->Option (List V)):di k (am n::us) b=di (k+1) us b:=eG (by rw[aS];rfl)
theorem rc (k:Nat) (n:Nd) (us:List V) (t:Nat->V):dl k (am n::us) t=dl (k+1) us t:=eF (by rw[aS];rfl)
theorem uE (n:Nd) (l:List V):cA (am n::l)=cA l:=by rw[aS];rfl
attribute [go_sem] rc uE qZ oU zd qX qY ze uD zf
attribute [go_sem] ij uB y6 y7 uC Cd Ce y8 Fm y9
def dH (a:Nd):List V:=[am a]
def ky (p:Nd×Nat):List V:=[am p.1,.x (.int .i64 (p.2:Int))]
theorem lW (a b:Nd) (e:dH a=dH b):a=b:=ii _ _ (T4 e).1
theorem nL (p q:Nd×Nat) (e:ky p=ky q):p=q:=by obtain⟨h1,h2⟩:=T4 e;have h3:(p.2:Int)=(q.2:Int):=(Value.int.inj (V.x.inj (T4 h2).1)).2;exact Prod.ext (ii _ _ h1) (by omega)
theorem Fo {sz:Nat} (hs:l≠[]->sz=13) {i:Nat} (hi:i<l.length):sz=13:=hs (by intro e;rw[e] at hi;simp at hi)
theorem dn (nd:Nd):∃(k:Int) (op:ByteArray) (nm:ByteArray) (vk:Int) (vn:Int) (vs:ByteArray) (cs:ByteArray) (cc:Int) (cr:Int) (ts:ByteArray) (tc:Int) (tr:Int) (l:List Nd) (nl:Bool) (sz:Nat),nd.hd=⟨k,op,nm,vk,vn,vs,cs,cc,cr,ts,tc,tr⟩∧nd.ks=l∧am nd= .agg [.x (.int .i64 k),.x (.string op),.x (.string nm),.x (.int .i64 vk),.x (.int .i64 vn),.x (.string vs),.x (.string cs),.x (.int .i64 cc),.x (.int .i64 cr),.x (.string ts),.x (.int .i64 tc),.x (.int .i64 tr),.sl nl sz (l.map am) none]∧(l≠[]->sz=13):=by obtain⟨nl,sz,hf,hs⟩:=za nd;exact⟨_,_,_,_,_,_,_,_,_,_,_,_,_,nl,sz,rfl,rfl,hf,hs⟩
abbrev KV:=Bool×Nat×List Nd
def okK (e:KV):Prop:=e.2.2≠[]->e.2.1=13
def nodes:List KV->Nat
 |[]=>0
 |e::r=>cntL e.2.2+nodes r
def deepR:List KV->Nat
 |[]=>0
 |e::r=>max (match e.2.2 with|[]=>0|l=>r.length+dL l) (deepR r)
theorem Cg (a:Bool) (z:Nat) (r:List KV):deepR ((a,z,[])::r)=deepR r:=by simp[deepR]
theorem zg (a a':Bool) (z z':Nat) (c:Nd) (l:List Nd) (r:List KV) (dv:Nat):max (max dv (r.length+1)) (deepR ((a',z',c.ks)::(a,z,l)::r))=max dv (deepR ((a,z,c::l)::r)):=by
 simp only[deepR,dL,MO c,SV];cases hk:c.ks with
 | nil=>cases l with
   |nil=>simp[dL]<;>omega
   |cons y l=>simp[dL]<;>omega
 | cons y k=>cases l with
   |nil=>simp only[dL];omega
   |cons z l=>simp only[dL];omega
structure StD (nd:Nd) (dv:Nat) (r:List KV):Prop where
 ok:∀e∈r,okK e
 deep:max dv (deepR r)=dN nd
 small:r.length+nodes r<=401
 dv:dv<=401
variable {nd:Nd} {dv z:Nat}
theorem StD.pop {a:Bool} {r:List KV} (h:StD nd dv ((a,z,[])::r)):StD nd dv r:=
 ⟨fun e he=>h.ok e (by simp[he]),by rw[<-Cg a z r];exact h.deep,by have:=h.small;simp[nodes,cntL] at this;omega,h.dv⟩
variable {z':Nat} {c:Nd}
theorem StD.push {a a':Bool} {r:List KV} (h:StD nd dv ((a,z,c::l)::r)) (hc:c.ks≠[]->z'=13):StD nd (max dv (r.length+1)) ((a',z',c.ks)::(a,13,l)::r):=by
 refine⟨fun e he=>?_,by rw[zg a a' 13 z' c l r dv];exact h.deep,?_,?_⟩
 . simp only[S5] at he;rcases he with rfl|rfl|he
   . exact hc
   . intro _;rfl
   . exact h.ok e (by simp[he])
 . have:=h.small;simp only[SV,nodes,cntL,oT c] at this⊢;omega
 . have h1:=h.small;have h2:=h.dv;simp only[SV] at h1;omega
abbrev KW:=KV×KV
def nodesW:List KW->Nat
 |[]=>0
 |e::r=>cntL e.1.2.2+nodesW r
def sameW (r:List KW):Bool:=r.all fun e=>kx e.1.2.2 e.2.2.2
structure StW (a b:Nd) (r:List KW):Prop where
 ok:∀e∈r,okK e.1∧okK e.2
 len:∀e∈r,e.1.2.2.length=e.2.2.2.length
 same:sameW r=sameN a b
 small:r.length+nodesW r<=401
variable {a b:Nd} {r:List KW}
theorem StW.pop {e:KW} (h:StW a b (e::r)) (he:e.1.2.2=[]):StW a b r:=by refine⟨fun x hx=>h.ok x (by simp[hx]),fun x hx=>h.len x (by simp[hx]),?_,by have:=h.small;simp only[SV,nodesW] at this;omega⟩;rw[<-h.same];simp only[sameW,TO,he,kx,Uf]
variable {p q:Bool} {y:Nat} {d:Nd} {l':List Nd}
theorem StW.no (h:StW a b (((p,y,c::l),(q,z,d::l'))::r)) (hn:i7 c.hd c.ks.length d.hd d.ks.length=false):sameN a b=false:=by rw[<-h.same];simp only[sameW,TO,kx,qW c d,hn,UQ]
theorem StW.push {p' q':Bool} {y':Nat} (h:StW a b (((p,y,c::l),(q,z,d::l'))::r)) (hn:i7 c.hd c.ks.length d.hd d.ks.length=true) (hc:c.ks≠[]->y'=13) (hd:d.ks≠[]->z'=13):
 StW a b (((p',y',c.ks),(q',z',d.ks))::((p,13,l),(q,13,l'))::r):=by
 refine⟨fun e he=>?_,fun e he=>?_,?_,?_⟩
 . simp only[S5] at he;rcases he with rfl|rfl|he
   . exact⟨hc,hd⟩
   . exact⟨fun _=>rfl,fun _=>rfl⟩
   . exact h.ok e (by simp[he])
 . simp only[S5] at he;rcases he with rfl|rfl|he
   . exact zb hn
   . have:=h.len _ (Tm ..);simpa using this
   . exact h.len e (by simp[he])
 . rw[<-h.same];simp only[sameW,TO,kx,qW c d,hn,Uf,Bool.and_assoc]
 . have:=h.small;simp only[SV,nodesW,cntL,oT c] at this⊢;omega
def lX (h:Hd):Bool:=((((decide ((100:Int)<(h.nm.size:Int))||decide ((100:Int)<(h.op.size:Int)))||decide ((400:Int)<(h.vs.size:Int)))||decide ((100:Int)<(h.cs.size:Int)))||decide ((100:Int)<(h.ts.size:Int)))
def pq (g:Nd->Nat):Nat->List Nd->Nat
 |s,[]=>s
 |s,c::l=>if s<1000 then pq g (s+g c) l else s
def ik:Nat->Nd->Nat
 |0,_=>1000
 |f+1,nd=>bif lX nd.hd then 1000 else pq (ik f) 1 nd.ks
theorem Ch (g:Nd->Nat) (s:Nat) (l:List Nd):s<=pq g s l:=by
 induction l generalizing s with
 |nil=>exact SX _
 | cons c l ih=>
   simp only[pq];split
   . have:=ih (s+g c);omega
   . exact SX _
variable {g:Nd->Nat}
theorem HY {B:Nat} (hg:∀c,g c<=B) {s:Nat} {l:List Nd} (hs:s<=999+B):pq g s l<=999+B:=by
 induction l generalizing s with
 |nil=>exact hs
 | cons c l ih=>
   simp only[pq];split
   . have:=hg c;exact ih (by omega)
   . exact hs
theorem Fp (f:Nat) (nd:Nd):1<=ik f nd:=by
 cases f with
 |zero=>simp[ik]
 | succ f=>
   simp only[ik];cases lX nd.hd
   . exact Ch _ _ _
   . simp
theorem HZ (f:Nat) (nd:Nd):ik f nd<=1000+1000*f:=by
 induction f generalizing nd with
 |zero=>simp[ik]
 | succ f ih=>
   simp only[ik];cases lX nd.hd
   . have:=HY (g:=ik f) (B:=1000+1000*f) ih (s:=1) (l:=nd.ks) (by omega);simp only[Vy];omega
   . simp only[VN];omega
theorem Fq (h1:∀c∈l,g c<1000->kN c=g c) {s:Nat} (h:pq g s l<1000):pq g s l=s+cntL l:=by
 induction l generalizing s with
 |nil=>simp[pq,cntL]
 | cons c l ih=>
   simp only[pq] at h⊢;split at h
   . rename_i hs;rw[S4 hs];have hg:=Ch g (s+g c) l;have hc:=h1 c (by simp) (by omega);rw[ih (fun d hd=>h1 d (by simp[hd])) h];simp only[cntL];omega
   . omega
theorem Fr (f:Nat) (nd:Nd) (h:ik f nd<1000):kN nd=ik f nd:=by
 induction f generalizing nd with
 |zero=>simp[ik] at h
 | succ f ih=>
   simp only[ik] at h⊢;cases hl:lX nd.hd
   . rw[hl] at h;simp only[Vy] at h⊢;rw[Fq (fun c _ hc=>ih c hc) h,oT]
   . rw[hl] at h;simp at h
theorem Fs (h:ik 101 nd<=400):kN nd<=400:=by rw[Fr 101 nd (by omega)];exact h
def kz (p:Nd×Nat):Option V:=if p.2<=101 then some (.x (.int .i64 ((ik (101-p.2) p.1:Nat):Int))) else none
theorem re {d:Nat} (h:d<=101):kz (nd,d)=some (.x (.int .i64 ((ik (101-d) nd:Nat):Int))):=S4 h
theorem Ci:cm 34 (FE ky kz):=by
 refine Fi (fun a=>102-a.2) (fun a w=>Try.call34 a w) (fun n ih=>?_);refine aE (E:=ar [(34,(FE ky fun a=>if (fun a=>102-a.2) a<n then kz a else none))]) (k:=2) (aV _ ⟨ih,trivial⟩) (by kernel_rfl) Try.func34 rfl (fun a w=>Try.call34 a w) Try.ntmps34 (by kernel_rfl) (by decide) (by decide) ?_;intro us r hF hdat;obtain⟨⟨nd,d⟩,hus,hG⟩:=be hF;clear hF;subst hus;obtain⟨hlt,hF⟩:=bm hG;clear hG;unfold kz at hF;obtain⟨h101,hF⟩:=bm hF;cases hF;clear hdat;simp only[ky] at hlt h101⊢;obtain⟨k,op,nm,vk,vn,vs,cs,cc,cr,ts,tc,tr,l,nl,sz,hh,hl,hf,hs⟩:=dn nd;rw[hf];refine⟨rfl,?_⟩;by_cases hd:d=101
 . subst hd;have e:ik (101-101) nd=1000:=rfl;rw[e];simp +decide (maxDischargeDepth:=200) only[go_sem,show decide ((100:Int)<((101:Nat):Int))=true from rfl,show((1000:Nat):Int)=1000 from rfl]
 . obtain ⟨f,hf'⟩:∃f,101-d=f+1:=⟨100-d,by omega⟩;have hrec:∀(i:Nat) (c:Nd),l[i]?=some c->(FE ky fun a=>if 102-a.2<n then kz a else none) [am c,.x (.int .i64 ((d+1:Nat):Int))]=some (.x (.int .i64 ((ik f c:Nat):Int))):=fun i c hc=>by have:=(bJ nL (fun a=>if 102-a.2<n then kz a else none) (c,d+1)).trans ((S4 (by simp only;omega)).trans (re (by omega)));rw[show 101-(d+1)=f from by omega] at this;exact this
   have d0:decide ((100:Int)<((d:Nat):Int))=false:=SP (by omega);have w0:aw .i64 (((d:Nat):Int)+1)=((d+1:Nat):Int):=by rw[ak (by unfold bX;omega)];omega
   rw[hf'];simp only[ik,hh,hl];cases hlg:lX (⟨k,op,nm,vk,vn,vs,cs,cc,cr,ts,tc,tr⟩:Hd)
   . simp only[Vy];simp only[lX,Bool.or_eq_false_iff] at hlg;obtain⟨⟨⟨⟨q1,q2⟩,q3⟩,q4⟩,q5⟩:=hlg;simp +decide (maxDischargeDepth:=200) only[go_sem,d0,q1,q2,q3,q4,q5];refine bu (X:={y:Nat×Nat//y.1<=l.length∧pq (ik f) y.2 (l.drop y.1)=pq (ik f) 1 l∧y.1<=y.2∧y.2<=200000}) (fun y=>[(1,.x (.int .i64 ((d:Nat):Int))),(2,.ptr 2 0),(5,.x (.int .i64 ((y.1.2:Nat):Int))),(6,.x (.int .i64 ((y.1.1:Nat):Int)))]) (fun _=>[(2,[.x (.int .i64 k),.x (.string op),.x (.string nm),.x (.int .i64 vk),.x (.int .i64 vn),.x (.string vs),.x (.string cs),.x (.int .i64 cc),.x (.int .i64 cr),.x (.string ts),.x (.int .i64 tc),.x (.int .i64 tr),.sl nl sz (l.map am) none])]) (fun y=>l.length-y.1.1) ⟨(0,1),by simp,by simp,by simp,by simp⟩ (by simp +decide only[go_sem]<;>(repeat' first|rfl|constructor)) (by simp +decide only[go_sem]<;>(repeat' first|rfl|constructor)) (fun⟨(i,s),hi0,hs0,his,hs1⟩=>?_);simp only at hi0 hs0 his hs1;by_cases hi:i<l.length
     . by_cases hk:s<1000
       . obtain⟨c,hc1,hc2⟩:=Cf hi;obtain rfl:=Fo hs hi;have hcc:=hrec i c hc1;obtain⟨k3,op3,nm3,vk3,vn3,vs3,cs3,cc3,cr3,ts3,tc3,tr3,l3,nl3,ID,hh3,hl3,hf3,hs3⟩:=dn c;rw[hf3] at hc2 hcc;have hle:=HZ f c;have hge:=Fp f c;have c1:decide ((i:Int)<(l.length:Int))=true:=Io (by omega);have c1':decide ((s:Int)<1000)=true:=Io (by omega);have c2:(0:Int)<=(i:Int):=by omega
         have c4:=bp (i:=i) (by omega);have c5:aw .i64 (((s:Nat):Int)+((ik f c:Nat):Int))=((s+ik f c:Nat):Int):=by rw[ak (by unfold bX;omega)];omega
         have hdr:l.drop i=c::l.drop (i+1):=by
          have h1:c=l[i]:=by rw[eq hi] at hc1;exact(U1 hc1).symm
          rw[h1];exact Vr hi
         have e:pq (ik f) (s+ik f c) (l.drop (i+1))=pq (ik f) 1 l:=by rw[<-hs0,hdr];simp only[pq,S4 hk]
         simp +decide (maxDischargeDepth:=200) only[go_sem,io,c1,c1',c2,c4,c5,hc2,hcc,w0];refine⟨⟨(i+1,s+ik f c),by omega,e,by simp only;omega,by simp only;omega⟩,?_,?_,?_⟩
         . simp +decide only[go_sem]
         . simp +decide only[go_sem]
         . simp only;omega
       . have c1:decide ((i:Int)<(l.length:Int))=true:=Io (by omega);have c1':decide ((s:Int)<1000)=false:=SP (by omega);have e:pq (ik f) 1 l=s:=by
          rw[<-hs0];cases l.drop i with
          |nil=>rfl
          |cons c r=>simp only[pq,S8 hk]
         simp +decide (maxDischargeDepth:=200) only[go_sem,io,c1,c1',e]
     . have c1:decide ((i:Int)<(l.length:Int))=false:=SP (by omega);have e:pq (ik f) 1 l=s:=by rw[<-hs0,List.drop_of_length_le (by omega)];rfl
       simp +decide (maxDischargeDepth:=200) only[go_sem,io,c1,e]
   . simp only[VN];simp only[lX] at hlg;simp +decide (maxDischargeDepth:=200) only[go_sem,d0,show((1000:Nat):Int)=1000 from rfl]
     repeat' first
      |simp +decide (maxDischargeDepth:=200) only[go_sem,d0,show((1000:Nat):Int)=1000 from rfl, *]
      |refine oC (fun _=>?_) (fun _=>?_)
      |refine oD (fun _=>?_) (fun _=>?_)
      |refine oB (fun _=>?_) (fun _=>?_)
      |refine pW (fun _=>?_) (fun _=>?_)
      |refine qq (fun _=>?_) (fun _=>?_)
      |refine ua (fun _=>?_) (fun _=>?_)
     all_goals (exfalso;simp only[*,Bool.or_self,U6,Tq] at hlg)
noncomputable def H0:List V->Option V:=FE dH fun nd=>some (.x (.bool (decide (((ik 101 nd:Nat):Int)<=400))))
theorem Ft (nd:Nd):H0 [am nd]=some (.x (.bool (decide (((ik 101 nd:Nat):Int)<=400)))):=bJ lW _ nd
theorem Cj (nd:Nd):FE ky kz [am nd,.x (.int .i64 0)]=some (.x (.int .i64 ((ik 101 nd:Nat):Int))):=(bJ nL _ (nd,0)).trans (re (by omega))
theorem Fu:cm 15 H0:=by refine aE (E:=ar [(34,(FE ky kz))]) (k:=1) (aV _ ⟨Ci,trivial⟩) (by kernel_rfl) Try.func15 rfl (fun a w=>Try.call15 a w) Try.ntmps15 (by kernel_rfl) (by decide) (by decide) ?_;intro us r hF hdat;obtain⟨nd,hus,hG⟩:=be hF;clear hF;subst hus;have hF:=hG;clear hG;cases hF;have e1:=Cj nd;simp only[dH];obtain⟨k,op,nm,vk,vn,vs,cs,cc,cr,ts,tc,tr,l,nl,sz,hh,hl,hf,hs⟩:=dn nd;generalize ik 101 nd=rn at*;rw[hf] at e1⊢;refine⟨rfl,?_⟩;simp +decide (maxDischargeDepth:=200) only[go_sem,e1]
end Go.Proofs.Ytalkmhjanlljhaa
