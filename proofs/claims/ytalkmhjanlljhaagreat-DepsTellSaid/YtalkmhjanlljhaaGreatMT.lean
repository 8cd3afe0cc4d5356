/- Formulas as plain data: what a node is, how deep, how many, which two are one. Nothing of the program. -/
import Derived.Test.YtalkmhjanlljhaaGreatMPO
import Derived.Test.YtalkmhjanlljhaaGreatMAd
namespace Go.Proofs.YtalkmhjanlljhaaGreat
set_option linter.unusedSimpArgs false
set_option maxHeartbeats 8000000
set_option maxRecDepth 100000
open Go Go.RowKit
attribute [go_sem] Tryz.results24 Tryz.results47
structure Hd where
 k:Int
 op:ByteArray
 nm:ByteArray
 vk:Int
 vn:Int
 vs:ByteArray
 cs:ByteArray
 cc:Int
 cr:Int
 ts:ByteArray
 tc:Int
 tr:Int
inductive Nd where
 |leaf (h:Hd)
 |mk (h:Hd) (l:List Nd)
namespace Nd
def hd:Nd->Hd
 | .leaf h=>h
 | .mk h _=>h
def ks:Nd->List Nd
 | .leaf _=>[]
 | .mk _ l=>l
end Nd
def ik (h:Hd) (K:V):List V:=[.x (.int .i64 h.k),.x (.string h.op),.x (.string h.nm),.x (.int .i64 h.vk),.x (.int .i64 h.vn),.x (.string h.vs),.x (.string h.cs),.x (.int .i64 h.cc),.x (.int .i64 h.cr),.x (.string h.ts),.x (.int .i64 h.tc),.x (.int .i64 h.tr),K]
mutual
def am:Nd->V
 | .leaf h=> .agg (ik h (.sl true 0 [] none))
 | .mk h l=> .agg (ik h (.sl false 13 (fa l) none))
def fa:List Nd->List V
 |[]=>[]
 |n::l=>am n::fa l
end
theorem nG:∀l,fa l=l.map am
 |[]=>rfl
 |n::l=>by rw[fa,VC,nG l]
def mf:Nd->V
 | .leaf _=> .sl true 0 [] none
 | .mk _ l=> .sl false 13 (l.map am) none
theorem bf (n:Nd):am n= .agg (ik n.hd (mf n)):=by
 cases n with
 |leaf h=>rw[am];rfl
 |mk h l=>rw[am,nG];rfl
theorem Bc (n:Nd):∃nl sz,mf n= .sl nl sz (n.ks.map am) none∧(n.ks≠[]->sz=13):=by
 cases n with
 |leaf h=>exact⟨true,0,rfl,fun h=>absurd rfl h⟩
 |mk h l=>exact⟨false,13,rfl,fun _=>rfl⟩
variable {h h':Hd}
theorem il {K K':V} (e:ik h K=ik h' K'):h=h'∧K=K':=by cases h;cases h';simp only[ik,VE,V.x.injEq,Value.int.injEq,Value.string.injEq,Xo,Wx] at e;obtain⟨rfl,rfl,rfl,rfl,rfl,rfl,rfl,rfl,rfl,rfl,rfl,rfl,rfl⟩:=e;exact⟨rfl,rfl⟩
mutual
theorem jo:∀a b:Nd,am a=am b->a=b
 | .leaf h,.leaf h',e=>by rw[am,am] at e;rw[(il (V.agg.inj e)).1]
 | .mk h l,.mk h' l',e=>by rw[am,am] at e;obtain⟨h1,h2⟩:=il (V.agg.inj e);have:=(V.sl.inj h2).2.2.1;rw[h1,nH l l' this]
 | .leaf h,.mk h' l',e=>by rw[am,am] at e;have:=(il (V.agg.inj e)).2;cases this
 | .mk h l,.leaf h',e=>by rw[am,am] at e;have:=(il (V.agg.inj e)).2;cases this
theorem nH:∀l l':List Nd,fa l=fa l'->l=l'
 |[],[],_=>rfl
 |n::l,n'::l',e=>by rw[fa,fa] at e;obtain⟨h1,h2⟩:=VZ e;rw[jo n n' h1,nH l l' h2]
 |[],n'::l',e=>by rw[fa,fa] at e;cases e
 |n::l,[],e=>by rw[fa,fa] at e;cases e
end
theorem jp (n:Nd):(am n).cells.length=13:=by rw[bf];rfl
theorem wN (n:Nd):(am n).cells.take 13=(am n).cells:=by rw[<-jp n,Ww]
theorem Bd (n:Nd):V.agg (am n).cells=am n:=by rw[bf];rfl
theorem Be (n:Nd):(am n).cells.all V.cell=true:=by rw[bf];cases n<;>rfl
theorem wO (n:Nd):(am n).cells.drop 12=[mf n]:=by rw[bf];rfl
theorem Em (n:Nd):(am n).cells[12]?=some (mf n):=by rw[bf];rfl
theorem Eo (n:Nd):(am n).dat=true:=by rw[bf];rfl
theorem Bf (n:Nd):(am n).bare=am n:=by rw[bf];exact di _
theorem HH (n:Nd):(am n).notPtr=true:=by rw[bf];rfl
theorem Bg (op:Op) (n:Nd):cU op (am n)=am n:=by rw[bf];exact o4 _ _
theorem Bh (n:Nd):∃nl sz,am n= .agg [.x (.int .i64 n.hd.k),.x (.string n.hd.op),.x (.string n.hd.nm),.x (.int .i64 n.hd.vk),.x (.int .i64 n.hd.vn),.x (.string n.hd.vs),.x (.string n.hd.cs),.x (.int .i64 n.hd.cc),.x (.int .i64 n.hd.cr),.x (.string n.hd.ts),.x (.int .i64 n.hd.tc),.x (.int .i64 n.hd.tr),.sl nl sz (n.ks.map am) none]∧(n.ks≠[]->sz=13):=by obtain⟨nl,sz,h1,h2⟩:=Bc n;exact⟨nl,sz,by rw[bf,h1];rfl,h2⟩
variable {l:List Nd} {i:Nat}
theorem kd (h:i<l.length):∃n,l[i]?=some n∧(l.map am)[((i:Nat):Int).toNat]?=some (am n):=by have h1:l[i]?=some l[i]:=io h;refine⟨l[i],h1,?_⟩;rw[wK,U5,h1];rfl
mutual
def jF:Nd->Nat
 | .leaf _=>1
 | .mk _ l=>1+cntL l
def cntL:List Nd->Nat
 |[]=>0
 |n::l=>jF n+cntL l
end
mutual
def dN:Nd->Nat
 | .leaf _=>1
 | .mk _ l=>1+dL l
def dL:List Nd->Nat
 |[]=>0
 |n::l=>max (dN n) (dL l)
end
theorem iS (n:Nd):jF n=1+cntL n.ks:=by cases n<;>simp[jF,cntL,Nd.ks]
theorem Qb (n:Nd):dN n=1+dL n.ks:=by cases n<;>simp[dN,dL,Nd.ks]
theorem HI (n:Nd):1<=jF n:=by rw[iS];omega
theorem Ep {n:Nd} (h:n∈l):jF n<=cntL l:=by
 induction l with
 |nil=>cases h
 | cons x l ih=>
   simp only[cntL];rcases Vf.1 h with rfl|h
   . omega
   . have:=ih h;omega
theorem Er (l:List Nd):l.length<=cntL l:=by
 induction l with
 |nil=>simp
 |cons x l ih=>simp only[cntL,U3];have:=HI x;omega
theorem aS {α:Type} {l:List α} {x:α} (h:l[i]?=some x):l.take (i+1)=l.take i++[x]:=by rw[List.take_add_one,h];rfl
def ke (h:Hd) (n:Nat) (h':Hd) (n':Nat):Bool:=
 decide (h.k=h'.k)&&(decide (h.op=h'.op)&&(decide (h.nm=h'.nm)&&((decide (h.vk=h'.vk)&&(decide (h.vn=h'.vn)&&decide (h.vs=h'.vs)))&&
  ((decide (h.cs=h'.cs)&&(decide (h.cc=h'.cc)&&decide (h.cr=h'.cr)))&&((decide (h.ts=h'.ts)&&(decide (h.tc=h'.tc)&&decide (h.tr=h'.tr)))&&decide ((n:Int)=(n':Int)))))))
mutual
def sameN:Nd->Nd->Bool
 | .leaf h,b=>ke h 0 b.hd b.ks.length
 | .mk h l,b=>ke h l.length b.hd b.ks.length&&mh l b.ks
def mh:List Nd->List Nd->Bool
 |[],_=>true
 |_::_,[]=>false
 |n::l,n'::l'=>sameN n n'&&mh l l'
end
theorem tg (a b:Nd):sameN a b=(ke a.hd a.ks.length b.hd b.ks.length&&mh a.ks b.ks):=by cases a<;>simp[sameN,mh,Nd.hd,Nd.ks]
theorem Bi {n n':Nat} (e:ke h n h' n'=true):n=n':=by simp only[ke,U6,Vz] at e;omega
mutual
def HJ:Nd->Prop
 | .leaf h=>h.vn<=9223372036854775807
 | .mk h l=>h.vn<=9223372036854775807∧LG l
def LG:List Nd->Prop
 |[]=>True
 |n::l=>HJ n∧LG l
end
theorem KE (n:Nd):HJ n↔n.hd.vn<=9223372036854775807∧LG n.ks:=by cases n<;>simp[HJ,LG,Nd.hd,Nd.ks]
theorem KF (h:∀n∈l,HJ n):LG l:=by
 induction l with
 |nil=>trivial
 |cons x l ih=>exact⟨h x (by simp),ih fun n hn=>h n (Vr _ hn)⟩
theorem Bj (b:Nat->Option (List V)) (n:Nd):fG b (am n)=am n:=by rw[bf];exact sY b _
theorem th (n:Nd) (l:List V):bA (am n::l)=bA l:=by rw[bf];rfl
theorem ti (n:Nd) (l:List V):bm (am n::l)=bm l:=by rw[bf];rfl
theorem Bl (n:Nd):(am n).datP=true:=by rw[bf];rfl
theorem wP (k:Nat) (n:Nd):kK k (am n)=am n:=by rw[bf];rfl
theorem Bm (E:Env) (st:St) (d:Nat) (n:Nd):jE E st (some d) (am n)=st.put (some d) (am n):=by rw[bf];exact sZ st E d _
theorem qN (k:Nat) (n:Nd) (us:List V):dg k (am n::us)=dg (k+1) us:=j5 (by rw[bf];rfl)
theorem tj (k:Nat) (n:Nd) (us:List V) (b:Nat->Option (List V)):dQ k (am n::us) b=dQ (k+1) us b:=fy (by rw[bf];rfl)
theorem tn (k:Nat) (n:Nd) (us:List V) (t:Nat->V):dR k (am n::us) t=dR (k+1) us t:=fw (by rw[bf];rfl)
theorem wQ (n:Nd) (l:List V):cW (am n::l)=cW l:=by rw[bf];rfl
attribute [go_sem] tn wQ tj qN Bj th ti Bl wP Bm
attribute [go_sem] jp wN Bd Be wO Em Eo Bf HH Bg
def c9 (a:Nd):List V:=[am a]
def mi (p:Nd×Nat):List V:=[am p.1,.x (.int .i64 (p.2:Int))]
theorem iT (a b:Nd) (e:c9 a=c9 b):a=b:=jo _ _ (VZ e).1
theorem px (p q:Nd×Nat) (e:mi p=mi q):p=q:=by obtain⟨h1,h2⟩:=VZ e;have h3:(p.2:Int)=(q.2:Int):=(Value.int.inj (V.x.inj (VZ h2).1)).2;exact Prod.ext (jo _ _ h1) (by omega)
theorem jq {sz:Nat} (hs:l≠[]->sz=13) {i:Nat} (hi:i<l.length):sz=13:=hs (by intro e;rw[e] at hi;simp at hi)
variable {nd c:Nd}
theorem HK (h:nd.ks[i]?=some c):jF c<jF nd:=by have:=Ep (Vd h);rw[iS nd];omega
theorem Es (nd:Nd):nd.ks.length<jF nd:=by have:=Er nd.ks;rw[iS nd];omega
theorem bS (nd:Nd):∃(k:Int) (op:ByteArray) (nm:ByteArray) (vk:Int) (vn:Int) (vs:ByteArray) (cs:ByteArray) (cc:Int) (cr:Int) (ts:ByteArray) (tc:Int) (tr:Int) (l:List Nd) (nl:Bool) (sz:Nat),nd.hd=⟨k,op,nm,vk,vn,vs,cs,cc,cr,ts,tc,tr⟩∧nd.ks=l∧am nd= .agg [.x (.int .i64 k),.x (.string op),.x (.string nm),.x (.int .i64 vk),.x (.int .i64 vn),.x (.string vs),.x (.string cs),.x (.int .i64 cc),.x (.int .i64 cr),.x (.string ts),.x (.int .i64 tc),.x (.int .i64 tr),.sl nl sz (l.map am) none]∧(l≠[]->sz=13):=by obtain⟨nl,sz,hf,hs⟩:=Bh nd;exact⟨_,_,_,_,_,_,_,_,_,_,_,_,_,nl,sz,rfl,rfl,hf,hs⟩
abbrev KV:=Bool×Nat×List Nd
def okK (e:KV):Prop:=e.2.2≠[]->e.2.1=13
def nodes:List KV->Nat
 |[]=>0
 |e::r=>cntL e.2.2+nodes r
def deepR:List KV->Nat
 |[]=>0
 |e::r=>max (match e.2.2 with|[]=>0|l=>r.length+dL l) (deepR r)
theorem Et (a:Bool) (z:Nat) (r:List KV):deepR ((a,z,[])::r)=deepR r:=by simp[deepR]
theorem Bn (a a':Bool) (z z':Nat) (c:Nd) (l:List Nd) (r:List KV) (dv:Nat):max (max dv (r.length+1)) (deepR ((a',z',c.ks)::(a,z,l)::r))=max dv (deepR ((a,z,c::l)::r)):=by
 simp only[deepR,dL,Qb c,U3];cases hk:c.ks with
 | nil=>cases l with
   |nil=>simp[dL]<;>omega
   |cons y l=>simp[dL]<;>omega
 | cons y k=>cases l with
   |nil=>simp only[dL];omega
   |cons z l=>simp only[dL];omega
structure StD (nd:Nd) (dv:Nat) (r:List KV):Prop where
 ok:∀e∈r,okK e
 deep:max dv (deepR r)=dN nd
 small:r.length+nodes r<=401
 dv:dv<=401
variable {dv z:Nat}
theorem StD.pop {a:Bool} {r:List KV} (h:StD nd dv ((a,z,[])::r)):StD nd dv r:=
 ⟨fun e he=>h.ok e (by simp[he]),by rw[<-Et a z r];exact h.deep,by have:=h.small;simp[nodes,cntL] at this;omega,h.dv⟩
variable {z':Nat}
theorem StD.push {a a':Bool} {r:List KV} (h:StD nd dv ((a,z,c::l)::r)) (hc:c.ks≠[]->z'=13):StD nd (max dv (r.length+1)) ((a',z',c.ks)::(a,13,l)::r):=by
 refine⟨fun e he=>?_,by rw[Bn a a' 13 z' c l r dv];exact h.deep,?_,?_⟩
 . simp only[Vf] at he;rcases he with rfl|rfl|he
   . exact hc
   . intro _;rfl
   . exact h.ok e (by simp[he])
 . have:=h.small;simp only[U3,nodes,cntL,iS c] at this⊢;omega
 . have h1:=h.small;have h2:=h.dv;simp only[U3] at h1;omega
abbrev KW:=KV×KV
def nodesW:List KW->Nat
 |[]=>0
 |e::r=>cntL e.1.2.2+nodesW r
def sameW (r:List KW):Bool:=r.all fun e=>mh e.1.2.2 e.2.2.2
structure StW (a b:Nd) (r:List KW):Prop where
 ok:∀e∈r,okK e.1∧okK e.2
 len:∀e∈r,e.1.2.2.length=e.2.2.2.length
 same:sameW r=sameN a b
 small:r.length+nodesW r<=401
variable {a b:Nd} {r:List KW}
theorem StW.pop {e:KW} (h:StW a b (e::r)) (he:e.1.2.2=[]):StW a b r:=by refine⟨fun x hx=>h.ok x (by simp[hx]),fun x hx=>h.len x (by simp[hx]),?_,by have:=h.small;simp only[U3,nodesW] at this;omega⟩;rw[<-h.same];simp only[sameW,VY,he,mh,Wo]
variable {p q:Bool} {y:Nat} {d:Nd} {l':List Nd}
theorem StW.no (h:StW a b (((p,y,c::l),(q,z,d::l'))::r)) (hn:ke c.hd c.ks.length d.hd d.ks.length=false):sameN a b=false:=by rw[<-h.same];simp only[sameW,VY,mh,tg c d,hn,W8]
theorem StW.push {p' q':Bool} {y':Nat} (h:StW a b (((p,y,c::l),(q,z,d::l'))::r)) (hn:ke c.hd c.ks.length d.hd d.ks.length=true) (hc:c.ks≠[]->y'=13) (hd:d.ks≠[]->z'=13):
 StW a b (((p',y',c.ks),(q',z',d.ks))::((p,13,l),(q,13,l'))::r):=by
 refine⟨fun e he=>?_,fun e he=>?_,?_,?_⟩
 . simp only[Vf] at he;rcases he with rfl|rfl|he
   . exact⟨hc,hd⟩
   . exact⟨fun _=>rfl,fun _=>rfl⟩
   . exact h.ok e (by simp[he])
 . simp only[Vf] at he;rcases he with rfl|rfl|he
   . exact Bi hn
   . have:=h.len _ (Vv ..);simpa using this
   . exact h.len e (by simp[he])
 . rw[<-h.same];simp only[sameW,VY,mh,tg c d,hn,Wo,Bool.and_assoc]
 . have:=h.small;simp only[U3,nodesW,cntL,iS c] at this⊢;omega
def nI (h:Hd):Bool:=((((decide ((100:Int)<(h.nm.size:Int))||decide ((100:Int)<(h.op.size:Int)))||decide ((400:Int)<(h.vs.size:Int)))||decide ((100:Int)<(h.cs.size:Int)))||decide ((100:Int)<(h.ts.size:Int)))
def rv (g:Nd->Nat):Nat->List Nd->Nat
 |s,[]=>s
 |s,c::l=>if s<1000 then rv g (s+g c) l else s
def jr:Nat->Nd->Nat
 |0,_=>1000
 |f+1,nd=>bif nI nd.hd then 1000 else rv (jr f) 1 nd.ks
theorem Eu (g:Nd->Nat) (s:Nat) (l:List Nd):s<=rv g s l:=by
 induction l generalizing s with
 |nil=>exact Vb _
 | cons c l ih=>
   simp only[rv];split
   . have:=ih (s+g c);omega
   . exact Vb _
variable {g:Nd->Nat}
theorem KG {B:Nat} (hg:∀c,g c<=B) {s:Nat} {l:List Nd} (hs:s<=999+B):rv g s l<=999+B:=by
 induction l generalizing s with
 |nil=>exact hs
 | cons c l ih=>
   simp only[rv];split
   . have:=hg c;exact ih (by omega)
   . exact hs
theorem HL (f:Nat) (nd:Nd):1<=jr f nd:=by
 cases f with
 |zero=>simp[jr]
 | succ f=>
   simp only[jr];cases nI nd.hd
   . exact Eu _ _ _
   . simp
theorem KH (f:Nat) (nd:Nd):jr f nd<=1000+1000*f:=by
 induction f generalizing nd with
 |zero=>simp[jr]
 | succ f ih=>
   simp only[jr];cases nI nd.hd
   . have:=KG (g:=jr f) (B:=1000+1000*f) ih (s:=1) (l:=nd.ks) (by omega);simp only[XK];omega
   . simp only[Ya];omega
theorem HM (h1:∀c∈l,g c<1000->jF c=g c) {s:Nat} (h:rv g s l<1000):rv g s l=s+cntL l:=by
 induction l generalizing s with
 |nil=>simp[rv,cntL]
 | cons c l ih=>
   simp only[rv] at h⊢;split at h
   . rename_i hs;rw[Va hs];have hg:=Eu g (s+g c) l;have hc:=h1 c (by simp) (by omega);rw[ih (fun d hd=>h1 d (by simp[hd])) h];simp only[cntL];omega
   . omega
theorem HN (f:Nat) (nd:Nd) (h:jr f nd<1000):jF nd=jr f nd:=by
 induction f generalizing nd with
 |zero=>simp[jr] at h
 | succ f ih=>
   simp only[jr] at h⊢;cases hl:nI nd.hd
   . rw[hl] at h;simp only[XK] at h⊢;rw[HM (fun c _ hc=>ih c hc) h,iS]
   . rw[hl] at h;simp at h
theorem HO (h:jr 101 nd<=400):jF nd<=400:=by rw[HN 101 nd (by omega)];exact h
def mj (p:Nd×Nat):Option V:=if p.2<=101 then some (.x (.int .i64 ((jr (101-p.2) p.1:Nat):Int))) else none
theorem tp {d:Nat} (h:d<=101):mj (nd,d)=some (.x (.int .i64 ((jr (101-d) nd:Nat):Int))):=Va h
theorem Ev:bM 47 (FE mi mj):=by
 refine yS (fun a=>102-a.2) (fun a w=>Tryz.call47 a w) (fun n ih=>?_);refine av (E:=au [(47,(FE mi fun a=>if (fun a=>102-a.2) a<n then mj a else none))]) (k:=2) (aM _ ⟨ih,trivial⟩) (by kernel_rfl) Tryz.func47 rfl (fun a w=>Tryz.call47 a w) Tryz.ntmps47 (by kernel_rfl) (by decide) (by decide) ?_;intro us r hF hdat;obtain⟨⟨nd,d⟩,hus,hG⟩:=aZ hF;clear hF;subst hus;obtain⟨hlt,hF⟩:=bv hG;clear hG;unfold mj at hF;obtain⟨h101,hF⟩:=bv hF;cases hF;clear hdat;simp only[mi] at hlt h101⊢;obtain⟨k,op,nm,vk,vn,vs,cs,cc,cr,ts,tc,tr,l,nl,sz,hh,hl,hf,hs⟩:=bS nd;rw[hf];refine⟨rfl,?_⟩;by_cases hd:d=101
 . subst hd;have e:jr (101-101) nd=1000:=rfl;rw[e];simp +decide (maxDischargeDepth:=200) only[go_sem,show decide ((100:Int)<((101:Nat):Int))=true from rfl,show((1000:Nat):Int)=1000 from rfl]
 . obtain ⟨f,hf'⟩:∃f,101-d=f+1:=⟨100-d,by omega⟩;have hrec:∀(i:Nat) (c:Nd),l[i]?=some c->(FE mi fun a=>if 102-a.2<n then mj a else none) [am c,.x (.int .i64 ((d+1:Nat):Int))]=some (.x (.int .i64 ((jr f c:Nat):Int))):=fun i c hc=>by have:=(bC px (fun a=>if 102-a.2<n then mj a else none) (c,d+1)).trans ((Va (by simp only;omega)).trans (tp (by omega)));rw[show 101-(d+1)=f from by omega] at this;exact this
   have d0:decide ((100:Int)<((d:Nat):Int))=false:=tl (by omega);have w0:ax .i64 (((d:Nat):Int)+1)=((d+1:Nat):Int):=by rw[ak (by unfold co;omega)];omega
   rw[hf'];simp only[jr,hh,hl];cases hlg:nI (⟨k,op,nm,vk,vn,vs,cs,cc,cr,ts,tc,tr⟩:Hd)
   . simp only[XK];simp only[nI,Bool.or_eq_false_iff] at hlg;obtain⟨⟨⟨⟨q1,q2⟩,q3⟩,q4⟩,q5⟩:=hlg;simp +decide (maxDischargeDepth:=200) only[go_sem,d0,q1,q2,q3,q4,q5];refine aI (X:={y:Nat×Nat//y.1<=l.length∧rv (jr f) y.2 (l.drop y.1)=rv (jr f) 1 l∧y.1<=y.2∧y.2<=200000}) (fun y=>[(1,.x (.int .i64 ((d:Nat):Int))),(2,.ptr 2 0),(5,.x (.int .i64 ((y.1.2:Nat):Int))),(6,.x (.int .i64 ((y.1.1:Nat):Int)))]) (fun _=>[(2,[.x (.int .i64 k),.x (.string op),.x (.string nm),.x (.int .i64 vk),.x (.int .i64 vn),.x (.string vs),.x (.string cs),.x (.int .i64 cc),.x (.int .i64 cr),.x (.string ts),.x (.int .i64 tc),.x (.int .i64 tr),.sl nl sz (l.map am) none])]) (fun y=>l.length-y.1.1) ⟨(0,1),by simp,by simp,by simp,by simp⟩ (by simp +decide only[go_sem]<;>(repeat' first|rfl|constructor)) (by simp +decide only[go_sem]<;>(repeat' first|rfl|constructor)) (fun⟨(i,s),hi0,hs0,his,hs1⟩=>?_);simp only at hi0 hs0 his hs1;by_cases hi:i<l.length
     . by_cases hk:s<1000
       . obtain⟨c,hc1,hc2⟩:=kd hi;obtain rfl:=jq hs hi;have hcc:=hrec i c hc1;obtain⟨k3,op3,nm3,vk3,vn3,vs3,cs3,cc3,cr3,ts3,tc3,tr3,l3,nl3,LF,hh3,hl3,hf3,hs3⟩:=bS c;rw[hf3] at hc2 hcc;have hle:=KH f c;have hge:=HL f c;have c1:decide ((i:Int)<(l.length:Int))=true:=iO (by omega);have c1':decide ((s:Int)<1000)=true:=iO (by omega);have c2:(0:Int)<=(i:Int):=by omega
         have c4:=aF (i:=i) (by omega);have c5:ax .i64 (((s:Nat):Int)+((jr f c:Nat):Int))=((s+jr f c:Nat):Int):=by rw[ak (by unfold co;omega)];omega
         have hdr:l.drop i=c::l.drop (i+1):=by
          have h1:c=l[i]:=by rw[io hi] at hc1;exact(W0 hc1).symm
          rw[h1];exact WZ hi
         have e:rv (jr f) (s+jr f c) (l.drop (i+1))=rv (jr f) 1 l:=by rw[<-hs0,hdr];simp only[rv,Va hk]
         simp +decide (maxDischargeDepth:=200) only[go_sem,eq,c1,c1',c2,c4,c5,hc2,hcc,w0];refine⟨⟨(i+1,s+jr f c),by omega,e,by simp only;omega,by simp only;omega⟩,?_,?_,?_⟩
         . simp +decide only[go_sem]
         . simp +decide only[go_sem]
         . simp only;omega
       . have c1:decide ((i:Int)<(l.length:Int))=true:=iO (by omega);have c1':decide ((s:Int)<1000)=false:=tl (by omega);have e:rv (jr f) 1 l=s:=by
          rw[<-hs0];cases l.drop i with
          |nil=>rfl
          |cons c r=>simp only[rv,Vh hk]
         simp +decide (maxDischargeDepth:=200) only[go_sem,eq,c1,c1',e]
     . have c1:decide ((i:Int)<(l.length:Int))=false:=tl (by omega);have e:rv (jr f) 1 l=s:=by rw[<-hs0,List.drop_of_length_le (by omega)];rfl
       simp +decide (maxDischargeDepth:=200) only[go_sem,eq,c1,e]
   . simp only[Ya];simp only[nI] at hlg;simp +decide (maxDischargeDepth:=200) only[go_sem,d0,show((1000:Nat):Int)=1000 from rfl]
     repeat' first
      |simp +decide (maxDischargeDepth:=200) only[go_sem,d0,show((1000:Nat):Int)=1000 from rfl, *]
      |refine qt (fun _=>?_) (fun _=>?_)
      |refine qu (fun _=>?_) (fun _=>?_)
      |refine qs (fun _=>?_) (fun _=>?_)
      |refine sb (fun _=>?_) (fun _=>?_)
      |refine sD (fun _=>?_) (fun _=>?_)
      |refine wi (fun _=>?_) (fun _=>?_)
     all_goals (exfalso;simp only[*,Bool.or_self,Xp,VF] at hlg)
noncomputable def KI:List V->Option V:=FE c9 fun nd=>some (.x (.bool (decide (((jr 101 nd:Nat):Int)<=400))))
theorem HR (nd:Nd):KI [am nd]=some (.x (.bool (decide (((jr 101 nd:Nat):Int)<=400)))):=bC iT _ nd
theorem Ew (nd:Nd):FE mi mj [am nd,.x (.int .i64 0)]=some (.x (.int .i64 ((jr 101 nd:Nat):Int))):=(bC px _ (nd,0)).trans (tp (by omega))
theorem HS:bM 24 KI:=by refine av (E:=au [(47,(FE mi mj))]) (k:=1) (aM _ ⟨Ev,trivial⟩) (by kernel_rfl) Tryz.func24 rfl (fun a w=>Tryz.call24 a w) Tryz.ntmps24 (by kernel_rfl) (by decide) (by decide) ?_;intro us r hF hdat;obtain⟨nd,hus,hG⟩:=aZ hF;clear hF;subst hus;have hF:=hG;clear hG;cases hF;have e1:=Ew nd;simp only[c9];obtain⟨k,op,nm,vk,vn,vs,cs,cc,cr,ts,tc,tr,l,nl,sz,hh,hl,hf,hs⟩:=bS nd;generalize jr 101 nd=rn at*;rw[hf] at e1⊢;refine⟨rfl,?_⟩;simp +decide (maxDischargeDepth:=200) only[go_sem,e1]
end Go.Proofs.YtalkmhjanlljhaaGreat
