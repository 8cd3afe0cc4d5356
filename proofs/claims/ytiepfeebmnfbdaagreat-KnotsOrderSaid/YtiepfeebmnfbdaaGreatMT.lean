/- MT -/
import Derived.Test.YtiepfeebmnfbdaaGreatMAd
namespace Go.Proofs.YtiepfeebmnfbdaaGreat
open Tryz
set_option linter.unusedSimpArgs false
set_option maxHeartbeats 8000000
set_option maxRecDepth 100000
open Go Go.RowKit
attribute [go_sem] results12 results26
structure Hd where
 k:Int
 op:ByteArray
 nm:ByteArray
 vk:Int
 vn:Int
 vs:ByteArray
 cs:ByteArray
 cc:Int
 cr:Int
 ts:ByteArray
 tc:Int
 tr:Int
inductive Nd where
 |leaf (h:Hd)
 |mk (h:Hd) (l:List Nd)
namespace Nd
def hd:Nd->Hd
 | .leaf h=>h
 | .mk h _=>h
def ks:Nd->List Nd
 | .leaf _=>[]
 | .mk _ l=>l
end Nd
def iJ(h:Hd)(K:V):U:=[.i h.k,.x (.string h.op),.x (.string h.nm),.i h.vk,.i h.vn,.x (.string h.vs),.x (.string h.cs),.i h.cc,.i h.cr,.x (.string h.ts),.i h.tc,.i h.tr,K]
mutual
def ar:Nd->V
 | .leaf h=> .agg (iJ h (.sl true 0 [] none))
 | .mk h l=> .agg (iJ h (.sl false 13 (fS l) none))
def fS:List Nd->U
 |[]=>[]
 |n::l=>ar n::fS l
end
theorem pW:∀l,fS l=l.map ar
 |[]=>rfl
 |n::l=>by rw[fS,adL,pW l]
def mL:Nd->V
 | .leaf _=> .sl true 0 [] none
 | .mk _ l=> .sl false 13 (l.map ar) none
theorem bm(n:Nd):ar n= .agg (iJ n.hd (mL n)):=by
 cases n with
 |leaf h=>rw[ar];rfl
 |mk h l=>rw[ar,pW];rfl
theorem Gb(n:Nd):∃nl sz,mL n= .sl nl sz (n.ks.map ar) none∧(n.ks≠[]->sz=13):=by
 cases n with
 |leaf h=>exact⟨true,0,rfl,fun h=>absurd rfl h⟩
 |mk h l=>exact⟨false,13,rfl,fun _=>rfl⟩
theorem jC{h h':Hd}{K K':V}(e:iJ h K=iJ h' K'):h=h'∧K=K':=by cases h;cases h';simp only[iJ,adW,V.x.injEq,Value.int.injEq,Value.string.injEq,afK,aeQ] at e;obtain⟨rfl,rfl,rfl,rfl,rfl,rfl,rfl,rfl,rfl,rfl,rfl,rfl,rfl⟩:=e;exact⟨rfl,rfl⟩
mutual
theorem kF:∀a b:Nd,ar a=ar b->a=b
 | .leaf h,.leaf h',e=>by rw[ar,ar] at e;rw[(jC (V.agg.inj e)).1]
 | .mk h l,.mk h' l',e=>by rw[ar,ar] at e;obtain⟨h1,h2⟩:=jC (V.agg.inj e);have:=(V.sl.inj h2).2.2.1;rw[h1,pX l l' this]
 | .leaf h,.mk h' l',e=>by rw[ar,ar] at e;have:=(jC (V.agg.inj e)).2;cases this
 | .mk h l,.leaf h',e=>by rw[ar,ar] at e;have:=(jC (V.agg.inj e)).2;cases this
theorem pX:∀l l':List Nd,fS l=fS l'->l=l'
 |[],[],_=>rfl
 |n::l,n'::l',e=>by rw[fS,fS] at e;obtain⟨h1,h2⟩:=aeC e;rw[kF n n' h1,pX l l' h2]
 |[],n'::l',e=>by rw[fS,fS] at e;cases e
 |n::l,[],e=>by rw[fS,fS] at e;cases e
end
theorem kG(n:Nd):(ar n).cells.length=13:=by rw[bm];rfl
theorem Gg(n:Nd):∃nl sz,ar n= .agg [.i n.hd.k,.x (.string n.hd.op),.x (.string n.hd.nm),.i n.hd.vk,.i n.hd.vn,.x (.string n.hd.vs),.x (.string n.hd.cs),.i n.hd.cc,.i n.hd.cr,.x (.string n.hd.ts),.i n.hd.tc,.i n.hd.tr,.sl nl sz (n.ks.map ar) none]∧(n.ks≠[]->sz=13):=by obtain⟨nl,sz,h1,h2⟩:=Gb n;exact⟨nl,sz,by rw[bm,h1];rfl,h2⟩
variable{l:List Nd}
theorem lW{i:Nat}(h:i<l.length):∃n,l[i]?=some n∧(l.map ar)[(i:Int).toNat]?=some (ar n):=by have h1:l[i]?=some l[i]:=io h;refine⟨l[i],h1,?_⟩;rw[Be,ac9,h1];rfl
mutual
def lw:Nd->Nat
 | .leaf _=>1
 | .mk _ l=>1+cntL l
def cntL:List Nd->Nat
 |[]=>0
 |n::l=>lw n+cntL l
end
mutual
def dN:Nd->Nat
 | .leaf _=>1
 | .mk _ l=>1+dL l
def dL:List Nd->Nat
 |[]=>0
 |n::l=>max (dN n) (dL l)
end
theorem nE(n:Nd):lw n=1+cntL n.ks:=by cases n<;>simp[lw,cntL,Nd.ks]
theorem OM(n:Nd):1<=lw n:=by rw[nE];omega
theorem J0{n:Nd}(h:n∈l):lw n<=cntL l:=by
 induction l with
 |nil=>cases h
 | cons x l ih=>
   simp only[cntL];rcases adA.1 h with rfl|h
   . omega
   . have:=ih h;omega
theorem J2(l:List Nd):l.length<=cntL l:=by
 induction l with
 |nil=>simp
 |cons x l ih=>simp only[cntL,adm];have:=OM x;omega
theorem aF{α:Type}{l:List α}{i:Nat}{x:α}(h:l[i]?=some x):l.take (i+1)=l.take i++[x]:=by rw[af5,h];rfl
def J3(h:Hd)(n:Nat)(h':Hd)(n':Nat):Bool:=
 decide (h.k=h'.k)&&(decide (h.op=h'.op)&&(decide (h.nm=h'.nm)&&((decide (h.vk=h'.vk)&&(decide (h.vn=h'.vn)&&decide (h.vs=h'.vs)))&&
  ((decide (h.cs=h'.cs)&&(decide (h.cc=h'.cc)&&decide (h.cr=h'.cr)))&&((decide (h.ts=h'.ts)&&(decide (h.tc=h'.tc)&&decide (h.tr=h'.tr)))&&decide ((n:Int)=n'))))))
mutual
def XX:Nd->Nd->Bool
 | .leaf h,b=>J3 h 0 b.hd b.ks.length
 | .mk h l,b=>J3 h l.length b.hd b.ks.length&&QL l b.ks
def QL:List Nd->List Nd->Bool
 |[],_=>true
 |_::_,[]=>false
 |n::l,n'::l'=>XX n n'&&QL l l'
end
mutual
def ON:Nd->Prop
 | .leaf h=>h.vn<=9223372036854775807
 | .mk h l=>h.vn<=9223372036854775807∧TM l
def TM:List Nd->Prop
 |[]=>True
 |n::l=>ON n∧TM l
end
theorem Sq(n:Nd):ON n↔n.hd.vn<=9223372036854775807∧TM n.ks:=by cases n<;>simp[ON,TM,Nd.hd,Nd.ks]
theorem Sr(h:∀n∈l,ON n):TM l:=by
 induction l with
 |nil=>trivial
 |cons x l ih=>exact⟨h x A0k,ih fun n hn=>h n (adE _ hn)⟩
def opB(s:ByteArray):Bool:=(decide (s=⟨#[43]⟩)||(decide (s=⟨#[45]⟩)||(decide (s=⟨#[42]⟩)||(decide (s=⟨#[47]⟩)||(decide (s=⟨#[38]⟩)||(decide (s=⟨#[61]⟩)||(decide (s=⟨#[60,62]⟩)||(decide (s=⟨#[60]⟩)||(decide (s=⟨#[62]⟩)||(decide (s=⟨#[60,61]⟩)||decide (s=⟨#[62,61]⟩)))))))))))
def XY(s:ByteArray):Bool:=decide (1<=s.size)&&decide (s.size<=8)&& !decide (s=⟨#[84,82,85,69]⟩)&& !decide (s=⟨#[70,65,76,83,69]⟩)&&(List.range s.size).all fun j=>Sn (eP s j)
def Ss(s:ByteArray)(c r:Int)(s':ByteArray)(c' r':Int):Bool:=lV s c r s' c' r'&&decide (cE c r c' r'<=400)
def QM(h:Hd)(n:Nat):Bool:=
 bif decide (h.k=1) then decide (h.op=⟨#[]⟩)&&(decide (h.nm=⟨#[]⟩)&&((decide (h.cs=⟨#[]⟩)&&(decide (h.cc=0)&&decide (h.cr=0)))&&((decide (h.ts=⟨#[]⟩)&&(decide (h.tc=0)&&decide (h.tr=0)))&&(decide ((n:Int)=0))))) else
 bif decide (h.k=2) then decide (h.op=⟨#[]⟩)&&(decide (h.nm=⟨#[]⟩)&&((decide (h.vk=0)&&(decide (h.vn=0)&&decide (h.vs=⟨#[]⟩)))&&((decide (h.ts=⟨#[]⟩)&&(decide (h.tc=0)&&decide (h.tr=0)))&&(decide ((n:Int)=0))))) else
 bif decide (h.k=3) then decide (h.op=⟨#[]⟩)&&(decide (h.nm=⟨#[]⟩)&&((decide (h.vk=0)&&(decide (h.vn=0)&&decide (h.vs=⟨#[]⟩)))&&(decide ((n:Int)=0)))) else
 bif decide (h.k=4) then decide (h.nm=⟨#[]⟩)&&((decide (h.vk=0)&&(decide (h.vn=0)&&decide (h.vs=⟨#[]⟩)))&&((decide (h.cs=⟨#[]⟩)&&(decide (h.cc=0)&&decide (h.cr=0)))&&((decide (h.ts=⟨#[]⟩)&&(decide (h.tc=0)&&decide (h.tr=0)))))) else
 bif decide (h.k=5) then decide (h.nm=⟨#[]⟩)&&((decide (h.vk=0)&&(decide (h.vn=0)&&decide (h.vs=⟨#[]⟩)))&&((decide (h.cs=⟨#[]⟩)&&(decide (h.cc=0)&&decide (h.cr=0)))&&((decide (h.ts=⟨#[]⟩)&&(decide (h.tc=0)&&decide (h.tr=0)))))) else
 bif decide (h.k=6) then decide (h.op=⟨#[]⟩)&&((decide (h.vk=0)&&(decide (h.vn=0)&&decide (h.vs=⟨#[]⟩)))&&((decide (h.cs=⟨#[]⟩)&&(decide (h.cc=0)&&decide (h.cr=0)))&&((decide (h.ts=⟨#[]⟩)&&(decide (h.tc=0)&&decide (h.tr=0)))))) else
 bif decide (h.k=7) then decide (h.op=⟨#[]⟩)&&(decide (h.nm=⟨#[]⟩)&&((decide (h.vk=0)&&(decide (h.vn=0)&&decide (h.vs=⟨#[]⟩)))&&((decide (h.cs=⟨#[]⟩)&&(decide (h.cc=0)&&decide (h.cr=0)))&&((decide (h.ts=⟨#[]⟩)&&(decide (h.tc=0)&&decide (h.tr=0)))&&(decide ((n:Int)=0)))))) else false
def dS(a:Nd):U:=[ar a]
def oz(p:Nd×Nat):U:=[ar p.1,.i p.2]
theorem ke(a b:Nd)(e:dS a=dS b):a=b:=kF _ _ (aeC e).1
theorem sK(p q:Nd×Nat)(e:oz p=oz q):p=q:=by obtain⟨h1,h2⟩:=aeC e;have h3:(p.2:Int)=q.2:=(Value.int.inj (V.x.inj (aeC h2).1)).2;exact Prod.ext (kF _ _ h1) A0b
theorem kH{sz:Nat}(hs:l≠[]->sz=13){i:Nat}(hi:i<l.length):sz=13:=hs (by intro e;rw[e] at hi;simp at hi)
variable{nd:Nd}
theorem OO{c:Nd}{i:Nat}(h:nd.ks[i]?=some c):lw c<lw nd:=by have:=J0 (adg h);rw[nE nd];omega
theorem J4(nd:Nd):nd.ks.length<lw nd:=by have:=J2 nd.ks;rw[nE nd];omega
theorem cJ(nd:Nd):∃(k:Int) (op:ByteArray) (nm:ByteArray) (vk:Int) (vn:Int) (vs:ByteArray) (cs:ByteArray) (cc:Int) (cr:Int) (ts:ByteArray) (tc:Int) (tr:Int) (l:List Nd) (nl:Bool) (sz:Nat),nd.hd=⟨k,op,nm,vk,vn,vs,cs,cc,cr,ts,tc,tr⟩∧nd.ks=l∧ar nd= .agg [.i k,.x (.string op),.x (.string nm),.i vk,.i vn,.x (.string vs),.x (.string cs),.i cc,.i cr,.x (.string ts),.i tc,.i tr,.sl nl sz (l.map ar) none]∧(l≠[]->sz=13):=by obtain⟨nl,sz,hf,hs⟩:=Gg nd;exact⟨_,_,_,_,_,_,_,_,_,_,_,_,_,nl,sz,rfl,rfl,hf,hs⟩
def okR(h:Hd)(n:Nat):Bool:=
 bif decide (h.k=1) then Sp h.vk h.vn h.vs&&((decide (h.vk=1)&&decide (0<=h.vn)||decide (h.vk=2))||decide (h.vk=3)) else bif decide (h.k=2) then bM h.cs h.cc h.cr else
 bif decide (h.k=3) then Ss h.cs h.cc h.cr h.ts h.tc h.tr else bif decide (h.k=4) then decide (h.op=⟨#[45]⟩)&&decide ((n:Int)=1) else
 bif decide (h.k=5) then opB h.op&&decide ((n:Int)=2) else bif decide (h.k=6) then XY h.nm&&decide ((n:Int)<=20) else true
mutual
def rN:Nd->Bool
 | .leaf h=>QM h 0&&okR h 0
 | .mk h l=>QM h l.length&&(rL l&&okR h l.length)
def rL:List Nd->Bool
 |[]=>true
 |n::l=>rN n&&rL l
end
abbrev KV:=Bool×Nat×List Nd
def XZ:List KV->Nat
 |[]=>0
 |e::r=>cntL e.2.2+XZ r
def pY(h:Hd):Bool:=((((decide ((100:Int)<(h.nm.size:Int))||decide ((100:Int)<(h.op.size:Int)))||decide ((400:Int)<(h.vs.size:Int)))||decide ((100:Int)<(h.cs.size:Int)))||decide ((100:Int)<(h.ts.size:Int)))
def vt(g:Nd->Nat):Nat->List Nd->Nat
 |s,[]=>s
 |s,c::l=>if s<1000 then vt g (s+g c) l else s
def kI:Nat->Nd->Nat
 |0,_=>1000
 |f+1,nd=>bif pY nd.hd then 1000 else vt (kI f) 1 nd.ks
theorem J5(g:Nd->Nat)(s:Nat)(l:List Nd):s<=vt g s l:=by
 induction l generalizing s with
 |nil=>exact adp _
 | cons c l ih=>
   simp only[vt];split
   . have:=ih (s+g c);omega
   . exact adp _
variable{g:Nd->Nat}
theorem Su{B:Nat}(hg:∀c,g c<=B){s:Nat}{l:List Nd}(hs:s<=999+B):vt g s l<=999+B:=by
 induction l generalizing s with
 |nil=>exact hs
 | cons c l ih=>
   simp only[vt];split
   . have:=hg c;exact ih A0b
   . exact hs
theorem OP(f:Nat)(nd:Nd):1<=kI f nd:=by
 cases f with
 |zero=>simp[kI]
 | succ f=>
   simp only[kI];cases pY nd.hd
   . exact J5 _ _ _
   . simp
theorem Sv(f:Nat)(nd:Nd):kI f nd<=1000+1000*f:=by
 induction f generalizing nd with
 |zero=>simp[kI]
 | succ f ih=>
   simp only[kI];cases pY nd.hd
   . have:=Su (g:=kI f) (B:=1000+1000*f) ih (s:=1) (l:=nd.ks) A0b;simp only[agh];omega
   . simp only[agH];omega
theorem OQ(h1:∀c∈l,g c<1000->lw c=g c){s:Nat}(h:vt g s l<1000):vt g s l=s+cntL l:=by
 induction l generalizing s with
 |nil=>simp[vt,cntL]
 | cons c l ih=>
   simp only[vt] at h⊢;split at h
   . rename_i hs;rw[adl hs];have hg:=J5 g (s+g c) l;have hc:=h1 c A0k A0b;rw[ih (fun d hd=>h1 d (by simp[hd])) h];simp only[cntL];omega
   . omega
theorem OR(f:Nat)(nd:Nd)(h:kI f nd<1000):lw nd=kI f nd:=by
 induction f generalizing nd with
 |zero=>simp[kI] at h
 | succ f ih=>
   simp only[kI] at h⊢;cases hl:pY nd.hd
   . rw[hl] at h;simp only[agh] at h⊢;rw[OQ (fun c _ hc=>ih c hc) h,nE]
   . rw[hl] at h;simp at h
theorem OS(h:kI 101 nd<=400):lw nd<=400:=by rw[OR 101 nd A0b];exact h
def oA(p:Nd×Nat):Option V:=if p.2<=101 then some (.i ((kI (101-p.2) p.1:Nat):Int)) else none
theorem xm{d:Nat}(h:d<=101):oA (nd,d)=some (.i ((kI (101-d) nd:Nat):Int)):=adl h
theorem J6:cg 26 (FE oz oA):=by
 refine DG (fun a=>102-a.2) (fun a w=>call26 a w) (fun n ih=>?_);refine aE (E:=aI [(26,(FE oz fun a=>if (fun a=>102-a.2) a<n then oA a else none))]) (k:=2) (aU _ ⟨ih,trivial⟩) A0a func26 rfl (fun a w=>call26 a w) ntmps26 A0a A0c A0c ?_;intro us r hF hdat;obtain⟨⟨nd,d⟩,hus,hG⟩:=bh hF;subst hus;obtain⟨hlt,hF⟩:=bK hG;unfold oA at hF;obtain⟨h101,hF⟩:=bK hF;cases hF;simp only[oz] at hlt h101⊢;obtain⟨k,op,nm,vk,vn,vs,cs,cc,cr,ts,tc,tr,l,nl,sz,hh,hl,hf,hs⟩:=cJ nd;rw[hf];refine⟨rfl,?_⟩;by_cases hd:d=101
 . subst hd;have e:kI (101-101) nd=1000:=rfl;rw[e];simp +decide only[go_sem,show decide ((100:Int)<((101:Nat):Int))=true from rfl,show((1000:Nat):Int)=1000 from rfl]
 . obtain ⟨f,hf'⟩:∃f,101-d=f+1:=⟨100-d,A0b⟩;have hrec:∀(i:Nat) (c:Nd),l[i]?=some c->(FE oz fun a=>if 102-a.2<n then oA a else none) [ar c,.i (d+1:Nat)]=some (.i (kI f c:Nat)):=fun i c hc=>by have:=(ca sK (fun a=>if 102-a.2<n then oA a else none) (c,d+1)).trans ((adl (by simp only;omega)).trans (xm A0b));rw[show 101-(d+1)=f from by omega] at this;exact this
   have d0:decide ((100:Int)<(d:Int))=false:=Io A0b;have w0:az .i64 ((d:Int)+1)=((d+1:Nat):Int):=by rw[ak A0j];omega
   rw[hf'];simp only[kI,hh,hl];cases hlg:pY (⟨k,op,nm,vk,vn,vs,cs,cc,cr,ts,tc,tr⟩:Hd)
   . simp only[agh];simp only[pY,Bool.or_eq_false_iff] at hlg;obtain⟨⟨⟨⟨q1,q2⟩,q3⟩,q4⟩,q5⟩:=hlg;simp +decide only[go_sem,d0,q1,q2,q3,q4,q5];refine aT (X:={y:Nat×Nat//y.1<=l.length∧vt (kI f) y.2 (l.drop y.1)=vt (kI f) 1 l∧y.1<=y.2∧y.2<=200000}) (fun y=>[(1,.i d),(2,.ptr 2 0),(5,.i y.1.2),(6,.i y.1.1)]) (fun _=>[(2,[.i k,.x (.string op),.x (.string nm),.i vk,.i vn,.x (.string vs),.x (.string cs),.i cc,.i cr,.x (.string ts),.i tc,.i tr,.sl nl sz (l.map ar) none])]) (fun y=>l.length-y.1.1) ⟨(0,1),A0k,A0k,A0k,A0k⟩ A0e A0e (fun⟨(i,s),hi0,hs0,his,hs1⟩=>?_);simp only at hi0 hs0 his hs1;by_cases hi:i<l.length
     . by_cases hk:s<1000
       . obtain⟨c,hc1,hc2⟩:=lW hi;obtain rfl:=kH hs hi;have hcc:=hrec i c hc1;obtain⟨k3,op3,nm3,vk3,vn3,vs3,cs3,cc3,cr3,ts3,tc3,tr3,l3,nl3,Rj,hh3,hl3,hf3,hs3⟩:=cJ c;rw[hf3] at hc2 hcc;have hle:=Sv f c;have hge:=OP f c;have c1:decide ((i:Int)<l.length)=true:=ac0 A0b;have c1':decide ((s:Int)<1000)=true:=ac0 A0b;have c2:(0:Int)<=(i:Int):=A0b
         have c4:=ax (i:=i) A0b;have c5:az .i64 ((s:Int)+((kI f c:Nat):Int))=((s+kI f c:Nat):Int):=by rw[ak A0j];omega
         have hdr:l.drop i=c::l.drop (i+1):=by
          have h1:c=l[i]:=by rw[io hi] at hc1;exact(afo hc1).symm
          rw[h1];exact afl hi
         have e:vt (kI f) (s+kI f c) (l.drop (i+1))=vt (kI f) 1 l:=by rw[<-hs0,hdr];simp only[vt,adl hk]
         simp +decide only[go_sem,eq,c1,c1',c2,c4,c5,hc2,hcc,w0];refine⟨⟨(i+1,s+kI f c),A0b,e,by simp only;omega,by simp only;omega⟩,?_,?_,?_⟩
         . simp +decide only[go_sem]
         . simp +decide only[go_sem]
         . simp only;omega
       . have c1:decide ((i:Int)<l.length)=true:=ac0 A0b;have c1':decide ((s:Int)<1000)=false:=Io A0b;have e:vt (kI f) 1 l=s:=by
          rw[<-hs0];cases l.drop i with
          |nil=>rfl
          |cons c r=>simp only[vt,adq hk]
         simp +decide only[go_sem,eq,c1,c1',e]
     . have c1:decide ((i:Int)<l.length)=false:=Io A0b;have e:vt (kI f) 1 l=s:=by rw[<-hs0,List.drop_of_length_le A0b];rfl
       simp +decide only[go_sem,eq,c1,e]
   . simp only[agH];simp only[pY] at hlg;simp +decide only[go_sem,d0,show((1000:Nat):Int)=1000 from rfl]
     repeat' first
      |simp +decide only[go_sem,d0,show((1000:Nat):Int)=1000 from rfl, *]
      |refine tT (fun _=>?_) (fun _=>?_)
      |refine tU (fun _=>?_) (fun _=>?_)
      |refine tS (fun _=>?_) (fun _=>?_)
      |refine vZ (fun _=>?_) (fun _=>?_)
      |refine wv (fun _=>?_) (fun _=>?_)
      |refine AR (fun _=>?_) (fun _=>?_)
     all_goals (exfalso;simp only[*,Bool.or_self,afS,adI] at hlg)
noncomputable def Sw:U->Option V:=FE dS fun nd=>some (.bool (decide (((kI 101 nd:Nat):Int)<=400)))
theorem OT(nd:Nd):Sw [ar nd]=some (.bool (decide (((kI 101 nd:Nat):Int)<=400))):=ca ke _ nd
theorem J7(nd:Nd):FE oz oA [ar nd,.i 0]=some (.i (kI 101 nd:Nat)):=(ca sK _ (nd,0)).trans (xm A0b)
theorem OU:cg 12 Sw:=by refine aE (E:=aI [(26,(FE oz oA))]) (k:=1) (aU _ ⟨J6,trivial⟩) A0a func12 rfl (fun a w=>call12 a w) ntmps12 A0a A0c A0c ?_;intro us r hF hdat;obtain⟨nd,hus,hG⟩:=bh hF;subst hus;have hF:=hG;cases hF;have e1:=J7 nd;simp only[dS];obtain⟨k,op,nm,vk,vn,vs,cs,cc,cr,ts,tc,tr,l,nl,sz,hh,hl,hf,hs⟩:=cJ nd;generalize kI 101 nd=rn at*;rw[hf] at e1⊢;refine⟨rfl,?_⟩;simp +decide only[go_sem,e1]
