/- MQ -/
import Derived.Test.YtiepfeebmnfbdaaGreatMD
namespace Go.Proofs.YtiepfeebmnfbdaaGreat
noncomputable section
open Tryz
set_option linter.unusedSimpArgs false
set_option maxHeartbeats 16000000
set_option maxRecDepth 100000
open Go Go.RowKit
attribute [go_sem] results31 results32 results44 results46 results47 results48
theorem Wq{P:Prop}(h:P:=by obtain⟨j,h1,h2⟩:=o5 (c:=c) (L.map fun p=>p.1) 0 (show je c (L.map fun p=>p.1)=true from h);have h3:=Ej h2 hL;rw[adi] at h1;simp only[fu,adB,ksI,h1,h3];rfl):P:=h
theorem Wp{P:Prop}(h:P:=by have c1:decide ((i:Int)<l.length)=false:=Io A0b;have e:l.take i=l:=ady A0b;rw[e];simp +decide only[go_sem,eq,c1]):P:=h
theorem Wo{P:Prop}(h:P:=by simp only[fu,adB,ksI,o4 (c:=c) (L.map fun p=>p.1) 0 (show je c (L.map fun p=>p.1)=false from h),Zj,uR h];rfl):P:=h
theorem Wn{P:Prop}(h:P:=by simp +decide only[go_sem]):P:=h
def je(c:C3)(L:List C3):Bool:=L.any fun p=>eE c p
theorem yZ(a b:C3):vp prog 20 33 (aa a) (aa b)=some (eE a b):=by obtain⟨s,c,r⟩:=a;obtain⟨s',c',r'⟩:=b;rw[<-Sy];simp +decide only[go_sem,bw]
theorem fu(a:C3):fg prog 33 (aa a)=true:=by obtain⟨s,c,r⟩:=a;unfold fg;simp +decide [go_sem,bw,plainK,rB,dp]
theorem o4{c:C3}:∀(L:List C3) (i:Nat),je c L=false->iF prog 33 (aa c) (L.map aa) i=some none
 |[],_,_=>rfl
 | p::L,i,h=>by
   have h1:(eE c p||je c L)=false:=h;rw[Bool.or_eq_false_iff] at h1
   show(match vp prog 20 33 (aa c) (aa p) with
    |some true=>some (some i)
    |some false=>iF prog 33 (aa c) (L.map aa) (i+1)
    |none=>none)=_
   rw[yZ,h1.1];exact o4 L (i+1) h1.2
theorem o5{c:C3}:∀(L:List C3) (i:Nat),je c L=true->∃j,iF prog 33 (aa c) (L.map aa) i=some (some (i+j))∧L[j]?=some c
 |[],_,h=>by cases h
 | p::L,i,h=>by
   have h1:(eE c p||je c L)=true:=h
   have e:iF prog 33 (aa c) ((p::L).map aa) i=(match vp prog 20 33 (aa c) (aa p) with
    |some true=>some (some i)
    |some false=>iF prog 33 (aa c) (L.map aa) (i+1)
    |none=>none):=rfl
   rw[e,yZ];cases hq:eE c p with
   |true=>exact⟨0,rfl,by rw[adQ hq];rfl⟩
   |false=>rw[hq] at h1;obtain⟨j,h2,h3⟩:=o5 L (i+1) h1;exact⟨j+1,by show iF _ _ _ _ _=_;rw[h2];congr 2;omega,h3⟩
abbrev CI:=C3×Int
def ksI(L:List CI):U:=(L.map fun p=>p.1).map aa
def vsI(L:List CI):U:=L.map fun p=> .i p.2
def cZ(L:List CI)(c:C3):Bool:=je c (L.map fun p=>p.1)
def dz:List CI->C3->Int
 |[],_=>0
 |p::L,c=>if eE c p.1=true then p.2 else dz L c
def vw(L:List CI):Prop:=(L.map fun p=>p.1).Nodup
def gV(L:List CI)(c:C3)(i:Int):List CI:=if cZ L c=true then L.map (fun p=>if eE c p.1=true then (p.1,i) else p) else L++[(c,i)]
variable{L:List CI}{c:C3}
theorem dO:cZ L c=true↔c∈L.map fun p=>p.1:=by
 unfold cZ je;rw[aeJ];constructor
 . rintro⟨x,hx,e⟩;rw[adQ e];exact hx
 . exact fun h=>⟨c,h,ac0 rfl⟩
theorem uR(h:cZ L c=false):dz L c=0:=by
 induction L with
 |nil=>rfl
 |cons p L ih=>have h1:(eE c p.1||cZ L c)=false:=h;rw[Bool.or_eq_false_iff] at h1;unfold dz;rw[h1.1,adq A0c];exact ih h1.2
theorem Ej{j:Nat}(h:(L.map fun p=>p.1)[j]?=some c)(hn:vw L):(vsI L)[j]?=some (.i (dz L c)):=by
 unfold vw at hn
 induction L generalizing j with
 |nil=>simp at h
 | cons p L ih=>
   rw[adL,adY] at hn;cases j with
   |zero=>simp only[adL,afy,adO] at h;unfold dz;rw[adl (show eE c p.1=true from ac0 h.symm)];rfl
   | succ j=>
     simp only[adL,aeV] at h;have hne: ¬eE c p.1=true:=fun e=>hn.1 (by rw[<-adQ e];exact adg h)
     unfold dz;rw[adq hne];exact ih h hn.2
theorem y4(L:List CI)(c:C3)(i:Int):(L.map fun p=>if eE c p.1=true then (p.1,i) else p).map (fun p=>p.1)=L.map fun p=>p.1:=by rw[aes];refine aeW (fun p _=>?_);simp only[Function.comp];split<;>rfl
theorem PG(h:vw L)(c:C3)(i:Int):vw (gV L c i):=by
 unfold gV;by_cases hp:cZ L c=true
 . rw[adl hp];unfold vw at h⊢;rw[y4];exact h
 . rw[adq hp];unfold vw at h⊢;rw[adK,aeH];refine⟨h,A0k,fun a ha b hb e=>?_⟩;have hb:b=c:=by simpa using hb
   subst hb;exact hp (dO.2 (e▸ha))
theorem Lu{c:C3}{i:Int}:∀{L:List CI} {j:Nat},vw L->(L.map fun p=>p.1)[j]?=some c->(L.map fun p=>if eE c p.1=true then (p.1,i) else p).map (fun p=>V.i p.2)=(vsI L).set j (.i i)
 |[],j,_,h=>by simp at h
 | p::L,0,hn,h=>by
   simp only[adL,afy,adO] at h;have hn:=adY.1 (show(p.1::L.map fun p=>p.1).Nodup from hn);have e:(L.map fun p=>if eE c p.1=true then (p.1,i) else p)=L:=by
    have:∀q∈L,(if eE c q.1=true then (q.1,i) else q)=q:=fun q hq=>by rw[adq];intro e;exact hn.1 (by rw[h,adQ e];exact ads.2 ⟨q,hq,rfl⟩)
    rw[aeW this,List.map_id']
   simp only[adL,vsI,List.set_cons_zero];rw[adl (show eE c p.1=true from ac0 h.symm),e]
 | p::L,j+1,hn,h=>by
   simp only[adL,aeV] at h;have hn:=adY.1 (show(p.1::L.map fun p=>p.1).Nodup from hn);have hne: ¬eE c p.1=true:=fun e=>hn.1 (by rw[<-adQ e];exact adg h)
   simp only[adL,vsI,List.set_cons_succ];rw[adq hne,Lu (L:=L) hn.2 h];rfl
variable{m:V}
theorem Ek(hm:m.kv=some (ksI L,vsI L))(hL:vw L):ia prog 75 m (aa c) false=some (.i (dz L c)):=by
 unfold ia;rw[underlying75,hm];cases h:cZ L c with
 |true=>exact Wq
 |false=>exact Wo
theorem y5(hm:m.kv=some (ksI L,vsI L))(hL:vw L):ia prog 75 m (aa c) true=some (.tup [.i (dz L c),.bool (cZ L c)]):=by
 unfold ia;rw[underlying75,hm];cases h:cZ L c with
 |true=>exact Wq
 |false=>exact Wo
theorem Ym{i:Int}(hL:vw L):ns prog 75 (ksI L) (vsI L) (aa c) (.i i)=some (ksI (gV L c i),vsI (gV L c i)):=by
 unfold ns;rw[underlying75];cases h:cZ L c with
 | true=>
   obtain⟨j,h1,h2⟩:=o5 (c:=c) (L.map fun p=>p.1) 0 (show je c (L.map fun p=>p.1)=true from h);rw[adi] at h1;have h3:((L.map fun p=>p.1).map aa)[j]?=some (aa c):=by rw[ac9,h2];rfl
   have e:gV L c i=L.map (fun p=>if eE c p.1=true then (p.1,i) else p):=adl h;simp only[fu,ksI,h1,h3];rw[adl ⟨trivial,rfl⟩,adl trivial,e,y4];unfold vsI;rw[Lu hL h2];rfl
 |false=>have e:gV L c i=L++[(c,i)]:=adq (by rw[h];decide);simp only[ksI,fu,o4 (c:=c) (L.map fun p=>p.1) 0 (show je c (L.map fun p=>p.1)=false from h)];rw[adl ⟨trivial,rfl⟩,e];simp[vsI]
def lA:Nat->List En->List CI->List CI
 |_,[],M=>M
 |k,e::l,M=>lA (k+1) l (gV M e.1 k)
theorem fv:∀(k:Nat) (l:List En) (M:List CI) (e:En),lA k (l++[e]) M=gV (lA k l M) e.1 ((k+l.length:Nat):Int)
 |_,[],_,_=>rfl
 |k,a::l,M,e=>by show lA (k+1) (l++[e]) _=_;rw[fv (k+1) l _ e];show _=gV (lA (k+1) l _) e.1 _;congr 2;rw[adm];omega
theorem y6:∀(l:List En) (k:Nat) (M:List CI),vw M->vw (lA k l M)
 |[],_,_,h=>h
 |_::l,k,_,h=>y6 l (k+1) _ (PG h _ _)
def am(l:List En):List CI:=lA 0 l []
theorem kQ(l:List En):vw (am l):=y6 l 0 [] ad3
variable{l:List En}
theorem Lw:ksI (am (List.take 0 l))=[]:=rfl
theorem Lx:vsI (am (List.take 0 l))=[]:=rfl
theorem y7(e:En):∃M:U,cj e= .agg (.x (.string e.1.1):: .i e.1.2.1:: .i e.1.2.2:: .bool e.2.1::M)∧M.length=16∧M.take 16=M∧M.all V.cell=true:=by refine⟨_,rfl,rfl,rfl,?_⟩;obtain⟨c,b,n,v⟩:=e;cases n<;>rfl
abbrev EL:=Bool×Nat×List En
def PH(p:EL):V:= .sl p.1 p.2.1 (p.2.2.map cj) none
theorem PJ(p q:EL)(e:PH p=PH q):p=q:=by obtain⟨a,b,c⟩:=p;obtain⟨d,f,g⟩:=q;simp only[PH,V.sl.injEq,aeQ] at e;obtain⟨rfl,rfl,h⟩:=e;rw[bn o3 h]
def Ly(p:EL):Prop:=(p.2.2≠[]->p.2.1=20)∧p.2.2.length<=400
open Classical in
def Cu:U->Option (U×U):=fun us=>if h:∃p:EL,us=[PH p]∧Ly p then some (ksI (am h.choose.2.2),vsI (am h.choose.2.2)) else none
open Classical in
theorem PK{p:EL}(h:Ly p):Cu [PH p]=some (ksI (am p.2.2),vsI (am p.2.2)):=by have hh:∃q:EL,[PH p]=[PH q]∧Ly q:=⟨p,rfl,h⟩;unfold Cu;rw[dif_pos hh];have e:=PJ _ _ (aeC hh.choose_spec.1).1;rw[<-e]
open Classical in
theorem Lz{us ks vs:U}(h:Cu us=some (ks,vs)):∃p:EL,us=[PH p]∧Ly p∧ks=ksI (am p.2.2)∧vs=vsI (am p.2.2):=by
 unfold Cu at h;split at h
 case isFalse=>cases h
 rename_i hh;cases h;exact⟨hh.choose,hh.choose_spec.1,hh.choose_spec.2,rfl,rfl⟩
theorem Cv:I9 42 Cu:=by
 refine wy (E:=bV [] [] [] (fun _=>false) (fun _=>false)) (k:=1) (bF _ _ _ _ _ trivial trivial trivial) A0a func42 rfl (fun a w=>call42 a w) ntmps42 results42 A0a A0c A0c ?_;intro us ks rs hF hdat;obtain⟨⟨nl,sz,l⟩,hus,hok,hks,hrs⟩:=Lz hF;subst hus hks hrs;obtain⟨hsz,hlen⟩:=hok;simp only at hsz hlen;refine⟨rfl,?_⟩;simp only[PH];simp +decide only[go_sem,eq];refine aT (X:={i:Nat//i<=l.length}) (fun i=>[(7,.sl nl sz (l.map cj) none),(8,.i l.length),(9,.i i.1),(3,.mp 6 (ksI (am (l.take i.1))) (vsI (am (l.take i.1))))]) (fun _=>[]) (fun i=>l.length-i.1) ⟨0,adN _⟩ (by simp +decide only[go_sem,adt,Lw,Lx]<;>(repeat' first|rfl|constructor)) A0e (fun⟨i,hi0⟩=>?_);simp only at hi0⊢;by_cases hi:i<l.length
 . have c1:decide ((i:Int)<l.length)=true:=ac0 A0b;have c2:(0:Int)<=(i:Int):=A0b
   have c4:=ax (i:=i) A0b;have q1:l[i]?=some l[i]:=io hi;have q2:(l.map cj)[(i:Int).toNat]?=some (cj l[i]):=by rw[tl,ac9,q1];rfl
   obtain rfl:=hsz (fun h=>by rw[h] at hi;simp at hi);have hL:=kQ (l.take i);have e:am (l.take (i+1))=gV (am (l.take i)) (l[i]).1 (i:Int):=by unfold am;rw[aF q1,fv,adz,adi,aeZ A0b]
   have k1:=Ym (c:=(l[i]).1) (i:=(i:Int)) hL;rw[<-e] at k1;obtain⟨N,hN,lN,tN,aN⟩:=y7 l[i];rw[hN] at q2;have hcs:aa (l[i]).1= .agg [.x (.string (l[i]).1.1),.i (l[i]).1.2.1,.i (l[i]).1.2.2]:=rfl;rw[hcs] at k1;generalize ksI (am (l.take i))=ks0 at k1⊢;generalize vsI (am (l.take i))=vs0 at k1⊢;generalize hk1:ksI (am (l.take (i+1)))=ks1 at k1⊢;generalize hv1:vsI (am (l.take (i+1)))=vs1 at k1⊢;generalize (l[i]).1.1=ps at k1 q2;generalize (l[i]).1.2.1=pc at k1 q2;generalize (l[i]).1.2.2=pr at k1 q2;simp +decide (maxDischargeDepth:=200) only[go_sem,eq,adm,lN,tN,aN,c1,c2,c4,q2,k1];refine⟨⟨i+1,hi⟩,?_,?_,?_⟩
   . simp +decide (maxDischargeDepth:=200) only[go_sem,hk1,hv1]
   . exact Wn
   . simp only;omega
 . exact Wp
variable{E:Env}
theorem y8{ops:List Oper}{st:St}{K:St->Prop}(ents:List (Nat×Nat×Nat×V))(bs:List (Nat×U))(ps:List (Nat×Nat×Nat))(full:Nat)(hf:2^ops.length-1=full)(h:j3 ops ps=true)(h0:gw st (j6 ents 0)∧gL st bs)(ht:Bc E ops ents bs ps)
 (hk:K (aq (j6 ents full) bs)):Iw E ops st K:=DF ents bs ps h h0 ht (hf▸hk)
theorem PM{L':List CI}(h1:ksI L=ksI L')(h2:vsI L=vsI L'):L=L':=by
 have h3:(L.map fun p=>p.1)=L'.map fun p=>p.1:=bn cF h1
 have h4:(L.map fun p=>p.2)=L'.map fun p=>p.2:=by
  have:(L.map fun p=>p.2).map (fun i=>V.i i)=(L'.map fun p=>p.2).map (fun i=>V.i i):=by rw[aes,aes];exact h2
  refine bn (fun a b e=>?_) this;cases e;rfl
 clear h1 h2
 induction L generalizing L' with
 | nil=>cases L' with
   |nil=>rfl
   |cons _ _=>cases h3
 | cons p L ih=>cases L' with
   |nil=>cases h3
   |cons q L'=>obtain⟨a1,a2⟩:=aeC (show p.1::(L.map fun p=>p.1)=q.1::L'.map fun p=>p.1 from h3);obtain⟨b1,b2⟩:=aeC (show p.2::(L.map fun p=>p.2)=q.2::L'.map fun p=>p.2 from h4);rw[ih a2 b2,Prod.ext a1 b1]
abbrev PL:=V×List CI×V×V
def Te(p:PL):V:= .ip [p.1,.fm (ksI p.2.1) (vsI p.2.1),p.2.2.1,p.2.2.2]
theorem El(p q:PL)(e:Te p=Te q):p=q:=by obtain⟨a,L,b,c⟩:=p;obtain⟨a',L',b',c'⟩:=q;simp only[Te,V.ip.injEq,adW,V.fm.injEq,aeQ] at e;obtain⟨rfl,⟨h1,h2⟩,rfl,rfl⟩:=e;rw[PM h1 h2]
def tb(p:PL×C3):U:=[Te p.1,aa p.2]
theorem G0(p q:PL×C3)(e:tb p=tb q):p=q:=by obtain⟨h1,h2⟩:=aeC e;exact Prod.ext (El _ _ h1) (cF _ _ (aeC h2).1)
open Classical in
def LA(p:PL×C3):Option V:=if vw p.1.2.1 then some (.tup [.i (dz p.1.2.1 p.2),.bool (cZ p.1.2.1 p.2)]) else none
theorem G1:cg 47 (FE tb LA):=by
 refine aE (E:=bV [] [] [] (fun _=>false) (fun i=>i==3)) (k:=2) (bF _ _ _ _ _ trivial trivial trivial) A0a func47 rfl (fun a w=>call47 a w) ntmps47 A0a A0c A0c ?_;intro us r hF hdat;obtain⟨⟨⟨c0,L,x0,y0⟩,ws,wc,wr⟩,hus,hG⟩:=bh hF;subst hus;unfold LA at hG;split at hG
 case isFalse=>cases hG
 rename_i hok;cases hG;refine⟨rfl,?_⟩;have hcx:aa (ws,wc,wr)= .agg [.x (.string ws),.i wc,.i wr]:=rfl;have k1:=y5 (c:=(ws,wc,wr)) (Qw (ksI L) (vsI L)) hok;rw[hcx] at k1;simp only[tb,Te,hcx];generalize ksI L=ks at k1⊢;generalize vsI L=vs at k1⊢;generalize dz L (ws,wc,wr)=z at k1⊢;generalize cZ L (ws,wc,wr)=hb at k1⊢;simp +decide only[go_sem];refine y8 [(0,0,3,.ptr 3 0),(0,0,4,.i 0),(0,0,5,.bool false),(0,0,0,.ip [c0,.fm ks vs,x0,y0]),(1,0,11,.ip [c0,.fm ks vs,x0,y0]),(2,0,12,.ip [c0,.fm ks vs,x0,y0]),(4,0,13,.ip [.fm ks vs,x0,y0]),(8,0,14,.fm ks vs),(16,0,15,.agg [.x (.string ws),.i wc,.i wr]),(32,0,16,.tup [.i z,.bool hb]),(64,0,10,.tup [.i z,.bool hb]),(128,0,17,.i z),(256,0,18,.bool hb),(512,0,6,.i z),(1024,0,7,.bool hb)] [(3,[.x (.string ws),.i wc,.i wr])] [(0,0,1),(0,4,16),(1,1,3),(1,4,17),(16,0,17),(3,2,7),(3,4,19),(17,1,19),(7,3,15),(7,4,23),(19,2,23),(15,4,31),(23,3,31),(31,5,63),(63,6,127),(127,7,255),(127,8,383),(255,8,511),(255,9,767),(383,7,511),(511,9,1023),(767,8,1023),(1023,10,2047)] 2047 A0a A0a ?_ ?_ ?_
 . exact Wn
 . simp +decide only[go_sem,k1]
 . exact Wn
abbrev PR:=Bool×Nat×List C3
def Yn(p:PR):V:= .sl p.1 p.2.1 (p.2.2.map aa) none
theorem PN(p q:PR)(e:Yn p=Yn q):p=q:=by obtain⟨a,b,c⟩:=p;obtain⟨d,f,g⟩:=q;simp only[Yn,V.sl.injEq,aeQ] at e;obtain⟨rfl,rfl,h⟩:=e;rw[bn cF h]
def mY(p:PL×PR):U:=[Te p.1,Yn p.2]
theorem G3(p q:PL×PR)(e:mY p=mY q):p=q:=by obtain⟨h1,h2⟩:=aeC e;exact Prod.ext (El _ _ h1) (PN _ _ (aeC h2).1)
def iL(L:List CI)(l:List C3):U:=(l.filter fun c=>cZ L c).map fun c=> .i (dz L c)
open Classical in
def G4(p:PL×PR):Option V:=if vw p.1.2.1∧(p.2.2.2≠[]->p.2.2.1=3)∧p.2.2.2.length<=1000000 then some (.sl (iL p.1.2.1 p.2.2.2).isEmpty 1 (iL p.1.2.1 p.2.2.2) none) else none
theorem LB(L:List CI)(l:List C3)(c:C3):iL L (l++[c])=iL L l++(if cZ L c=true then [.i (dz L c)] else []):=by
 unfold iL;rw[afW,adK];congr 1;by_cases h:cZ L c=true
 . simp[h]
 . simp[h]
theorem PO(L:List CI)(l:List C3):(iL L l).length<=l.length:=by unfold iL;rw[eq];exact aey _ _
theorem uS:cg 44 (FE mY G4):=by
 refine aE (E:=bV [] [] [] (fun _=>false) (fun i=>i==5)) (k:=2) (bF _ _ _ _ _ trivial trivial trivial) A0a func44 rfl (fun a w=>call44 a w) ntmps44 A0a A0c A0c ?_;intro us r hF hdat;obtain⟨⟨⟨c0,L,x0,y0⟩,nl,sz,l⟩,hus,hG⟩:=bh hF;subst hus;unfold G4 at hG;split at hG
 case isFalse=>cases hG
 rename_i hok;cases hG;refine⟨rfl,?_⟩;obtain⟨hok,hsz,hlen⟩:=hok;simp only at hok hsz hlen;simp only[mY,Te,Yn];simp +decide only[go_sem,eq];refine j7 5 1 99 (by simp only[go_sem];rfl) ?_;refine aT (X:={p:Nat×Nat//p.1<=l.length}) (fun p=>[(0,.ip [c0,.fm (ksI L) (vsI L),x0,y0]),(10,.sl nl sz (l.map aa) none),(11,.i l.length),(12,.i p.1.1),(5,.sl (iL L (l.take p.1.1)).isEmpty 1 (iL L (l.take p.1.1)) (some p.1.2))]) (fun _=>[]) (fun p=>l.length-p.1.1) ⟨(0,99),adN _⟩ A0y A0e (fun⟨⟨i,tk⟩,hi0⟩=>?_);simp only at hi0⊢;by_cases hi:i<l.length
 . have c1:decide ((i:Int)<l.length)=true:=ac0 A0b;have c2:(0:Int)<=(i:Int):=A0b
   have c4:=ax (i:=i) A0b;have q1:l[i]?=some l[i]:=io hi;have q2:(l.map aa)[(i:Int).toNat]?=some (aa l[i]):=cY q1;obtain rfl:=hsz (fun h=>by rw[h] at hi;simp at hi);have e3:iL L (l.take (i+1))=iL L (l.take i)++(if cZ L l[i]=true then [V.i (dz L l[i])] else []):=by rw[aF q1,LB]
   have k1:=y5 (c:=l[i]) (Qw (ksI L) (vsI L)) hok;have hal:(iL L (l.take i)).length<=1000000:=adJ (PO _ _) A0K;generalize iL L (l.take i)=al at e3 hal⊢;have hcx:aa l[i]= .agg [.x (.string (l[i]).1),.i (l[i]).2.1,.i (l[i]).2.2]:=rfl;rw[hcx] at k1 q2;generalize ksI L=ks at k1⊢;generalize vsI L=vs at k1⊢;generalize dz L l[i]=z at k1 e3;generalize cZ L l[i]=hb at k1 e3;generalize (l[i]).1=ps at k1 q2;generalize (l[i]).2.1=pc at k1 q2;generalize (l[i]).2.2=pr at k1 q2;simp +decide (maxDischargeDepth:=200) only[go_sem,eq,adm,c1,c2,c4,q2];refine y8 [(0,0,0,.ip [c0,.fm ks vs,x0,y0]),(0,0,10,.sl nl 3 (l.map aa) none),(0,0,11,.i l.length),(0,0,12,.i i),(0,0,5,.sl al.isEmpty 1 al (some tk)),(0,0,7,.ptr 7 0),(1,0,17,.ip [c0,.fm ks vs,x0,y0]),(2,0,18,.ip [c0,.fm ks vs,x0,y0]),(4,0,19,.ip [.fm ks vs,x0,y0]),(8,0,20,.fm ks vs),(16,0,21,.agg [.x (.string ps),.i pc,.i pr]),(32,0,22,.tup [.i z,.bool hb]),(64,0,16,.tup [.i z,.bool hb]),(128,0,23,.i z),(256,0,24,.bool hb),(512,0,8,.i z),(1024,0,9,.bool hb)] [(7,[.x (.string ps),.i pc,.i pr])] [(0,0,1),(0,4,16),(1,1,3),(1,4,17),(16,0,17),(3,2,7),(3,4,19),(17,1,19),(7,3,15),(7,4,23),(19,2,23),(15,4,31),(23,3,31),(31,5,63),(63,6,127),(127,7,255),(127,8,383),(255,8,511),(255,9,767),(383,7,511),(511,9,1023),(767,8,1023),(1023,10,2047)] 2047 A0a A0a ?_ ?_ ?_
   . exact Wn
   . simp +decide only[go_sem,k1]
   . cases hb with
     | true=>
       rw[adl rfl] at e3;have g1:=db (E:=bV [] [] [] (fun _=>false) (fun i=>i==5)) (el:=3) (n:=1) Rj TK TL A0c rfl (es:=al) (v:= .i z) rfl A0b A0b;simp +decide only[go_sem,eq,c1,c2,c4,g1];refine⟨⟨(i+1,29),hi⟩,?_,?_,?_⟩
       . simp +decide only[go_sem,e3]
       . exact Wn
       . simp only;omega
     | false=>
       rw[adq A0c,aep] at e3;simp +decide only[go_sem,eq,c1,c2,c4];refine⟨⟨(i+1,tk),hi⟩,?_,?_,?_⟩
       . simp +decide only[go_sem,e3]
       . exact Wn
       . simp only;omega
 . exact Wp
def zC:U:=[.x (.string ⟨#[]⟩),.i 0,.i 0]
abbrev aw(i:Int):V:= .i i
def di(C:List C3)(i:Int):C3:=(C[i.toNat]?).getD (⟨#[]⟩,0,0)
def HY(L:List C3)(i:Nat):U:=((L.take i).map aa).flatMap V.cells++(List.replicate (L.length-i) zC).flatten
theorem Cw(c:C3):(aa c).cells.length=3:=rfl
theorem tf(L:List C3):((L.map aa).flatMap V.cells).length=L.length*3:=by
 induction L with
 |nil=>rfl
 |cons c L ih=>rw[adL,aeg,adh,ih,Cw,adm];omega
theorem G5(k:Nat):(List.replicate k zC).flatten.length=k*3:=by
 induction k with
 |zero=>rfl
 |succ k ih=>rw[List.replicate_succ,List.flatten_cons,adh,ih];show 3+_=_;omega
theorem ac3(L:List C3):HY L 0=(List.replicate L.length zC).flatten:=rfl
theorem Tf(L:List C3){i:Nat}(hi:i<=L.length):(HY L i).length=L.length*3:=by unfold HY;rw[adh,tf,G5,adz,aeZ hi];omega
theorem Tg{L:List C3}{i:Nat}(h:L[i]?=some c):(HY L i).take (i*3)++[.x (.string c.1),.i c.2.1,.i c.2.2]++(HY L i).drop (i*3+(1+1+1))=HY L (i+1):=by
 have hi:i<L.length:=(iO.1 h).1;have hl:(((L.take i).map aa).flatMap V.cells).length=i*3:=by rw[tf,adz,aeZ A0b]
 obtain⟨k,hk⟩:∃k,L.length-i=k+1:=⟨L.length-i-1,A0b⟩;have hk2:L.length-(i+1)=k:=A0b
 unfold HY;rw[hk,hk2,ael A0b,ady A0b,aF h,adK,List.flatMap_append,aef,aef];congr 1;rw[List.drop_append,List.drop_of_length_le A0b,hl,aex,List.replicate_succ,List.flatten_cons];congr 1;have e:i*3+(1+1+1)-i*3=3:=A0b
 rw[e];rfl
theorem PP(L:List C3):HY L L.length=(L.map aa).flatMap V.cells:=by unfold HY;rw[ady (adp _),agv];simp
theorem Th(L:List C3):((L.map aa).flatMap V.cells).all V.dat=true∧((L.map aa).flatMap V.cells).all V.cell=true:=by
 induction L with
 |nil=>exact⟨rfl,rfl⟩
 |cons c L ih=>rw[adL,aeg,List.all_append,List.all_append,ih.1,ih.2];exact⟨rfl,rfl⟩
theorem PQ(L:List C3):tK 3 L.length ((L.map aa).flatMap V.cells)=L.map aa:=by
 rw[sh]
 induction L with
 |nil=>rfl
 |cons c L ih=>rw[adL,aeg,adm];unfold eU;rw[adq A0c];have h1:((aa c).cells++(L.map aa).flatMap V.cells).take 3=(aa c).cells:=List.take_left' (Cw c);have h2:((aa c).cells++(L.map aa).flatMap V.cells).drop 3=(L.map aa).flatMap V.cells:=List.drop_left' (Cw c);rw[h1,h2,ih];rfl
theorem uT(a b:Int)(e:aw a=aw b):a=b:=by cases e;rfl
abbrev CA:=(List C3×V×V×V)×Bool×Nat×List Int
def qO(p:CA):U:=[.ip [.l 3 (p.1.1.map aa),p.1.2.1,p.1.2.2.1,p.1.2.2.2],.sl p.2.1 p.2.2.1 (p.2.2.2.map aw) none]
theorem G6(p q:CA)(e:qO p=qO q):p=q:=by obtain⟨⟨a,b,c,d⟩,f,g,h⟩:=p;obtain⟨⟨a',b',c',d'⟩,f',g',h'⟩:=q;simp only[qO,adW,V.ip.injEq,V.sl.injEq,aeQ,afK] at e;obtain⟨⟨h1,rfl,rfl,rfl⟩,rfl,rfl,h2⟩:=e;rw[bn cF h1,bn uT h2]
def ac4(p:CA):Prop:=(p.2.2.2≠[]->p.2.2.1=1)∧p.2.2.2.length<=100000000∧∀i∈p.2.2.2,0<=i∧i.toNat<p.1.1.length
open Classical in
def Yo(p:CA):Option V:=if ac4 p then some (.sl false 3 ((p.2.2.2.map (di p.1.1)).map aa) none) else none
theorem y9:cg 48 (FE qO Yo):=by
 refine aE (E:=gK [] [] [] (fun d=>d==10) (fun _=>false) (fun d=>d==29) (fun _=>false)) (k:=2) (DD _ _ _ _ _ _ _ trivial trivial trivial) A0a func48 rfl (fun a w=>call48 a w) ntmps48 A0a A0c A0c ?_;intro us r hF hdat;obtain⟨⟨⟨C,m0,x0,y0⟩,nl,sz,is⟩,hus,hG⟩:=bh hF;subst hus;unfold Yo at hG;split at hG
 case isFalse=>cases hG
 rename_i hok;cases hG;refine⟨rfl,?_⟩;obtain⟨hsz,hlen,hin⟩:=hok;simp only at hsz hlen hin;simp only[qO];obtain⟨L,hL⟩:∃L,L=is.map (di C):=⟨_,rfl⟩;have hll:is.length=L.length:=by rw[hL,eq]
 rw[<-hL];have b0:(List.replicate L.length [V.x (.string ⟨#[]⟩),V.i 0,V.i 0]).flatten=HY L 0:=(ac3 L).symm;have c0:(0:Int)<=(L.length:Int):=A0b
 have c5:(16*2:Int)*(L.length:Int)<=281474976710656:=A0b
 have c6:(L.length:Int)<=9223372036854775807:=A0b
 have c7:((32:Nat):Int)*(L.length:Int)<=281474976710656:=A0b
 simp +decide (maxDischargeDepth:=200) only[go_sem,Nat.reduceBEq,tl,eq,hll,c0,c6,c7,b0];refine aT (X:={i:Nat//i<=L.length}) (fun i=>[(0,.ip [.l 3 (C.map aa),m0,x0,y0]),(5,.row 10 3 L.length),(11,.sl nl sz (is.map aw) none),(12,.i L.length),(13,.i i.1)]) (fun i=>[(10,HY L i.1)]) (fun i=>L.length-i.1) ⟨0,adN _⟩ A0y A0e (fun⟨i,hi0⟩=>?_);simp only at hi0⊢;by_cases hi:i<L.length
 . have c1:decide ((i:Int)<L.length)=true:=ac0 A0b;have c1':(i:Int)<L.length:=A0b
   have c2:(0:Int)<=(i:Int):=A0b
   have c4:=ax (i:=i) A0b;have hi2:i<is.length:=A0b
   have q1:is[i]?=some is[i]:=io hi2;have q2:(is.map aw)[i]?=some (aw is[i]):=by rw[ac9,q1];rfl
   obtain rfl:=hsz (fun h=>by rw[h] at hi2;simp at hi2);obtain⟨p1,p2⟩:=hin is[i] (adR hi2);have q3:L[i]?=some (di C is[i]):=by rw[hL,ac9,q1];rfl
   have q4:(C.map aa)[(is[i]).toNat]?=some (aa (di C is[i])):=by unfold di;rw[ac9,io p2];rfl
   have b1:=Tg q3;have b2:i*3+(1+1+1)<=(HY L i).length:=by rw[Tf L A0b];omega
   generalize is[i]=j at q2 q4 b1 p1;generalize di C j=c at q4 b1;obtain⟨cs,cc,cr⟩:=c;simp only[bw] at q4 b1;simp +decide only[go_sem,Nat.reduceBEq,tl,eq,c1,c1',c2,c4,q2,q4,p1,b1,b2];refine⟨⟨i+1,hi⟩,?_,?_,?_⟩
   . simp +decide only[go_sem,Nat.reduceBEq,tl]
   . simp +decide only[go_sem,Nat.reduceBEq,tl]
   . simp only;omega
 . have c1:decide ((i:Int)<L.length)=false:=Io A0b;have e:i=L.length:=A0b
   subst e;obtain⟨d1,d2⟩:=Th L;have d3:=PQ L;have d4:=PP L;simp +decide only[go_sem,Nat.reduceBEq,tl,eq,c1,d4,d1,d2,d3]
abbrev PD:=List C3×List (List Int)×List (List Int)
def Yp(r:List Int):Nat:=if r.isEmpty then 0 else 1
def rI(r:List Int):V:= .sl r.isEmpty (Yp r) (r.map aw) none
def plI:Nat->List C3->List CI
 |_,[]=>[]
 |k,c::C=>(c,((k:Nat):Int))::plI (k+1) C
def za(p:PD):V:= .ip [.l 3 (p.1.map aa),.fm (ksI (plI 0 p.1)) (vsI (plI 0 p.1)),.l 1 (p.2.1.map rI),.l 1 (p.2.2.map rI)]
theorem uU(a b:List Int)(e:rI a=rI b):a=b:=by simp only[rI,V.sl.injEq,aeQ] at e;exact bn uT e.2.2
theorem Em(p q:PD)(e:za p=za q):p=q:=by obtain⟨a,b,c⟩:=p;obtain⟨a',b',c'⟩:=q;simp only[za,V.ip.injEq,adW,V.sl.injEq,aeQ,afK] at e;obtain⟨h1,_,h2,h3⟩:=e;rw[bn cF h1,bn uU h2,bn uU h3]
theorem o6:∀(C:List C3) (k:Nat),(plI k C).map (fun p=>p.1)=C
 |[],_=>rfl
 |c::C,k=>by show c::(plI (k+1) C).map _=_;rw[o6 C (k+1)]
variable{C:List C3}
theorem uV(h:C.Nodup)(k:Nat):vw (plI k C):=by unfold vw;rw[o6];exact h
theorem o7(C:List C3)(k:Nat)(c:C3):cZ (plI k C) c=je c C:=by unfold cZ;rw[o6]
theorem tg:∀{C:List C3} {c:C3} {i k:Nat},C.Nodup->C[i]?=some c->dz (plI k C) c=((k+i:Nat):Int)
 |[],c,i,k,_,h=>by simp at h
 |d::C,c,0,k,hn,h=>by simp only[afy,adO] at h;unfold plI dz;rw[adl (show eE c (d,((k:Nat):Int)).1=true from ac0 h.symm),aeq]
 |d::C,c,i+1,k,hn,h=>by simp only[aeV] at h;have hn:=adY.1 hn;unfold plI dz;rw[adq (show¬eE c (d,((k:Nat):Int)).1=true from fun e=>hn.1 (by rw[<-show c=d from adQ e];exact adg h)),tg (k:=k+1) hn.2 h];congr 1;omega
def G7(p:PD):Prop:=p.1.Nodup∧p.1.length<=400∧p.2.1.length=p.1.length∧p.2.2.length=p.1.length∧(∀r∈p.2.1,r.length<=100000000∧∀i∈r,0<=i∧i.toNat<p.1.length)∧∀r∈p.2.2,r.length<=100000000∧∀i∈r,0<=i∧i.toNat<p.1.length
def oF(p:PD):U:=[za p]
theorem G8(p q:PD)(e:oF p=oF q):p=q:=Em _ _ (aeC e).1
def oG(p:PD×C3):U:=[za p.1,aa p.2]
theorem G9(p q:PD×C3)(e:oG p=oG q):p=q:=by obtain⟨h1,h2⟩:=aeC e;exact Prod.ext (Em _ _ h1) (cF _ _ (aeC h2).1)
def PS(C:List C3)(R:List (List Int))(c:C3):V:=if je c C=true then .sl false 3 ((((R[(dz (plI 0 C) c).toNat]?).getD []).map (di C)).map aa) none else .sl true 0 [] none
open Classical in
def Yq(p:PD×C3):Option V:=if G7 p.1 then some (PS p.1.1 p.1.2.1 p.2) else none
open Classical in
def Yr(p:PD):Option V:=if G7 p then some (.l 3 (p.1.map aa)) else none
theorem LC{p:PD}(h:G7 p)(c:C3):FE tb LA [za p,aa c]=some (.tup [.i (dz (plI 0 p.1) c),.bool (je c p.1)]):=by have e:=ca G0 LA ((.l 3 (p.1.map aa),plI 0 p.1,.l 1 (p.2.1.map rI),.l 1 (p.2.2.map rI)),c);rw[<-o7 p.1 0 c];exact e.trans (adl (uV h.1 0))
theorem uW(h:je c C=true):∃i:Nat,C[i]?=some c:=by unfold je at h;obtain⟨x,hx,e⟩:=aeJ.1 h;obtain⟨i,hi⟩:=aen hx;exact⟨i,by rw[hi,adQ e]⟩
theorem Ti{x y:V}{r:List Int}(h1:r.length<=100000000)(h2:∀i∈r,0<=i∧i.toNat<C.length):FE qO Yo [.ip [.l 3 (C.map aa),m,x,y],rI r]=some (.sl false 3 ((r.map (di C)).map aa) none):=by
 have e:=ca G6 Yo ((C,m,x,y),r.isEmpty,Yp r,r);refine e.trans (adl ⟨fun hn=>?_,h1,h2⟩);unfold Yp;cases r with
 |nil=>exact absurd rfl hn
 |cons a r=>rfl
theorem Cx:cg 32 (FE oG Yq):=by
 refine aE (E:=aI [(47,FE tb LA),(48,FE qO Yo)]) (k:=2) (aU _ ⟨G1,y9,trivial⟩) A0a func32 rfl (fun a w=>call32 a w) ntmps32 A0a A0c A0c ?_;intro us r hF hdat;obtain⟨⟨⟨C,R,S⟩,ws,wc,wr⟩,hus,hG⟩:=bh hF;subst hus;unfold Yq at hG;split at hG
 case isFalse=>cases hG
 rename_i hok;cases hG;refine⟨rfl,?_⟩;have k1:=LC hok (ws,wc,wr);obtain⟨hn,h4,hR,hS,hrr,hss⟩:=hok;simp only at hn h4 hR hS hrr hss k1;have hcx:aa (ws,wc,wr)= .agg [.x (.string ws),.i wc,.i wr]:=rfl;simp only[oG,PS];rw[hcx] at k1⊢;cases hb:je (ws,wc,wr) C with
 |false=>rw[hb] at k1;rw[adq A0c];simp only[za] at k1⊢;simp +decide only[go_sem,tl,k1]
 | true=>
   rw[hb] at k1;rw[adl rfl];obtain⟨i,hi⟩:=uW hb;have hz:=tg (k:=0) hn hi;rw[adi] at hz;rw[hz] at k1⊢;have hil:=(iO.1 hi).1;have hi2:i<R.length:=A0b
   have q1:R[i]?=some R[i]:=io hi2;have q2:(R.map rI)[i]?=some (rI R[i]):=by rw[ac9,q1];rfl
   obtain⟨r1,r2⟩:=hrr R[i] (adR hi2);have c2:(0:Int)<=(i:Int):=A0b
   have k2:=Ti (m:= .fm (ksI (plI 0 C)) (vsI (plI 0 C))) (x:= .l 1 (R.map rI)) (y:= .l 1 (S.map rI)) r1 r2;rw[tl,q1,aeI];generalize R[i]=r at q2 k2⊢;simp only[za] at k1⊢;simp only[rI] at k2 q2;simp +decide only[go_sem,tl,k1,c2,q2,k2]
theorem Eo{el n by':Nat}{z:U}(h1:bo E.P el=some n)(hby:bY E.P el=some by')(hz:aB E.P el=some z)(h4:n≠0)(h5:z.length=n)
 {es es':U} {m:Nat} (hm:es'≠[]->m=n) (hc:(es'.all fun u=>u.cells.all V.cell)=true) (hb:(es.length+es'.length)*by'<=140737488355328) (hl:es.length+es'.length<=9223372036854775807) (st:St) (d tok:Nat) (nl:Bool) (t':Option Nat):
 bt E st (some d) el (.sl false n es (some tok)) (.sl nl m es' t')=some ⟨upd (strip tok (strip d st.t)) d (.sl false n (es++es') (some d)),aG E tok (aG E d st.b)⟩:=by
 unfold bt;simp only[h1,hby,hz];rw[adl ⟨h4,h5,trivial,by
  by_cases h:es'=[]
  . exact .inr h
  . exact .inl (hm h),hc,hb,hl⟩]
theorem zb(C:List C3):((C.map aa).all fun u=>u.cells.all V.cell)=true:=adr.2 fun u hu=>by obtain⟨c,_,rfl⟩:=ads.1 hu;rfl
def qP(C:List C3):U:=[.l 3 (C.map aa)]
theorem Ha(p q:List C3)(e:qP p=qP q):p=q:=by simp only[qP,adW,V.sl.injEq,aeQ,afK] at e;exact bn cF e
open Classical in
def Ys(C:List C3):Option V:=if C.length<=1000000 then some (.l 3 (C.map aa)) else none
theorem Cy:cg 46 (FE qP Ys):=by
 refine aE (E:=bV [] [] [] (fun d=>d==5) (fun _=>false)) (k:=1) (bF _ _ _ _ _ trivial trivial trivial) A0a func46 rfl (fun a w=>call46 a w) ntmps46 A0a A0c A0c ?_;intro us r hF hdat;obtain⟨C,hus,hG⟩:=bh hF;subst hus;unfold Ys at hG;split at hG
 case isFalse=>cases hG
 rename_i hok;cases hG;refine⟨rfl,?_⟩;simp only[qP];have gg:=Eo (E:=bV [] [] [] (fun d=>d==5) (fun _=>false)) (el:=33) (n:=3) mH mI mJ A0c rfl (es:=[]) (es':=C.map aa) (m:=3) (fun _=>rfl) (zb C) (by simp only[eq,adT];omega) (by simp only[eq,adT];omega);simp only[aex] at gg;simp +decide only[go_sem,gg]
theorem Cz:cg 31 (FE oF Yr):=by
 refine aE (E:=aI [(46,FE qP Ys)]) (k:=1) (aU _ ⟨Cy,trivial⟩) A0a func31 rfl (fun a w=>call31 a w) ntmps31 A0a A0c A0c ?_;intro us r hF hdat;obtain⟨⟨C,R,S⟩,hus,hG⟩:=bh hF;subst hus;unfold Yr at hG;split at hG
 case isFalse=>cases hG
 rename_i hok;cases hG;refine⟨rfl,?_⟩;obtain⟨_,h4,_⟩:=hok;simp only at h4;have k1:FE qP Ys [.l 3 (C.map aa)]=some (.l 3 (C.map aa)):=(ca Ha Ys C).trans (adl A0b);simp only[oF,za];simp +decide only[go_sem,k1]
