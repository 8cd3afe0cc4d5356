/- MG -/
import Derived.Test.YtiepfeebmnfbdaaGreatMI
import Derived.Test.YtiepfeebmnfbdaaGreatMR
import Derived.Sort.Walk0
namespace Go.Proofs.YtiepfeebmnfbdaaGreat
open Tryz
set_option linter.unusedSimpArgs false
set_option maxHeartbeats 16000000
set_option maxRecDepth 100000
open Go Go.RowKit
attribute [go_sem] results74
theorem Xp{P:Prop}(h:P:=by clear h1 a w1;intro a w1 h1;refine dl hE hm (hA _) [(0,.x (.func (.yield l) #[] #[])),(3,.row 48 1 (kk+1)),(26,.sl en 13 (lv.map ar) none),(27,.i lv.length),(28,.i i)] [(48,B2++[.sl nl' sz' (l'.map ar) none])] A0a h1 A01 ?_;clear h1 a w1;intro a w1 h1;refine hLI a w1 _ hnext h1 A0s A0a (fun a3 w3 h3=>h3)):P:=h
theorem Xo{P:Prop}(h:P:=by rw[hq] at hcc;refine dl hE hm (hA pre1) [(0,.x (.func (.yield l) #[] #[])),(3,.row 48 1 (kk+1)),(26,.sl en 13 (lv.map ar) none),(27,.i lv.length),(28,.i i)] [(48,B2++[.sl nl' sz' (l'.map ar) none])] A0a h1 A0S ?_;clear h1 a w1;intro a w1 h1;refine hLI a w1 pre1 (hno hq) h1 A0s A0a (fun a3 w3 h3=>h3)):P:=h
theorem Xn{P:Prop}(h:P:=by clear h1 a w1;intro a w1 h1;refine fZ hE (hX _) 5 2 [(43,.bool true)] [] [] A0c A0a h1 A0d ?_;clear h1 a w1;intro a w1 h1;refine DI hE hm (hX _) [] [] A0a h1 A0d ?_;clear h1 a w1;intro a w1 h1;exact⟨.inr rfl,.inr ⟨_,_,h1⟩⟩):P:=h
theorem Xm{P:Prop}(h:P:=by simp +decide (maxDischargeDepth:=200) only[go_sem,aex,eR,ha,ho,hq,ae1]):P:=h
theorem Xl{P:Prop}(h:P:=by have ha:=cU ho;simp +decide (maxDischargeDepth:=200) only[go_sem,aex,eR,ha,ho,afI]):P:=h
abbrev R2:=C3×C3
def rgV(q:R2):V:= .agg [.x (.string q.1.1),.i q.1.2.1,.i q.1.2.2,.x (.string q.2.1),.i q.2.2.1,.i q.2.2.2]
def rg(h:Hd):R2:=if h.k=2 then ((h.cs,h.cc,h.cr),(h.cs,h.cc,h.cr)) else if h.k=3 then ((h.cs,h.cc,h.cr),(h.ts,h.tc,h.tr)) else ((⟨#[]⟩,0,0),(⟨#[]⟩,0,0))
def qg(q:R2):Bool:=lV q.1.1 q.1.2.1 q.1.2.2 q.2.1 q.2.2.1 q.2.2.2&&decide (cE q.1.2.1 q.1.2.2 q.2.2.1 q.2.2.2<=400)
def dE(nd:Nd):Option V:=some (.tup [rgV (rg nd.hd),.bool (qg (rg nd.hd))])
theorem qh:lV ⟨#[]⟩ 0 0 ⟨#[]⟩ 0 0=false:=A0c
theorem xt:cg 74 (FE dS dE):=by
 refine aE (E:=aI [(75,eR)]) (k:=1) (aU _ ⟨xd,trivial⟩) A0a func74 rfl (fun a w=>call74 a w) ntmps74 A0a A0c A0c ?_;intro us r hF hdat;obtain⟨nd,hus,hG⟩:=bh hF;subst hus;have hF:=hG;cases hF;simp only[dS];obtain⟨k,op,nm,vk,vn,vs,cs,cc,cr,ts,tc,tr,l,nl,sz,hh,hl,hf,hs⟩:=cJ nd;rw[hf,hh];refine⟨rfl,?_⟩;simp only[rgV,qg];by_cases h2:k=2
 . subst h2;have e:rg ⟨2,op,nm,vk,vn,vs,cs,cc,cr,ts,tc,tr⟩=((cs,cc,cr),(cs,cc,cr)):=rfl;simp only[e];cases ho:lV cs cc cr cs cc cr
   . exact Xl
   . have ha:=gy ho;cases hq:decide (cE cc cr cc cr<=400)
     . exact Xm
     . exact Xm
 . have d2:=Io h2;by_cases h3:k=3
   . subst h3;have e:rg ⟨3,op,nm,vk,vn,vs,cs,cc,cr,ts,tc,tr⟩=((cs,cc,cr),(ts,tc,tr)):=rfl;simp only[e];cases ho:lV cs cc cr ts tc tr
     . exact Xl
     . have ha:=gy ho;cases hq:decide (cE cc cr tc tr<=400)
       . exact Xm
       . exact Xm
   . have d3:=Io h3;have e:rg ⟨k,op,nm,vk,vn,vs,cs,cc,cr,ts,tc,tr⟩=((⟨#[]⟩,0,0),(⟨#[]⟩,0,0)):=by unfold rg;rw[adq h2,adq h3]
     have ha:=cU qh;simp only[e];simp +decide (maxDischargeDepth:=200) only[go_sem,eR,ha,qh,d2,d3,afI]
def f8(h:Hd):List R2:=if qg (rg h)=true then [rg h] else []
mutual
def allN:Nd->List R2
 | .leaf h=>f8 h
 | .mk h l=>f8 h++allL l
def allL:List Nd->List R2
 |[]=>[]
 |n::l=>allN n++allL l
end
theorem oU(a:Nd):allN a=f8 a.hd++allL a.ks:=by cases a<;>simp only[allN,allL,Nd.hd,Nd.ks,aep]
abbrev Lv:=Bool×Nat×List Nd
def HV(e:Lv):V:= .sl e.1 e.2.1 (e.2.2.map ar) none
def lvC:List Lv->Nat
 |[]=>0
 |e::r=>cntL e.2.2+lvC r
structure OutI (nd:Nd) (pre:List U) (r:List Lv):Prop where
 ok:∀e∈r,e.2.2≠[]->e.2.1=13
 small:2*lvC r+r.length<=801
 sub:∀e∈r,∀q∈allL e.2.2,q∈allN nd
 full:∀q∈allN nd,[rgV q]∈pre∨∃e∈r,q∈allL e.2.2
 come:∀x∈pre,∃q∈allN nd,x=[rgV q]
structure InI (nd:Nd) (lv:List Nd) (M:Nat) (pre:List U) (r:List Lv) (i:Nat):Prop where
 ok:∀e∈r,e.2.2≠[]->e.2.1=13
 small:2*lvC r+r.length+2*cntL (lv.drop i)+i+1<=M
 sub:∀e∈r,∀q∈allL e.2.2,q∈allN nd
 subL:∀q∈allL lv,q∈allN nd
 full:∀q∈allN nd,[rgV q]∈pre∨(∃e∈r,q∈allL e.2.2)∨q∈allL (lv.drop i)
 come:∀x∈pre,∃q∈allN nd,x=[rgV q]
def Sz(nd:Nd)(pre:List U):Prop:=∀x∈pre,∃q∈allN nd,x=[rgV q]
def Kc(nd:Nd)(xs:List U):Prop:=Sz nd xs∧∀q∈allN nd,[rgV q]∈xs
theorem Kd{l:List Nd}{n:Nd}(h:n∈l){q:R2}(hq:q∈allN n):q∈allL l:=by
 induction l with
 |nil=>cases h
 | cons a l ih=>
   rw[allL,adv];rcases adA.1 h with rfl|h
   . exact .inl hq
   . exact .inr (ih h)
variable{nd:Nd}{pre:List U}
theorem OutI.into{e:Lv}{r:List Lv}(h:OutI nd pre (e::r)):InI nd e.2.2 (2*lvC (e::r)+(e::r).length) pre r 0:=
 ⟨fun x hx=>h.ok x (adE _ hx),by simp only[lvC,agr,adm];omega,fun x hx=>h.sub x (adE _ hx),h.sub e (adP ..),fun q hq=>by
  rcases h.full q hq with h1|⟨x,hx,h1⟩
  . exact .inl h1
  . rcases adA.1 hx with rfl|hx
    . exact .inr (.inr h1)
    . exact .inr (.inl ⟨x,hx,h1⟩),h.come⟩
theorem OY{l:List Nd}{i:Nat}{c:Nd}(h:l[i]?=some c):l.drop i=c::l.drop (i+1):=by obtain⟨hi,rfl⟩:=iO.1 h;exact afl hi
variable{lv:List Nd}{M:Nat}
theorem InI.next{r:List Lv}{i:Nat}(h:InI nd lv M pre r i){c:Nd}(hc:lv[i]?=some c){nl:Bool}{sz:Nat}{l:List Nd}(hl:c.ks=l)(hs:l≠[]->sz=13):
 (qg (rg c.hd)=false->InI nd lv M pre ((nl,sz,l)::r) (i+1))∧(qg (rg c.hd)=true->InI nd lv M (pre++[[rgV (rg c.hd)]]) ((nl,sz,l)::r) (i+1)∧rg c.hd∈allN nd):=by
 have hd:=OY hc;have hm:c∈lv:=adg hc;have hsmall:2*lvC ((nl,sz,l)::r)+((nl,sz,l)::r).length+2*cntL (lv.drop (i+1))+(i+1)+1<=M:=by have h1:=h.small;have h2:=nE c;rw[hd] at h1;rw[hl] at h2;simp only[lvC,adm,cntL] at h1⊢;omega
 have hself:∀q∈allN c,q∈f8 c.hd∨q∈allL l:=fun q hq=>by rw[oU,adv,hl] at hq;exact hq
 have hin:∀q∈allN c,q∈allN nd:=fun q hq=>h.subL q (Kd hm hq)
 have hok:∀e∈(nl,sz,l)::r,e.2.2≠[]->e.2.1=13:=fun e he=>by
  rcases adA.1 he with rfl|he
  . exact hs
  . exact h.ok e he
 have hsub:∀e∈(nl,sz,l)::r,∀q∈allL e.2.2,q∈allN nd:=fun e he q hq=>by
  rcases adA.1 he with rfl|he
  . exact hin q (by rw[oU,adv,hl];exact .inr hq)
  . exact h.sub e he q hq
 refine⟨fun hq=>⟨hok,hsmall,hsub,h.subL,fun q hq1=>?_,h.come⟩,fun hq=>⟨⟨hok,hsmall,hsub,h.subL,fun q hq1=>?_,fun x hx=>?_⟩,?_⟩⟩
 . rcases h.full q hq1 with h1|⟨e,he,h1⟩|h1
   . exact .inl h1
   . exact .inr (.inl ⟨e,adE _ he,h1⟩)
   . rw[hd,allL,adv] at h1;rcases h1 with h1|h1
     . rcases hself q h1 with h2|h2
       . simp[f8,hq] at h2
       . exact .inr (.inl ⟨_,adP ..,h2⟩)
     . exact .inr (.inr h1)
 . rcases h.full q hq1 with h1|⟨e,he,h1⟩|h1
   . exact .inl (ad2 _ h1)
   . exact .inr (.inl ⟨e,adE _ he,h1⟩)
   . rw[hd,allL,adv] at h1;rcases h1 with h1|h1
     . rcases hself q h1 with h2|h2
       . simp only[f8,hq,adB,adj] at h2;subst h2;exact .inl A0k
       . exact .inr (.inl ⟨_,adP ..,h2⟩)
     . exact .inr (.inr h1)
 . rcases adv.1 hx with hx|hx
   . exact h.come x hx
   . obtain rfl:=adj.1 hx;exact⟨_,hin _ (by rw[oU,adv];left;simp[f8,hq]),rfl⟩
 . exact hin _ (by rw[oU,adv];left;simp[f8,hq])
theorem InI.out{r:List Lv}(h:InI nd lv M pre r lv.length)(hM:M<=801):OutI nd pre r∧2*lvC r+r.length<M:=by
 have h1:=h.small;refine⟨⟨h.ok,A0b,h.sub,fun q hq=>?_,h.come⟩,A0b⟩;rcases h.full q hq with h1|h1|h1
 . exact .inl h1
 . exact .inr h1
 . rw[List.drop_length] at h1;cases h1
theorem SA(e:Lv)(r:List Lv)(G:U):(e::r).reverse.map HV++G=r.reverse.map HV++HV e::G:=A0k
theorem Ke(r:List Lv):(r.reverse.map HV).length=r.length:=A0k
noncomputable def X0:Env:=dv [(74,FE dS dE)] (fun d=>d==12)
theorem Kf:EnvOK X0:=ug _ _ ⟨xt,trivial⟩
theorem xu(nd:Nd)(h400:lw nd<=400){m:Lim}{w:World}{lb:Array Value}{cs0:U}(hnd:ar nd= .agg cs0)(hr:RdL m w lb.toList [.ip cs0]):j9 (aI []) (fun _=>False) 73 lb (Sz nd) (Kc nd) m w:=by
 refine un (E:=dv [(74,FE dS dE)] (fun d=>d==12)) (n:=50) (us:=[.ip cs0]) func73 rfl ntmps73 results73 A0k A0c hr rfl (fun g=> .undef _) ?_;intro l A Ax a0 O hA hX hy h0 _;have hE:EnvOK (dv [(74,FE dS dE)] (fun d=>d==12)):=Kf;have hm:(dv [(74,FE dS dE)] (fun d=>d==12)).P.follows .mixedOrders=true:=A0a
 obtain⟨k,op,nm,vk,vn,vs,cs,cc,cr,ts,tc,tr,ll,nl,sz,hh,hl,hf,hs⟩:=cJ nd;obtain rfl:[.i k,.x (.string op),.x (.string nm),.i vk,.i vn,.x (.string vs),.x (.string cs),.i cc,.i cr,.x (.string ts),.i tc,.i tr,.sl nl sz (ll.map ar) none]=cs0:=V.agg.inj (hf.symm.trans hnd);refine wpIn_seq (dl hE hm (hA []) [(0,.x (.func (.yield l) #[] #[])),(3,.row 12 1 1)] [(12,[.sl false 13 [ar nd] none])] A0a h0 (by rw[hf];simp +decide (maxDischargeDepth:=200) only[go_sem,Nat.reduceBEq]<;>(repeat' first|rfl|constructor)) ?_);intro a1 w1 h1;refine wpIn_block ?_;refine cI (X:=List Lv×U×Nat×List U) (fun x a' w'=>(x.2.2.1=12∨x.2.2.1=48)∧OutI nd x.2.2.2 x.1∧Two (dv [(74,FE dS dE)] (fun d=>d==12)) 50 O m w (A x.2.2.2) (aq [(0,.x (.func (.yield l) #[] #[])),(3,.row x.2.2.1 1 x.1.length)] [(x.2.2.1,x.1.reverse.map HV++x.2.1)]) a' w') (fun x=>2*lvC x.1+x.1.length) ([(false,13,[nd])],[],12,[]) ⟨.inl rfl,⟨fun e he=>?_,?_,fun e he=>?_,fun q hq=>?_,fun x hx=>by cases hx⟩,?_⟩ ?_
 . simp at he;subst he;intro _;rfl
 . simp[lvC,cntL];omega
 . simp at he;subst he;intro q hq;simpa[allL] using hq
 . right;exact⟨_,adj.2 rfl,by simpa[allL] using hq⟩
 . exact h1
 rintro⟨r,G,nm0,pre⟩ a w1 ⟨hnm,hI,h1⟩;simp only at hnm hI h1;refine wpIn_seq ?_;cases r with
 |nil=>refine DH hE hm (hA pre) 0 [] [] A0a h1 (by simp +decide only[go_sem,Nat.reduceBEq,adT,show decide ((0:Int)<((0:Nat):Int))=false from rfl]<;>(repeat' first|rfl|constructor)) ?_;intro a' w' h2;exact⟨.inl rfl,.inl ⟨pre,_,⟨hI.come,fun q hq=>by rcases hI.full q hq with h|⟨e,he,_⟩;exact h;cases he⟩,h2⟩⟩
 | cons e r=>
   obtain⟨en,ez,lv⟩:=e;have hB:=Ke r;have hsm:=hI.small;have hin:=hI.into;have hez:=hI.ok (en,ez,lv) (adP ..);simp only at hez;obtain⟨mm,hmm⟩:∃mm,mm=r.length:=⟨_,rfl⟩;have f0:((en,ez,lv)::r).length=mm+1:=by rw[adm,hmm]
   rw[SA,f0] at h1;rw[f0] at hin hsm;generalize hBe:r.reverse.map HV=B at hB h1;rw[<-hmm] at hB;simp only[HV] at h1;obtain⟨M,hM⟩:∃M,M=2*lvC ((en,ez,lv)::r)+(mm+1):=⟨_,rfl⟩;rw[<-hM] at hin hsm;have f1:decide ((0:Int)<((mm+1:Nat):Int))=true:=ac0 A0b;have f2:az .i64 (((mm+1:Nat):Int)-1)=(mm:Int):=by rw[ak A0j];omega
   have f3:(0:Int)<=(mm:Int):=A0b
   have f4:(mm:Int)<((mm+1:Nat):Int):=A0b
   have f4':(mm:Int)<=((mm+1:Nat):Int):=A0b
   have f5:Int.toNat (mm:Int)=mm:=rfl;have f6:=OH (A:=B) (G:=G) (x:= .sl en ez (lv.map ar) none) hB;refine dl hE hm (hA pre) [(0,.x (.func (.yield l) #[] #[])),(3,.row nm0 1 (mm+1))] [(nm0,B++ .sl en ez (lv.map ar) none::G)] A0a h1 (by simp +decide only[go_sem,Nat.reduceBEq,f1]<;>(repeat' first|rfl|constructor)) ?_;intro a w1 h1;refine wpIn_block ?_;refine wpIn_seq (dl hE hm (hA pre) [(0,.x (.func (.yield l) #[] #[])),(3,.row nm0 1 (mm+1)),(4,.i mm)] [(nm0,B++ .sl en ez (lv.map ar) none::G)] A0a h1 (by simp +decide only[go_sem,Nat.reduceBEq,f2]<;>(repeat' first|rfl|constructor)) ?_);intro a w1 h1;refine wpIn_seq (dl hE hm (hA pre) [(0,.x (.func (.yield l) #[] #[])),(3,.row nm0 1 (mm+1)),(4,.i mm),(5,.sl en ez (lv.map ar) none)] [(nm0,B++ .sl en ez (lv.map ar) none::G)] A0a h1 (by simp +decide only[go_sem,Nat.reduceBEq,f3,f4,f5,f6,adx]<;>(repeat' first|rfl|constructor)) ?_);intro a w1 h1;refine wpIn_seq (dl hE hm (hA pre) [(0,.x (.func (.yield l) #[] #[])),(3,.row nm0 1 mm),(5,.sl en ez (lv.map ar) none)] [(nm0,B++ .sl en ez (lv.map ar) none::G)] A0a h1 (by simp +decide only[go_sem,Nat.reduceBEq,f3,f4',f5]<;>(repeat' first|rfl|constructor)) ?_);intro a w1 h1;refine wpIn_seq (dl hE hm (hA pre) [(0,.x (.func (.yield l) #[] #[])),(3,.row nm0 1 mm),(26,.sl en ez (lv.map ar) none),(27,.i lv.length),(28,.i (0:Nat))] [(nm0,B++ .sl en ez (lv.map ar) none::G)] A0a h1 (by simp +decide only[go_sem,Nat.reduceBEq,eq]<;>(repeat' first|rfl|constructor)) ?_);intro a w1 h1;refine wpIn_block ?_;refine cI (X:=Nat×List Lv×U×Nat×List U) (fun x a' w'=>(x.2.2.2.1=12∨x.2.2.2.1=48)∧InI nd lv M x.2.2.2.2 x.2.1 x.1∧x.1<=lv.length∧Two (dv [(74,FE dS dE)] (fun d=>d==12)) 50 O m w (A x.2.2.2.2) (aq [(0,.x (.func (.yield l) #[] #[])),(3,.row x.2.2.2.1 1 x.2.1.length),(26,.sl en ez (lv.map ar) none),(27,.i lv.length),(28,.i x.1)] [(x.2.2.2.1,x.2.1.reverse.map HV++x.2.2.1)]) a' w') (fun x=>lv.length-x.1) (0,r,.sl en ez (lv.map ar) none::G,nm0,pre) ⟨hnm,hin,adN _,?_⟩ ?_
   . simp only[hBe,<-hmm];exact h1
   rintro⟨i,rr,G2,nm1,pre1⟩ a w1 ⟨hnm1,hI1,hi0,h1⟩;simp only at hnm1 hI1 hi0 h1;have hsm1:=hI1.small;have hB2:=Ke rr;obtain⟨kk,hkk⟩:∃kk,kk=rr.length:=⟨_,rfl⟩;rw[<-hkk] at h1 hsm1 hB2;generalize hBe2:rr.reverse.map HV=B2 at hB2 h1;by_cases hi:i<lv.length
   . obtain rfl:=hez (by intro e;rw[e] at hi;simp at hi);obtain⟨c,hc1,hc2⟩:=lW hi;have c1:decide ((i:Int)<lv.length)=true:=ac0 A0b;have c2:(0:Int)<=(i:Int):=A0b
     have c4:=ax (i:=i) A0b;obtain⟨k',op',nm',vk',vn',vs',cs',cc',cr',ts',tc',tr',l',nl',sz',hh',hl',hf',hs'⟩:=cJ c;have hcc:FE dS dE [ar c]=some (.tup [rgV (rg c.hd),.bool (qg (rg c.hd))]):=ca ke _ c;rw[hf'] at hc2 hcc;obtain⟨hno,hyes⟩:=hI1.next hc1 (nl:=nl') (sz:=sz') hl' hs';have hpush:((nl',sz',l')::rr).reverse.map HV=B2++[.sl nl' sz' (l'.map ar) none]:=by rw[<-hBe2];simp[HV]
     have hk1:((nl',sz',l')::rr).length=kk+1:=by rw[adm,hkk]
     have d5:=JQ (A:=B2) (G:=G2) hB2
     have hLI:∀(a2:Act) (w2:World) (pre2:List U),InI nd lv M pre2 ((nl',sz',l')::rr) (i+1)->Two (dv [(74,FE dS dE)] (fun d=>d==12)) 50 O m w (A pre2) (aq [(0,.x (.func (.yield l) #[] #[])),(3,.row 48 1 (kk+1)),(26,.sl en 13 (lv.map ar) none),(27,.i lv.length),(28,.i i)] [(48,B2++[.sl nl' sz' (l'.map ar) none])]) a2 w2->∀{ops:List Oper} {Q:Exit->Act->World->Prop} {id:Nat},run (dv [(74,FE dS dE)] (fun d=>d==12)) (.region id ⟨ops⟩ false) (aq [(0,.x (.func (.yield l) #[] #[])),(3,.row 48 1 (kk+1)),(26,.sl en 13 (lv.map ar) none),(27,.i lv.length),(28,.i i)] [(48,B2++[.sl nl' sz' (l'.map ar) none])]) (pN [(0,.x (.func (.yield l) #[] #[])),(3,.row 48 1 (kk+1)),(26,.sl en 13 (lv.map ar) none),(27,.i lv.length),(28,.i (i+1:Nat))] [(48,B2++[.sl nl' sz' (l'.map ar) none])])->
      be (dv [(74,FE dS dE)] (fun d=>d==12)).any 50 (.region id ⟨ops⟩ false)=true->(∀a3 w3,(∃x':Nat×List Lv×U×Nat×List U,((x'.2.2.2.1=12∨x'.2.2.2.1=48)∧InI nd lv M x'.2.2.2.2 x'.2.1 x'.1∧x'.1<=lv.length∧Two (dv [(74,FE dS dE)] (fun d=>d==12)) 50 O m w (A x'.2.2.2.2) (aq [(0,.x (.func (.yield l) #[] #[])),(3,.row x'.2.2.2.1 1 x'.2.1.length),(26,.sl en 13 (lv.map ar) none),(27,.i lv.length),(28,.i x'.1)] [(x'.2.2.2.1,x'.2.1.reverse.map HV++x'.2.2.1)]) a3 w3)∧lv.length-x'.1<lv.length-i)->Q .normal a3 w3)->(Code.region id ⟨ops⟩ false).wpIn (bg none) 0 (dv [(74,FE dS dE)] (fun d=>d==12)).P Q a2 w2:=by
      intro a2 w2 pre2 hin2 ht ops Q id hrun hok hQ;refine dl hE hm (hA pre2) _ _ hok ht hrun ?_;intro a3 w3 h3;refine hQ a3 w3 ⟨(i+1,(nl',sz',l')::rr,[],48,pre2),⟨.inr rfl,hin2,hi,?_⟩,?_⟩
      . rw[hpush,hk1,aep];exact h3
      . simp only;omega
     refine wpIn_seq (dl hE hm (hA pre1) [(0,.x (.func (.yield l) #[] #[])),(3,.row nm1 1 kk),(26,.sl en 13 (lv.map ar) none),(27,.i lv.length),(28,.i i),(29,.bool true)] [(nm1,B2++G2)] A0a h1 A0z ?_);intro a w1 h1;refine wpIn_seq (dl hE hm (hA pre1) [(0,.x (.func (.yield l) #[] #[])),(3,.row nm1 1 kk),(26,.sl en 13 (lv.map ar) none),(27,.i lv.length),(28,.i i)] [(nm1,B2++G2)] A0a h1 A0d ?_);intro a w1 h1;refine wpIn_seq (wpIn_block ?_);rcases hnm1 with rfl|rfl
     . have g1:∀(st:St) (d s:Nat) (nl:Bool) (t':Option Nat),(dv [(74,FE dS dE)] (fun d=>d==12)).MB d=false->bt (dv [(74,FE dS dE)] (fun d=>d==12)) st (some d) 39 (.row s 1 kk) (.sl nl 1 [.sl nl' sz' (l'.map ar) none] t')=match st.b s with
        |some cs=>some ⟨upd (kill s (kill d st.t)) d (.row d 1 (kk+1)),upd (upd st.b s none) d (some (cs.take (kk*1)++[.sl nl' sz' (l'.map ar) none]))⟩
        |none=>none:=fun st d s nl t' h=>nB (E:=dv [(74,FE dS dE)] (fun d=>d==12)) Rk Rl Rm A0c rfl rfl A0b A0b st d s nl t' h
       have g2:=fun st d s nl t'=>g1 st d s nl t' rfl
       refine wpIn_seq (dl hE hm (hA pre1) [(0,.x (.func (.yield l) #[] #[])),(3,.row 12 1 kk),(26,.sl en 13 (lv.map ar) none),(27,.i lv.length),(28,.i i),(7,.ptr 7 0)] [(12,B2++G2),(7,[.i k',.x (.string op'),.x (.string nm'),.i vk',.i vn',.x (.string vs'),.x (.string cs'),.i cc',.i cr',.x (.string ts'),.i tc',.i tr',.sl nl' sz' (l'.map ar) none])] A0a h1 A0X ?_);intro a w1 h1;cases hq:qg (rg c.hd) with
       |false=>exact Xo
       | true=>
         rw[hq] at hcc;obtain⟨hnext,hmem⟩:=hyes hq;have hokp:Sz nd (pre1++[[rgV (rg c.hd)]]):=hnext.come;refine wpIn_seq (wpIn_seq (dl hE hm (hA pre1) [(0,.x (.func (.yield l) #[] #[])),(3,.row 12 1 kk),(26,.sl en 13 (lv.map ar) none),(27,.i lv.length),(28,.i i),(7,.ptr 7 0),(8,.ptr 8 0),(9,.bool true)] [(12,B2++G2),(7,[.i k',.x (.string op'),.x (.string nm'),.i vk',.i vn',.x (.string vs'),.x (.string cs'),.i cc',.i cr',.x (.string ts'),.i tc',.i tr',.sl nl' sz' (l'.map ar) none]),(8,[.x (.string (rg c.hd).1.1),.i (rg c.hd).1.2.1,.i (rg c.hd).1.2.2,.x (.string (rg c.hd).2.1),.i (rg c.hd).2.2.1,.i (rg c.hd).2.2.2])] A0a h1 A03 ?_));intro a w1 h1;refine wpIn_seq (wpIn_region ?_);refine fZ hE (hA pre1) 0 4 [(0,.x (.func (.yield l) #[] #[])),(3,.row 12 1 kk),(26,.sl en 13 (lv.map ar) none),(27,.i lv.length),(28,.i i),(7,.ptr 7 0),(37,.bool true),(38,.bool true),(39,.x (.func (.yield l) #[] #[])),(40,rgV (rg c.hd))] [(12,B2++G2),(7,[.i k',.x (.string op'),.x (.string nm'),.i vk',.i vn',.x (.string vs'),.x (.string cs'),.i cc',.i cr',.x (.string ts'),.i tc',.i tr',.sl nl' sz' (l'.map ar) none])] [4,5,6] A0c A0a h1 A07 ?_;intro a w1 h1;rw[wpOpsIn_cons];refine nC (n:=50) (A1:=A (pre1++[[rgV (rg c.hd)]])) (Ax:=Ax (pre1++[[rgV (rg c.hd)]])) (l:=l) rfl (d:=41) rfl A0c rfl rfl rfl h1 (u:=rgV (rg c.hd)) rfl (by rw[rgV,dY];rfl) (fun O1 m1 w2 vs ha hv=>hy pre1 _ O1 m1 w2 vs hokp ha (by rw[rgV,dY] at hv;exact hv) rfl) ?_ ?_
         . intro a w1 h1;refine fZ hE (hA _) 5 2 [(0,.x (.func (.yield l) #[] #[])),(3,.row 12 1 kk),(26,.sl en 13 (lv.map ar) none),(27,.i lv.length),(28,.i i),(7,.ptr 7 0),(43,.bool false)] [(12,B2++G2),(7,[.i k',.x (.string op'),.x (.string nm'),.i vk',.i vn',.x (.string vs'),.x (.string cs'),.i cc',.i cr',.x (.string ts'),.i tc',.i tr',.sl nl' sz' (l'.map ar) none])] [] A0c A0a h1 A0d ?_;intro a w1 h1;refine dl hE hm (hA _) [(0,.x (.func (.yield l) #[] #[])),(3,.row 12 1 kk),(26,.sl en 13 (lv.map ar) none),(27,.i lv.length),(28,.i i),(7,.ptr 7 0)] [(12,B2++G2),(7,[.i k',.x (.string op'),.x (.string nm'),.i vk',.i vn',.x (.string vs'),.x (.string cs'),.i cc',.i cr',.x (.string ts'),.i tc',.i tr',.sl nl' sz' (l'.map ar) none])] A0a h1 A0d ?_;exact Xp
         . exact Xn
     . have g1:∀(st:St) (d s:Nat) (nl:Bool) (t':Option Nat),(dv [(74,FE dS dE)] (fun d=>d==12)).MB d=false->bt (dv [(74,FE dS dE)] (fun d=>d==12)) st (some d) 39 (.row s 1 kk) (.sl nl 1 [.sl nl' sz' (l'.map ar) none] t')=match st.b s with
        |some cs=>some ⟨upd (kill s (kill d st.t)) d (.row d 1 (kk+1)),upd (upd st.b s none) d (some (cs.take (kk*1)++[.sl nl' sz' (l'.map ar) none]))⟩
        |none=>none:=fun st d s nl t' h=>nB (E:=dv [(74,FE dS dE)] (fun d=>d==12)) Rk Rl Rm A0c rfl rfl A0b A0b st d s nl t' h
       have g2:=fun st d s nl t'=>g1 st d s nl t' rfl
       refine wpIn_seq (dl hE hm (hA pre1) [(0,.x (.func (.yield l) #[] #[])),(3,.row 48 1 kk),(26,.sl en 13 (lv.map ar) none),(27,.i lv.length),(28,.i i),(7,.ptr 7 0)] [(48,B2++G2),(7,[.i k',.x (.string op'),.x (.string nm'),.i vk',.i vn',.x (.string vs'),.x (.string cs'),.i cc',.i cr',.x (.string ts'),.i tc',.i tr',.sl nl' sz' (l'.map ar) none])] A0a h1 A0X ?_);intro a w1 h1;cases hq:qg (rg c.hd) with
       |false=>exact Xo
       | true=>
         rw[hq] at hcc;obtain⟨hnext,hmem⟩:=hyes hq;have hokp:Sz nd (pre1++[[rgV (rg c.hd)]]):=hnext.come;refine wpIn_seq (wpIn_seq (dl hE hm (hA pre1) [(0,.x (.func (.yield l) #[] #[])),(3,.row 48 1 kk),(26,.sl en 13 (lv.map ar) none),(27,.i lv.length),(28,.i i),(7,.ptr 7 0),(8,.ptr 8 0),(9,.bool true)] [(48,B2++G2),(7,[.i k',.x (.string op'),.x (.string nm'),.i vk',.i vn',.x (.string vs'),.x (.string cs'),.i cc',.i cr',.x (.string ts'),.i tc',.i tr',.sl nl' sz' (l'.map ar) none]),(8,[.x (.string (rg c.hd).1.1),.i (rg c.hd).1.2.1,.i (rg c.hd).1.2.2,.x (.string (rg c.hd).2.1),.i (rg c.hd).2.2.1,.i (rg c.hd).2.2.2])] A0a h1 A03 ?_));intro a w1 h1;refine wpIn_seq (wpIn_region ?_);refine fZ hE (hA pre1) 0 4 [(0,.x (.func (.yield l) #[] #[])),(3,.row 48 1 kk),(26,.sl en 13 (lv.map ar) none),(27,.i lv.length),(28,.i i),(7,.ptr 7 0),(37,.bool true),(38,.bool true),(39,.x (.func (.yield l) #[] #[])),(40,rgV (rg c.hd))] [(48,B2++G2),(7,[.i k',.x (.string op'),.x (.string nm'),.i vk',.i vn',.x (.string vs'),.x (.string cs'),.i cc',.i cr',.x (.string ts'),.i tc',.i tr',.sl nl' sz' (l'.map ar) none])] [4,5,6] A0c A0a h1 A07 ?_;intro a w1 h1;rw[wpOpsIn_cons];refine nC (n:=50) (A1:=A (pre1++[[rgV (rg c.hd)]])) (Ax:=Ax (pre1++[[rgV (rg c.hd)]])) (l:=l) rfl (d:=41) rfl A0c rfl rfl rfl h1 (u:=rgV (rg c.hd)) rfl (by rw[rgV,dY];rfl) (fun O1 m1 w2 vs ha hv=>hy pre1 _ O1 m1 w2 vs hokp ha (by rw[rgV,dY] at hv;exact hv) rfl) ?_ ?_
         . intro a w1 h1;refine fZ hE (hA _) 5 2 [(0,.x (.func (.yield l) #[] #[])),(3,.row 48 1 kk),(26,.sl en 13 (lv.map ar) none),(27,.i lv.length),(28,.i i),(7,.ptr 7 0),(43,.bool false)] [(48,B2++G2),(7,[.i k',.x (.string op'),.x (.string nm'),.i vk',.i vn',.x (.string vs'),.x (.string cs'),.i cc',.i cr',.x (.string ts'),.i tc',.i tr',.sl nl' sz' (l'.map ar) none])] [] A0c A0a h1 A0d ?_;intro a w1 h1;refine dl hE hm (hA _) [(0,.x (.func (.yield l) #[] #[])),(3,.row 48 1 kk),(26,.sl en 13 (lv.map ar) none),(27,.i lv.length),(28,.i i),(7,.ptr 7 0)] [(48,B2++G2),(7,[.i k',.x (.string op'),.x (.string nm'),.i vk',.i vn',.x (.string vs'),.x (.string cs'),.i cc',.i cr',.x (.string ts'),.i tc',.i tr',.sl nl' sz' (l'.map ar) none])] A0a h1 A0d ?_;exact Xp
         . exact Xn
   . have c1:decide ((i:Int)<lv.length)=false:=Io A0b;obtain rfl:i=lv.length:=A0b
     refine wpIn_seq (dl hE hm (hA pre1) [(0,.x (.func (.yield l) #[] #[])),(3,.row nm1 1 kk),(29,.bool false)] [(nm1,B2++G2)] A0a h1 A0z ?_);intro a w1 h1;refine wpIn_seq (DH hE hm (hA pre1) 2 [(0,.x (.func (.yield l) #[] #[])),(3,.row nm1 1 kk)] [(nm1,B2++G2)] A0a h1 A0d ?_);intro a w1 h1;obtain⟨ho1,ho2⟩:=hI1.out hsm;refine⟨(rr,G2,nm1,pre1),⟨hnm1,ho1,?_⟩,?_⟩
     . simp only[hBe2,<-hkk];exact h1
     . simp only[f0];rw[<-hM];exact ho2
theorem xv(cs:Array Value)(w:World):Calls prog 59 #[.agg cs] w fun e w'=>e= .returned (.func (.func 73) #[] #[.pointer (some ⟨w.heap.size,0,none⟩)])∧w'=w.alloc (.cells cs 41):=by
 go_enter func59,ntmps59
 go_wp2
 go_ret
 exact⟨rfl,rfl⟩
variable{m:Lim}{w:World}
theorem Bv{v:Value}{cs0:U}{ty:TypeId}(hr:Rd m w v (.agg cs0)):Step (fun _=>False) m w (upd m w.heap.size none) (w.alloc (.cells v.cells ty))∧Rd (upd m w.heap.size none) (w.alloc (.cells v.cells ty)) (.pointer (some ⟨w.heap.size,0,none⟩)) (.ip cs0):=by
 have hs:Step (fun _=>False) m w (upd m w.heap.size none) (w.alloc (.cells v.cells ty)):=Step.of_below ((Below.refl _ w).alloc (adp _) _) (fun k hk=>ah _ _ (aer hk));obtain⟨cs,rfl,hl⟩:=Rd.agg_iff.1 hr;have hlen:=hl.length;refine⟨hs,.ip _ 0 cs0 (fun k=>(Value.agg cs).cells.getD k undef) A0k (fun k hk=>?_) (fun fr hf=>by rw[aj] at hf;cases hf) (fun k d hd=>?_)⟩
 . have hh:(w.alloc (.cells (Value.agg cs).cells ty)).heap[w.heap.size]?=some (.cells (Value.agg cs).cells ty (0,0)):=World.heap_new w _;rw[Box.cell hh];have:k<(Value.agg cs).cells.size:=by show k<cs.size;simp at hlen;omega
   rw[adi,adG this,adC,adG this];rfl
 . have hlt:k<cs.size:=by have:=(iO.1 hd).1;simp at hlen;omega
   have e:(Value.agg cs).cells.getD k undef=cs[k]:=by show cs.getD k undef=_;rw[adC,adG hlt];rfl
   rw[e];exact(hl.get k cs[k] d A0k hd).mono hs.ext
theorem eM{E:Env}{n:Nat}{D:List Deferred}{O:Nat->Prop}{st:St}{a:Act}(h:Now E n D O m st a w)(i:Nat){u:V}(hi:st.t i=u)(hu:u.dat=true):Rd m w (a.tmps.getD i undef) u:=by obtain⟨b,β,hr⟩:=h.rel;exact(hi▸hr.tmps i:Rs m w β _ u).dat hu
def HW(c:C3)(q:R2):Bool:=Y6 q.1.1 q.1.2.1 q.1.2.2 q.2.1 q.2.2.1 q.2.2.2 c.1 c.2.1 c.2.2
theorem kM(p q:C3)(e:aa p=aa q):p=q:=by obtain⟨a,b,c⟩:=p;obtain⟨a',b',c'⟩:=q;simp only[aa,V.agg.injEq,adW,V.x.injEq,Value.string.injEq,Value.int.injEq,afK,aeQ] at e;obtain⟨rfl,rfl,rfl⟩:=e;rfl
theorem Kg(x y:List UInt8):Op.bytesLess x y=decide (x<y):=by
 induction x generalizing y with
 |nil=>cases y<;>simp[Op.bytesLess]
 | cons a x ih=>
   cases y with
   |nil=>simp[Op.bytesLess]
   |cons b y=>simp[Op.bytesLess,ih,List.cons_lt_cons_iff,Bool.decide_or,agD,Bool.beq_eq_decide_eq]
variable{a b:List UInt8}
theorem Gr{c:List UInt8}(h:Op.bytesLess a b=true)(k:Op.bytesLess b c=true):Op.bytesLess a c=true:=by rw[Kg] at*;exact ac0 (List.lt_trans (adQ h) (adQ k))
theorem OZ(h:Op.bytesLess a b=false)(k:Op.bytesLess b a=false):a=b:=by rw[Kg] at*;exact List.le_antisymm (aff k) (aff h)
theorem O0{a b:ByteArray}(h:a.toList=b.toList):a=b:=by rw[Lib.toList_data,Lib.toList_data] at h;exact ByteArray.ext (aed.1 h)
structure Tot {α:Type} (lt:α->α->Bool):Prop where
 irr:∀a,lt a a=false
 trans:∀a b c,lt a b=true->lt b c=true->lt a c=true
 tri:∀a b,lt a b=false->lt b a=false->a=b
theorem bQ:Tot ae:=by
 refine⟨?_,?_,?_⟩
 . rintro⟨s,c,r⟩;simp[ae,eF]
 . rintro⟨s,c,r⟩ ⟨s',c',r'⟩ ⟨s2,c2,r2⟩ h k;simp only[ae,eF] at*;by_cases e1:s=s'
   . subst e1;rw[adl rfl] at h;by_cases e2:s=s2
     . subst e2;rw[adl rfl] at k⊢;by_cases f1:r=r'
       . subst f1;rw[adl rfl] at h;by_cases f2:r=r2
         . subst f2;rw[adl rfl] at k⊢;have:=adQ h;have:=adQ k;exact ac0 A0b
         . rw[adq f2] at k⊢;exact k
       . rw[adq f1] at h;have:=adQ h;by_cases f2:r'=r2
         . subst f2;rw[adq f1];exact h
         . rw[adq f2] at k;have:=adQ k;rw[adq A0b];exact ac0 A0b
     . rw[adq e2] at k⊢;exact k
   . rw[adq e1] at h;by_cases e2:s'=s2
     . subst e2;rw[adq e1];exact h
     . rw[adq e2] at k;have h3:=Gr h k;by_cases e3:s=s2
       . subst e3;rw[mM] at h3;cases h3
       . rw[adq e3];exact h3
 . rintro⟨s,c,r⟩ ⟨s',c',r'⟩ h k;simp only[ae,eF] at*;by_cases e1:s=s'
   . subst e1;rw[adl rfl] at h k;by_cases f1:r=r'
     . subst f1;rw[adl rfl] at h k;have:=aff h;have:=aff k;rw[show c=c' from by omega]
     . rw[adq f1] at h;rw[adq (fun e=>f1 e.symm)] at k;have:=aff h;have:=aff k;omega
   . rw[adq e1] at h;rw[adq (fun e=>e1 e.symm)] at k;exact absurd (O0 (OZ h k)) e1
abbrev gB{α:Type}(lt:α->α->Bool)(l:List α):Prop:=l.Pairwise fun a b=>lt a b=true
theorem l5{α:Type}{lt:α->α->Bool}(ht:Tot lt):∀{a b:List α},gB lt a->gB lt b->(∀x,x∈a↔x∈b)->a=b
 |[],[],_,_,_=>rfl
 |[],y::b,_,_,h=>absurd ((h y).2 (adP ..)) A0k
 |x::a,[],_,_,h=>absurd ((h x).1 (adP ..)) A0k
 | x ::a,y::b,ha,hb,h=>by
   have ha':=aeO.1 ha;have hb':=aeO.1 hb;have exy:x=y:=by
    rcases adA.1 ((h x).1 (adP ..)) with e|e
    . exact e
    . rcases adA.1 ((h y).2 (adP ..)) with f|f
      . exact f.symm
      . have h1:=hb'.1 x e;have h2:=ha'.1 y f;have h3:=ht.trans _ _ _ h1 h2;rw[ht.irr] at h3;cases h3
   subst exy;congr 1;refine l5 ht ha'.2 hb'.2 (fun z=>⟨fun hz=>?_,fun hz=>?_⟩)
   . rcases adA.1 ((h z).1 (adE _ hz)) with e|e
     . subst e;have:=ha'.1 z hz;rw[ht.irr] at this;cases this
     . exact e
   . rcases adA.1 ((h z).2 (adE _ hz)) with e|e
     . subst e;have:=hb'.1 z hz;rw[ht.irr] at this;cases this
     . exact e
variable{l:List C3}{p:C3}
theorem fy:jr l p=true↔p∈l:=by
 unfold jr;rw[aeJ];constructor
 . rintro⟨q,hq,he⟩;rw[<-adQ he];exact hq
 . exact fun h=>⟨p,h,ac0 rfl⟩
theorem xw{q:C3}:q∈aM l p↔q∈l∨q=p:=by
 unfold aM;split
 . rename_i h;exact⟨.inl,fun hx=>hx.elim id (fun e=>e▸fy.1 h)⟩
 . have e:q∈l↔q∈l.takeWhile (fun q=>ae q p)∨q∈l.dropWhile (fun q=>ae q p):=by rw[<-adv,aeu]
   rw[adv,adA,e];constructor
   . rintro(h|h|h)
     . exact .inl (.inl h)
     . exact .inr h
     . exact .inl (.inr h)
   . rintro((h|h)|h)
     . exact .inl h
     . exact .inr (.inr h)
     . exact .inr (.inl h)
theorem O6(hs:gB ae l):∀q∈l.dropWhile (fun q=>ae q p),ae q p=false:=by
 induction l with
 |nil=>intro q h;cases h
 | cons x l ih=>
   have hs':=aeO.1 hs;intro q h;cases hx:ae x p with
   |true=>simp only[List.dropWhile,hx] at h;exact ih hs'.2 q h
   | false=>
     simp only[List.dropWhile,hx] at h;rcases adA.1 h with rfl|h
     . exact hx
     . cases hq:ae q p with
       |false=>rfl
       |true=>rw[bQ.trans _ _ _ (hs'.1 q h) hq] at hx;exact hx
theorem Pa:∀q∈l.takeWhile (fun q=>ae q p),ae q p=true:=by
 induction l with
 |nil=>intro q h;cases h
 | cons x l ih=>
   intro q h;cases hx:ae x p with
   | true=>
     simp only[List.takeWhile,hx] at h;rcases adA.1 h with rfl|h
     . exact hx
     . exact ih q h
   |false=>simp only[List.takeWhile,hx] at h;cases h
theorem xx(hs:gB ae l):gB ae (aM l p):=by
 unfold aM;split
 . exact hs
 . rename_i hn;have e:=aeu (p:=fun q=>ae q p) (l:=l);have hs2:gB ae (l.takeWhile (fun q=>ae q p)++l.dropWhile (fun q=>ae q p)):=by rw[e];exact hs
   have h2:=aeF.1 hs2;have hd:=O6 (p:=p) hs;have hlt:∀q∈l.dropWhile (fun q=>ae q p),ae p q=true:=fun q hq=>by
    cases hpq:ae p q with
    |true=>rfl
    |false=>have:=bQ.tri _ _ hpq (hd q hq);subst this;exact absurd (fy.2 ((List.dropWhile_sublist _).subset hq)) hn
   refine aeF.2 ⟨h2.1,aeO.2 ⟨hlt,h2.2.1⟩,fun a ha b hb=>?_⟩;rcases adA.1 hb with rfl|hb
   . exact Pa a ha
   . exact h2.2.2 a ha b hb
theorem fK(c:List C3):∀(acc:List C3) (q:C3),q∈c.foldl aM acc↔q∈acc∨q∈c:=by
 induction c with
 |nil=>intro acc q;simp
 |cons p c ih=>intro acc q;rw[aeh,ih,xw,adA,or_assoc]
theorem i6(c:List C3):∀{acc:List C3},gB ae acc->gB ae (c.foldl aM acc):=by
 induction c with
 |nil=>exact fun h=>h
 |cons p c ih=>exact fun h=>ih (xx h)
theorem xy(h:Hd):gB ae (eG h):=by
 unfold eG;cases decide (h.k=2)&&bM h.cs h.cc h.cr with
 |true=>exact xx List.Pairwise.nil
 | false=>cases decide (h.k=3) with
   |true=>exact i6 _ List.Pairwise.nil
   |false=>exact List.Pairwise.nil
mutual
theorem nI:∀a:Nd,gB ae (aD a)
 | .leaf h=>by rw[aD];exact xy h
 | .mk h l=>by rw[aD];exact qi l (xy h)
theorem qi:∀(l:List Nd) {acc:List C3},gB ae acc->gB ae (aV acc l)
 |[],_,h=>by rw[aV];exact h
 |n::l,_,h=>by rw[aV];exact qi l (i6 _ h)
end
variable{s:ByteArray}{c r:Int}{k:Nat}
theorem Pb{i:Nat}(h:i<k):(iY s c r k)[i]?=some (s,c+(i:Int),r):=by unfold iY;rw[ac9,aeD h];rfl
theorem nJ(s:ByteArray)(c r:Int)(k:Nat):∀(h i:Nat),i<h*k->(cx s c r k h)[i]?=some (s,c+((i%k:Nat):Int),r+((i/k:Nat):Int))
 |0,i,hi=>by simp at hi
 | h +1,i,hi=>by
   have hlen:=dD s c r k h;unfold cx;rcases aeb i (h*k) with hlt|hge
   . rw[adu A0b];exact nJ s c r k h i hlt
   . rw[adH A0b,hlen];rw[aek,afu] at hi;obtain⟨j,rfl⟩:∃j,i=h*k+j:=⟨i-h*k,A0b⟩;have hj:j<k:=A0b
     rw[aeX,Pb hj];have e1:(h*k+j)%k=j:=by rw[afQ,Nat.mul_add_mod,agx hj]
     have e2:(h*k+j)/k=h:=by rw[afQ,Nat.mul_add_div A0b,Nat.div_eq_of_lt hj];omega
     rw[e1,e2]
variable{s':ByteArray}{c' r':Int}
theorem DR{s0:ByteArray}{c0 r0:Int}:Y6 s c r s' c' r' s0 c0 r0=true↔lV s c r s' c' r'=true∧s0=s∧c<=c0∧c0<=c'∧r<=r0∧r0<=r':=by simp[Y6]
theorem SB{h:Nat}{c2 r2:Int}(hok:lV s c r s c2 r2=true)(hc:c2=c+(k:Int)-1)(hr:r2=r+(h:Int)-1)(s0:ByteArray)(c0 r0:Int):
 ((cx s c r k h).any fun p=>eE p (s0,c0,r0))=Y6 s c r s c2 r2 s0 c0 r0:=by
 rw[ae3,DR,aeJ];constructor
 . rintro⟨p,hp,he⟩;have he:=adQ he;obtain⟨i,hi⟩:=aen hp;have hlt:=(iO.1 hi).1;rw[dD] at hlt;have hk:0<k:=by
    rcases aft k with h0|h0
    . subst h0;simp at hlt
    . exact h0
   rw[nJ s c r k h i hlt] at hi;cases hi;cases he;have h1:=agC i hk;have h2:i/k<h:=(afZ hk).2 hlt;generalize i%k=a at h1⊢;generalize i/k=b at h2⊢;exact⟨hok,rfl,A0b,A0b,A0b,A0b⟩
 . rintro⟨_,rfl,h1,h2,h3,h4⟩;obtain⟨a,ha⟩:∃a:Nat,c0-c=a:=⟨(c0-c).toNat,A0b⟩;obtain⟨b,hb⟩:∃b:Nat,r0-r=b:=⟨(r0-r).toNat,A0b⟩;have hak:a<k:=A0b
   have hbh:b<h:=A0b
   have hlt:b*k+a<h*k:=Ds hbh hak;have:=nJ s0 c r k h (b*k+a) hlt;have e1:(b*k+a)%k=a:=by rw[afQ,Nat.mul_add_mod,agx hak]
   have e2:(b*k+a)/k=b:=by rw[afQ,Nat.mul_add_div A0b,Nat.div_eq_of_lt hak];omega
   rw[e1,e2] at this;refine⟨_,adg this,ac0 ?_⟩;rw[show c+(a:Int)=c0 from by omega,show r+(b:Int)=r0 from by omega]
theorem nK(p:C3):p∈(dT s c r s' c' r').getD []↔qg ((s,c,r),(s',c',r'))=true∧HW p ((s,c,r),(s',c',r'))=true:=by
 unfold qg HW;simp only[ado,adS];unfold dT;by_cases h:lV s c r s' c' r'=true∧cE c r c' r'<=400
 . rw[adl h,aeI];obtain⟨_,_,hss,hc,hr⟩:=jB.1 h.1;subst hss;have:=SB (s:=s) (c:=c) (r:=r) (k:=(c'-c+1).toNat) (h:=(r'-r+1).toNat) h.1 A0b A0b p.1 p.2.1 p.2.2;rw[<-this];exact⟨fun hp=>⟨h,fy.2 hp⟩,fun hp=>fy.1 hp.2⟩
 . rw[adq h];exact⟨fun hp=>absurd hp (ae5),fun hp=>absurd hp.1 h⟩
theorem Pc(s:ByteArray)(c r:Int):qg ((s,c,r),(s,c,r))=bM s c r:=by
 have e1:lV s c r s c r=bM s c r:=by simp[lV]
 have e2:cE c r c r=1:=by unfold cE;rw[Int.sub_self,Int.sub_self];rfl
 simp[qg,e1,e2]
theorem SD(p:C3):p=(s,c,r)∧bM s c r=true↔qg ((s,c,r),(s,c,r))=true∧HW p ((s,c,r),(s,c,r))=true:=by
 have e1:lV s c r s c r=bM s c r:=by simp[lV]
 obtain⟨s0,c0,r0⟩:=p;rw[Pc,HW,DR,e1];constructor
 . rintro⟨e,h⟩;cases e;exact⟨h,h,rfl,afv _,afv _,afv _,afv _⟩
 . rintro⟨h,_,e,h1,h2,h3,h4⟩;have e1:c0=c:=by simp only at h1 h2;omega
   have e2:r0=r:=by simp only at h3 h4;omega
   simp only at e;exact⟨by rw[e,e1,e2],h⟩
theorem xz(h:Hd)(p:C3):p∈eG h↔∃q∈f8 h,HW p q=true:=by
 have hS:(∃q∈f8 h,HW p q=true)↔qg (rg h)=true∧HW p (rg h)=true:=by
  unfold f8;by_cases ho:qg (rg h)=true
  . rw[adl ho];simp[ho]
  . rw[adq ho];simp[ho]
 rw[hS];unfold eG rg;by_cases h2:h.k=2
 . rw[adl h2,ac0 h2];rw[<-SD];have d3:decide (h.k=3)=false:=Io A0b;cases hr:bM h.cs h.cc h.cr with
   |true=>rw[ae1,agH,xw];simp
   |false=>rw[ae1,agh,d3,agh];simp
 . rw[adq h2,Io h2,afI,agh];by_cases h3:h.k=3
   . rw[adl h3,ac0 h3,agH,fK];rw[<-nK];simp[gM]
   . rw[adq h3,Io h3,agh];have:qg ((⟨#[]⟩,0,0),(⟨#[]⟩,0,0))=false:=by rw[qg,qh,afI]
     simp[this]
mutual
theorem sT:∀(a:Nd) (p:C3),p∈aD a↔∃q∈allN a,HW p q=true
 | .leaf h,p=>by rw[aD,allN];exact xz h p
 | .mk h l,p=>by rw[aD,qk l,xz,allN];simp only[adv,or_and_right,exists_or]
theorem qk:∀(l:List Nd) (acc:List C3) (p:C3),p∈aV acc l↔p∈acc∨∃q∈allL l,HW p q=true
 |[],acc,p=>by rw[aV,allL];simp
 |n::l,acc,p=>by rw[aV,qk l,fK,sT n,allL];simp only[adv,or_and_right,exists_or,or_assoc]
end
theorem xA{a:Nd}(hs:gB ae l)(hm:∀p,p∈l↔∃q∈allN a,HW p q=true):l=aD a:=
 l5 bQ hs (nI a) (fun p=>(hm p).trans (sT a p).symm)
theorem Kh:∀(a:Nd),∀q∈allN a,qg q=true:=by
 have hs:∀(h:Hd),∀q∈f8 h,qg q=true:=fun h q hq=>by
  unfold f8 at hq;split at hq
  . rename_i ho;rw[adj.1 hq];exact ho
  . cases hq
 intro a;refine Nd.rec (motive_1:=fun a=>∀q∈allN a,qg q=true) (motive_2:=fun l=>∀q∈allL l,qg q=true) ?_ ?_ ?_ ?_ a
 . intro h q hq;rw[allN] at hq;exact hs h q hq
 . intro h l ih q hq;rw[allN,adv] at hq;exact hq.elim (hs h q) (ih q)
 . intro q hq;cases hq
 . intro n l i1 i2 q hq;rw[allL,adv] at hq;exact hq.elim (i1 q) (i2 q)
