/- What a node itself reads: refs.rangeOf. -/
import Derived.Test.YtmfojhkjbkombaaMT
import Derived.Test.YtmfojhkjbkombaaML
import Derived.Test.YtmfojhkjbkombaaMI
import Derived.Test.YtmfojhkjbkombaaMR
import Derived.Sort.Walk0
namespace Go.Proofs.Ytmfojhkjbkombaa
set_option linter.unusedSimpArgs false
set_option maxHeartbeats 16000000
set_option maxRecDepth 100000
open Go Go.RowKit
attribute [go_sem] Try.results55
abbrev R2:=C3×C3
def rgV (q:R2):V:= .agg [.x (.string q.1.1),.x (.int .i64 q.1.2.1),.x (.int .i64 q.1.2.2),.x (.string q.2.1),.x (.int .i64 q.2.2.1),.x (.int .i64 q.2.2.2)]
def rg (h:Hd):R2:=if h.k=2 then ((h.cs,h.cc,h.cr),(h.cs,h.cc,h.cr)) else if h.k=3 then ((h.cs,h.cc,h.cr),(h.ts,h.tc,h.tr)) else ((⟨#[]⟩,0,0),(⟨#[]⟩,0,0))
def nR (q:R2):Bool:=j7 q.1.1 q.1.2.1 q.1.2.2 q.2.1 q.2.2.1 q.2.2.2&&decide (cV q.1.2.1 q.1.2.2 q.2.2.1 q.2.2.2<=400)
def cO (nd:Nd):Option V:=some (.tup [rgV (rg nd.hd),.x (.bool (nR (rg nd.hd)))])
theorem nS:j7 ⟨#[]⟩ 0 0 ⟨#[]⟩ 0 0=false:=A0b
theorem up:dA 55 (FE eD cO):=by
 refine aV (E:=aF [(56,fY)]) (k:=1) (bO _ ⟨ue,trivial⟩) A0a Try.func55 rfl (fun a w=>Try.call55 a w) Try.ntmps55 A0a A0b A0b ?_;intro us r hF hdat;obtain⟨nd,hus,hG⟩:=bL hF;clear hF;subst hus;have hF:=hG;clear hG;cases hF;clear hdat;simp only[eD];obtain⟨k,op,nm,vk,vn,vs,cs,cc,cr,ts,tc,tr,l,nl,sz,hh,hl,hf,hs⟩:=jV nd;rw[hf,hh];refine⟨rfl,?_⟩;simp only[rgV,nR];by_cases h2:k=2
 . subst h2;have e:rg ⟨2,op,nm,vk,vn,vs,cs,cc,cr,ts,tc,tr⟩=((cs,cc,cr),(cs,cc,cr)):=rfl;simp only[e];cases ho:j7 cs cc cr cs cc cr
   . have ha:=dQ ho;simp +decide (maxDischargeDepth:=200) only[go_sem,aaB,fY,ha,ho,abG]
   . have ha:=ji ho;cases hq:decide (cV cc cr cc cr<=400)
     . simp +decide (maxDischargeDepth:=200) only[go_sem,aaB,fY,ha,ho,hq,aaY]
     . simp +decide (maxDischargeDepth:=200) only[go_sem,aaB,fY,ha,ho,hq,aaY]
 . have d2:=Zl h2;by_cases h3:k=3
   . subst h3;have e:rg ⟨3,op,nm,vk,vn,vs,cs,cc,cr,ts,tc,tr⟩=((cs,cc,cr),(ts,tc,tr)):=rfl;simp only[e];cases ho:j7 cs cc cr ts tc tr
     . have ha:=dQ ho;simp +decide (maxDischargeDepth:=200) only[go_sem,aaB,fY,ha,ho,abG]
     . have ha:=ji ho;cases hq:decide (cV cc cr tc tr<=400)
       . simp +decide (maxDischargeDepth:=200) only[go_sem,aaB,fY,ha,ho,hq,aaY]
       . simp +decide (maxDischargeDepth:=200) only[go_sem,aaB,fY,ha,ho,hq,aaY]
   . have d3:=Zl h3;have e:rg ⟨k,op,nm,vk,vn,vs,cs,cc,cr,ts,tc,tr⟩=((⟨#[]⟩,0,0),(⟨#[]⟩,0,0)):=by unfold rg;rw[Zs h2,Zs h3]
     have ha:=dQ nS;simp only[e];simp +decide (maxDischargeDepth:=200) only[go_sem,fY,ha,nS,d2,d3,abG]
def eS (h:Hd):List R2:=if nR (rg h)=true then [rg h] else []
mutual
def allN:Nd->List R2
 | .leaf h=>eS h
 | .mk h l=>eS h++allL l
def allL:List Nd->List R2
 |[]=>[]
 |n::l=>allN n++allL l
end
theorem mF (a:Nd):allN a=eS a.hd++allL a.ks:=by cases a<;>simp only[allN,allL,Nd.hd,Nd.ks,aaw]
abbrev Lv:=Bool×Nat×List Nd
def EB (e:Lv):V:= .sl e.1 e.2.1 (e.2.2.map av) none
def lvC:List Lv->Nat
 |[]=>0
 |e::r=>cntL e.2.2+lvC r
structure OutI (nd:Nd) (pre:List (List V)) (r:List Lv):Prop where
 ok:∀e∈r,e.2.2≠[]->e.2.1=13
 small:2*lvC r+r.length<=801
 sub:∀e∈r,∀q∈allL e.2.2,q∈allN nd
 full:∀q∈allN nd,[rgV q]∈pre∨∃e∈r,q∈allL e.2.2
 come:∀x∈pre,∃q∈allN nd,x=[rgV q]
structure InI (nd:Nd) (lv:List Nd) (M:Nat) (pre:List (List V)) (r:List Lv) (i:Nat):Prop where
 ok:∀e∈r,e.2.2≠[]->e.2.1=13
 small:2*lvC r+r.length+2*cntL (lv.drop i)+i+1<=M
 sub:∀e∈r,∀q∈allL e.2.2,q∈allN nd
 subL:∀q∈allL lv,q∈allN nd
 full:∀q∈allN nd,[rgV q]∈pre∨(∃e∈r,q∈allL e.2.2)∨q∈allL (lv.drop i)
 come:∀x∈pre,∃q∈allN nd,x=[rgV q]
def NU (nd:Nd) (pre:List (List V)):Prop:=∀x∈pre,∃q∈allN nd,x=[rgV q]
def GG (nd:Nd) (xs:List (List V)):Prop:=NU nd xs∧∀q∈allN nd,[rgV q]∈xs
theorem GH {l:List Nd} {n:Nd} (h:n∈l) {q:R2} (hq:q∈allN n):q∈allL l:=by
 induction l with
 |nil=>cases h
 | cons a l ih=>
   rw[allL,Zv];rcases ZE.1 h with rfl|h
   . exact .inl hq
   . exact .inr (ih h)
variable {nd:Nd} {pre:List (List V)}
theorem OutI.into {e:Lv} {r:List Lv} (h:OutI nd pre (e::r)):InI nd e.2.2 (2*lvC (e::r)+(e::r).length) pre r 0:=
 ⟨fun x hx=>h.ok x (ZI _ hx),by simp only[lvC,List.drop_zero,ZB];omega,fun x hx=>h.sub x (ZI _ hx),h.sub e (ZP ..),fun q hq=>by
  rcases h.full q hq with h1|⟨x,hx,h1⟩
  . exact .inl h1
  . rcases ZE.1 hx with rfl|hx
    . exact .inr (.inr h1)
    . exact .inr (.inl ⟨x,hx,h1⟩),h.come⟩
theorem KT {l:List Nd} {i:Nat} {c:Nd} (h:l[i]?=some c):l.drop i=c::l.drop (i+1):=by obtain⟨hi,rfl⟩:=tl.1 h;exact List.drop_eq_getElem_cons hi
variable {lv:List Nd} {M:Nat}
theorem InI.next {r:List Lv} {i:Nat} (h:InI nd lv M pre r i) {c:Nd} (hc:lv[i]?=some c) {nl:Bool} {sz:Nat} {l:List Nd} (hl:c.ks=l) (hs:l≠[]->sz=13):
 (nR (rg c.hd)=false->InI nd lv M pre ((nl,sz,l)::r) (i+1))∧(nR (rg c.hd)=true->InI nd lv M (pre++[[rgV (rg c.hd)]]) ((nl,sz,l)::r) (i+1)∧rg c.hd∈allN nd):=by
 have hd:=KT hc;have hm:c∈lv:=Zo hc;have hsmall:2*lvC ((nl,sz,l)::r)+((nl,sz,l)::r).length+2*cntL (lv.drop (i+1))+(i+1)+1<=M:=by have h1:=h.small;have h2:=NR c;rw[hd] at h1;rw[hl] at h2;simp only[lvC,ZB,cntL] at h1⊢;omega
 have hself:∀q∈allN c,q∈eS c.hd∨q∈allL l:=fun q hq=>by rw[mF,Zv,hl] at hq;exact hq
 have hin:∀q∈allN c,q∈allN nd:=fun q hq=>h.subL q (GH hm hq)
 have hok:∀e∈(nl,sz,l)::r,e.2.2≠[]->e.2.1=13:=fun e he=>by
  rcases ZE.1 he with rfl|he
  . exact hs
  . exact h.ok e he
 have hsub:∀e∈(nl,sz,l)::r,∀q∈allL e.2.2,q∈allN nd:=fun e he q hq=>by
  rcases ZE.1 he with rfl|he
  . exact hin q (by rw[mF,Zv,hl];exact .inr hq)
  . exact h.sub e he q hq
 refine⟨fun hq=>⟨hok,hsmall,hsub,h.subL,fun q hq1=>?_,h.come⟩,fun hq=>⟨⟨hok,hsmall,hsub,h.subL,fun q hq1=>?_,fun x hx=>?_⟩,?_⟩⟩
 . rcases h.full q hq1 with h1|⟨e,he,h1⟩|h1
   . exact .inl h1
   . exact .inr (.inl ⟨e,ZI _ he,h1⟩)
   . rw[hd,allL,Zv] at h1;rcases h1 with h1|h1
     . rcases hself q h1 with h2|h2
       . simp[eS,hq] at h2
       . exact .inr (.inl ⟨_,ZP ..,h2⟩)
     . exact .inr (.inr h1)
 . rcases h.full q hq1 with h1|⟨e,he,h1⟩|h1
   . exact .inl (Z6 _ h1)
   . exact .inr (.inl ⟨e,ZI _ he,h1⟩)
   . rw[hd,allL,Zv] at h1;rcases h1 with h1|h1
     . rcases hself q h1 with h2|h2
       . simp only[eS,hq,ZD,Zn] at h2;subst h2;exact .inl A0l
       . exact .inr (.inl ⟨_,ZP ..,h2⟩)
     . exact .inr (.inr h1)
 . rcases Zv.1 hx with hx|hx
   . exact h.come x hx
   . obtain rfl:=Zn.1 hx;exact⟨_,hin _ (by rw[mF,Zv];left;simp[eS,hq]),rfl⟩
 . exact hin _ (by rw[mF,Zv];left;simp[eS,hq])
theorem InI.out {r:List Lv} (h:InI nd lv M pre r lv.length) (hM:M<=801):OutI nd pre r∧2*lvC r+r.length<M:=by
 have h1:=h.small;refine⟨⟨h.ok,A0c,h.sub,fun q hq=>?_,h.come⟩,A0c⟩;rcases h.full q hq with h1|h1|h1
 . exact .inl h1
 . exact .inr h1
 . rw[List.drop_length] at h1;cases h1
theorem NV (e:Lv) (r:List Lv) (G:List V):(e::r).reverse.map EB++G=r.reverse.map EB++EB e::G:=A0l
theorem GI (r:List Lv):(r.reverse.map EB).length=r.length:=A0l
noncomputable def SV:Env:=cG [(55,FE eD cO)] (fun d=>d==12)
theorem GJ:EnvOK SV:=qZ _ _ ⟨up,trivial⟩
theorem uq (nd:Nd) (h400:rq nd<=400) {m:Lim} {w:World} {lb:Array Value} {cs0:List V} (hnd:av nd= .agg cs0) (hr:RdL m w lb.toList [.ip cs0]):iS (aF []) (fun _=>False) 54 lb (NU nd) (GG nd) m w:=by
 refine rk (E:=cG [(55,FE eD cO)] (fun d=>d==12)) (n:=50) (us:=[.ip cs0]) Try.func54 rfl Try.ntmps54 Try.results54 A0l A0b hr rfl (fun g=> .undef _) ?_;intro l A Ax a0 O hA hX hy h0 _;have hE:EnvOK (cG [(55,FE eD cO)] (fun d=>d==12)):=GJ;have hm:(cG [(55,FE eD cO)] (fun d=>d==12)).P.follows .mixedOrders=true:=A0a
 obtain⟨k,op,nm,vk,vn,vs,cs,cc,cr,ts,tc,tr,ll,nl,sz,hh,hl,hf,hs⟩:=jV nd;obtain rfl:[.x (.int .i64 k),.x (.string op),.x (.string nm),.x (.int .i64 vk),.x (.int .i64 vn),.x (.string vs),.x (.string cs),.x (.int .i64 cc),.x (.int .i64 cr),.x (.string ts),.x (.int .i64 tc),.x (.int .i64 tr),.sl nl sz (ll.map av) none]=cs0:=V.agg.inj (hf.symm.trans hnd);refine wpIn_seq (cB hE hm (hA []) [(0,.x (.func (.yield l) #[] #[])),(3,.row 12 1 1)] [(12,[.sl false 13 [av nd] none])] A0a h0 (by rw[hf];simp +decide (maxDischargeDepth:=200) only[go_sem,Nat.reduceBEq]<;>(repeat' first|rfl|constructor)) ?_);intro a1 w1 h1;refine wpIn_block ?_;refine cm (X:=List Lv×List V×Nat×List (List V)) (fun x a' w'=>(x.2.2.1=12∨x.2.2.1=48)∧OutI nd x.2.2.2 x.1∧Two (cG [(55,FE eD cO)] (fun d=>d==12)) 50 O m w (A x.2.2.2) (am [(0,.x (.func (.yield l) #[] #[])),(3,.row x.2.2.1 1 x.1.length)] [(x.2.2.1,x.1.reverse.map EB++x.2.1)]) a' w') (fun x=>2*lvC x.1+x.1.length) ([(false,13,[nd])],[],12,[]) ⟨.inl rfl,⟨fun e he=>?_,?_,fun e he=>?_,fun q hq=>?_,fun x hx=>by cases hx⟩,?_⟩ ?_
 . simp at he;subst he;intro _;rfl
 . simp[lvC,cntL];omega
 . simp at he;subst he;intro q hq;simpa[allL] using hq
 . right;exact⟨_,Zn.2 rfl,by simpa[allL] using hq⟩
 . exact h1
 clear h0 h1 a1 w1;rintro⟨r,G,nm0,pre⟩ a w1 ⟨hnm,hI,h1⟩;simp only at hnm hI h1;refine wpIn_seq ?_;cases r with
 |nil=>refine AE hE hm (hA pre) 0 [] [] A0a h1 (by simp +decide (maxDischargeDepth:=200) only[go_sem,Nat.reduceBEq,Z5,show decide ((0:Int)<((0:Nat):Int))=false from rfl]<;>(repeat' first|rfl|constructor)) ?_;intro a' w' h2;exact⟨.inl rfl,.inl ⟨pre,_,⟨hI.come,fun q hq=>by rcases hI.full q hq with h|⟨e,he,_⟩;exact h;cases he⟩,h2⟩⟩
 | cons e r=>
   obtain⟨en,ez,lv⟩:=e;have hB:=GI r;have hsm:=hI.small;have hin:=hI.into;have hez:=hI.ok (en,ez,lv) (ZP ..);simp only at hez;obtain⟨mm,hmm⟩:∃mm,mm=r.length:=⟨_,rfl⟩;have f0:((en,ez,lv)::r).length=mm+1:=by rw[ZB,hmm]
   rw[NV,f0] at h1;rw[f0] at hin hsm;generalize hBe:r.reverse.map EB=B at hB h1;rw[<-hmm] at hB;simp only[EB] at h1;obtain⟨M,hM⟩:∃M,M=2*lvC ((en,ez,lv)::r)+(mm+1):=⟨_,rfl⟩;rw[<-hM] at hin hsm;have f1:decide ((0:Int)<((mm+1:Nat):Int))=true:=Zk A0c;have f2:aw .i64 (((mm+1:Nat):Int)-1)=((mm:Nat):Int):=by rw[aj A0j];omega
   have f3:(0:Int)<=((mm:Nat):Int):=A0c
   have f4:((mm:Nat):Int)<((mm+1:Nat):Int):=A0c
   have f4':((mm:Nat):Int)<=((mm+1:Nat):Int):=A0c
   have f5:Int.toNat ((mm:Nat):Int)=mm:=rfl;have f6:=KL (A:=B) (G:=G) (x:= .sl en ez (lv.map av) none) hB;refine cB hE hm (hA pre) [(0,.x (.func (.yield l) #[] #[])),(3,.row nm0 1 (mm+1))] [(nm0,B++ .sl en ez (lv.map av) none::G)] A0a h1 (by simp +decide (maxDischargeDepth:=200) only[go_sem,Nat.reduceBEq,f1]<;>(repeat' first|rfl|constructor)) ?_;clear h1 a w1;intro a w1 h1;refine wpIn_block ?_;refine wpIn_seq (cB hE hm (hA pre) [(0,.x (.func (.yield l) #[] #[])),(3,.row nm0 1 (mm+1)),(4,.x (.int .i64 ((mm:Nat):Int)))] [(nm0,B++ .sl en ez (lv.map av) none::G)] A0a h1 (by simp +decide (maxDischargeDepth:=200) only[go_sem,Nat.reduceBEq,f2]<;>(repeat' first|rfl|constructor)) ?_);clear h1 a w1;intro a w1 h1;refine wpIn_seq (cB hE hm (hA pre) [(0,.x (.func (.yield l) #[] #[])),(3,.row nm0 1 (mm+1)),(4,.x (.int .i64 ((mm:Nat):Int))),(5,.sl en ez (lv.map av) none)] [(nm0,B++ .sl en ez (lv.map av) none::G)] A0a h1 (by simp +decide (maxDischargeDepth:=200) only[go_sem,Nat.reduceBEq,f3,f4,f5,f6,Zx]<;>(repeat' first|rfl|constructor)) ?_);clear h1 a w1;intro a w1 h1;refine wpIn_seq (cB hE hm (hA pre) [(0,.x (.func (.yield l) #[] #[])),(3,.row nm0 1 mm),(5,.sl en ez (lv.map av) none)] [(nm0,B++ .sl en ez (lv.map av) none::G)] A0a h1 (by simp +decide (maxDischargeDepth:=200) only[go_sem,Nat.reduceBEq,f3,f4',f5]<;>(repeat' first|rfl|constructor)) ?_);clear h1 a w1;intro a w1 h1;refine wpIn_seq (cB hE hm (hA pre) [(0,.x (.func (.yield l) #[] #[])),(3,.row nm0 1 mm),(26,.sl en ez (lv.map av) none),(27,.x (.int .i64 (lv.length:Int))),(28,.x (.int .i64 ((0:Nat):Int)))] [(nm0,B++ .sl en ez (lv.map av) none::G)] A0a h1 (by simp +decide (maxDischargeDepth:=200) only[go_sem,Nat.reduceBEq,io]<;>(repeat' first|rfl|constructor)) ?_);clear h1 a w1;intro a w1 h1;refine wpIn_block ?_;refine cm (X:=Nat×List Lv×List V×Nat×List (List V)) (fun x a' w'=>(x.2.2.2.1=12∨x.2.2.2.1=48)∧InI nd lv M x.2.2.2.2 x.2.1 x.1∧x.1<=lv.length∧Two (cG [(55,FE eD cO)] (fun d=>d==12)) 50 O m w (A x.2.2.2.2) (am [(0,.x (.func (.yield l) #[] #[])),(3,.row x.2.2.2.1 1 x.2.1.length),(26,.sl en ez (lv.map av) none),(27,.x (.int .i64 (lv.length:Int))),(28,.x (.int .i64 ((x.1:Nat):Int)))] [(x.2.2.2.1,x.2.1.reverse.map EB++x.2.2.1)]) a' w') (fun x=>lv.length-x.1) (0,r,.sl en ez (lv.map av) none::G,nm0,pre) ⟨hnm,hin,Z0 _,?_⟩ ?_
   . simp only[hBe,<-hmm];exact h1
   clear h1 a w1;rintro⟨i,rr,G2,nm1,pre1⟩ a w1 ⟨hnm1,hI1,hi0,h1⟩;simp only at hnm1 hI1 hi0 h1;have hsm1:=hI1.small;have hB2:=GI rr;obtain⟨kk,hkk⟩:∃kk,kk=rr.length:=⟨_,rfl⟩;rw[<-hkk] at h1 hsm1 hB2;generalize hBe2:rr.reverse.map EB=B2 at hB2 h1;by_cases hi:i<lv.length
   . obtain rfl:=hez (by intro e;rw[e] at hi;simp at hi);obtain⟨c,hc1,hc2⟩:=NQ hi;have c1:decide ((i:Int)<(lv.length:Int))=true:=Zk A0c;have c2:(0:Int)<=(i:Int):=A0c
     have c4:=aQ (i:=i) A0c;obtain⟨k',op',nm',vk',vn',vs',cs',cc',cr',ts',tc',tr',l',nl',sz',hh',hl',hf',hs'⟩:=jV c;have hcc:FE eD cO [av c]=some (.tup [rgV (rg c.hd),.x (.bool (nR (rg c.hd)))]):=cL uj _ c;rw[hf'] at hc2 hcc;obtain⟨hno,hyes⟩:=hI1.next hc1 (nl:=nl') (sz:=sz') hl' hs';have hpush:((nl',sz',l')::rr).reverse.map EB=B2++[.sl nl' sz' (l'.map av) none]:=by rw[<-hBe2];simp[EB]
     have hk1:((nl',sz',l')::rr).length=kk+1:=by rw[ZB,hkk]
     have d5:=Gq (A:=B2) (G:=G2) hB2
     have hLI:∀(a2:Act) (w2:World) (pre2:List (List V)),InI nd lv M pre2 ((nl',sz',l')::rr) (i+1)->Two (cG [(55,FE eD cO)] (fun d=>d==12)) 50 O m w (A pre2) (am [(0,.x (.func (.yield l) #[] #[])),(3,.row 48 1 (kk+1)),(26,.sl en 13 (lv.map av) none),(27,.x (.int .i64 (lv.length:Int))),(28,.x (.int .i64 ((i:Nat):Int)))] [(48,B2++[.sl nl' sz' (l'.map av) none])]) a2 w2->∀{ops:List Oper} {Q:Exit->Act->World->Prop} {id:Nat},run (cG [(55,FE eD cO)] (fun d=>d==12)) (.region id ⟨ops⟩ false) (am [(0,.x (.func (.yield l) #[] #[])),(3,.row 48 1 (kk+1)),(26,.sl en 13 (lv.map av) none),(27,.x (.int .i64 (lv.length:Int))),(28,.x (.int .i64 ((i:Nat):Int)))] [(48,B2++[.sl nl' sz' (l'.map av) none])]) (o9 [(0,.x (.func (.yield l) #[] #[])),(3,.row 48 1 (kk+1)),(26,.sl en 13 (lv.map av) none),(27,.x (.int .i64 (lv.length:Int))),(28,.x (.int .i64 ((i+1:Nat):Int)))] [(48,B2++[.sl nl' sz' (l'.map av) none])])->
      aZ (cG [(55,FE eD cO)] (fun d=>d==12)).any 50 (.region id ⟨ops⟩ false)=true->(∀a3 w3,(∃x':Nat×List Lv×List V×Nat×List (List V),((x'.2.2.2.1=12∨x'.2.2.2.1=48)∧InI nd lv M x'.2.2.2.2 x'.2.1 x'.1∧x'.1<=lv.length∧Two (cG [(55,FE eD cO)] (fun d=>d==12)) 50 O m w (A x'.2.2.2.2) (am [(0,.x (.func (.yield l) #[] #[])),(3,.row x'.2.2.2.1 1 x'.2.1.length),(26,.sl en 13 (lv.map av) none),(27,.x (.int .i64 (lv.length:Int))),(28,.x (.int .i64 ((x'.1:Nat):Int)))] [(x'.2.2.2.1,x'.2.1.reverse.map EB++x'.2.2.1)]) a3 w3)∧lv.length-x'.1<lv.length-i)->Q .normal a3 w3)->(Code.region id ⟨ops⟩ false).wpIn (aX none) 0 (cG [(55,FE eD cO)] (fun d=>d==12)).P Q a2 w2:=by
      intro a2 w2 pre2 hin2 ht ops Q id hrun hok hQ;refine cB hE hm (hA pre2) _ _ hok ht hrun ?_;intro a3 w3 h3;refine hQ a3 w3 ⟨(i+1,(nl',sz',l')::rr,[],48,pre2),⟨.inr rfl,hin2,hi,?_⟩,?_⟩
      . rw[hpush,hk1,aaw];exact h3
      . simp only;omega
     refine wpIn_seq (cB hE hm (hA pre1) [(0,.x (.func (.yield l) #[] #[])),(3,.row nm1 1 kk),(26,.sl en 13 (lv.map av) none),(27,.x (.int .i64 (lv.length:Int))),(28,.x (.int .i64 ((i:Nat):Int))),(29,.x (.bool true))] [(nm1,B2++G2)] A0a h1 A0w ?_);clear h1 a w1;intro a w1 h1;refine wpIn_seq (cB hE hm (hA pre1) [(0,.x (.func (.yield l) #[] #[])),(3,.row nm1 1 kk),(26,.sl en 13 (lv.map av) none),(27,.x (.int .i64 (lv.length:Int))),(28,.x (.int .i64 ((i:Nat):Int)))] [(nm1,B2++G2)] A0a h1 A0d ?_);clear h1 a w1;intro a w1 h1;refine wpIn_seq (wpIn_block ?_);rcases hnm1 with rfl|rfl
     . have g1:∀(st:St) (d s:Nat) (nl:Bool) (t':Option Nat),(cG [(55,FE eD cO)] (fun d=>d==12)).MB d=false->cS (cG [(55,FE eD cO)] (fun d=>d==12)) st (some d) 28 (.row s 1 kk) (.sl nl 1 [.sl nl' sz' (l'.map av) none] t')=match st.b s with
        |some cs=>some ⟨upd (kill s (kill d st.t)) d (.row d 1 (kk+1)),upd (upd st.b s none) d (some (cs.take (kk*1)++[.sl nl' sz' (l'.map av) none]))⟩
        |none=>none:=fun st d s nl t' h=>kZ (E:=cG [(55,FE eD cO)] (fun d=>d==12)) MR MS MT A0b rfl rfl A0c A0c st d s nl t' h
       have g2:=fun st d s nl t'=>g1 st d s nl t' rfl
       refine wpIn_seq (cB hE hm (hA pre1) [(0,.x (.func (.yield l) #[] #[])),(3,.row 12 1 kk),(26,.sl en 13 (lv.map av) none),(27,.x (.int .i64 (lv.length:Int))),(28,.x (.int .i64 ((i:Nat):Int))),(7,.ptr 7 0)] [(12,B2++G2),(7,[.x (.int .i64 k'),.x (.string op'),.x (.string nm'),.x (.int .i64 vk'),.x (.int .i64 vn'),.x (.string vs'),.x (.string cs'),.x (.int .i64 cc'),.x (.int .i64 cr'),.x (.string ts'),.x (.int .i64 tc'),.x (.int .i64 tr'),.sl nl' sz' (l'.map av) none])] A0a h1 A0Q ?_);clear h1 a w1;intro a w1 h1;cases hq:nR (rg c.hd) with
       |false=>rw[hq] at hcc;refine cB hE hm (hA pre1) [(0,.x (.func (.yield l) #[] #[])),(3,.row 48 1 (kk+1)),(26,.sl en 13 (lv.map av) none),(27,.x (.int .i64 (lv.length:Int))),(28,.x (.int .i64 ((i:Nat):Int)))] [(48,B2++[.sl nl' sz' (l'.map av) none])] A0a h1 A0M ?_;clear h1 a w1;intro a w1 h1;refine hLI a w1 pre1 (hno hq) h1 A0s A0a (fun a3 w3 h3=>h3)
       | true=>
         rw[hq] at hcc;obtain⟨hnext,hmem⟩:=hyes hq;have hokp:NU nd (pre1++[[rgV (rg c.hd)]]):=hnext.come;refine wpIn_seq (wpIn_seq (cB hE hm (hA pre1) [(0,.x (.func (.yield l) #[] #[])),(3,.row 12 1 kk),(26,.sl en 13 (lv.map av) none),(27,.x (.int .i64 (lv.length:Int))),(28,.x (.int .i64 ((i:Nat):Int))),(7,.ptr 7 0),(8,.ptr 8 0),(9,.x (.bool true))] [(12,B2++G2),(7,[.x (.int .i64 k'),.x (.string op'),.x (.string nm'),.x (.int .i64 vk'),.x (.int .i64 vn'),.x (.string vs'),.x (.string cs'),.x (.int .i64 cc'),.x (.int .i64 cr'),.x (.string ts'),.x (.int .i64 tc'),.x (.int .i64 tr'),.sl nl' sz' (l'.map av) none]),(8,[.x (.string (rg c.hd).1.1),.x (.int .i64 (rg c.hd).1.2.1),.x (.int .i64 (rg c.hd).1.2.2),.x (.string (rg c.hd).2.1),.x (.int .i64 (rg c.hd).2.2.1),.x (.int .i64 (rg c.hd).2.2.2)])] A0a h1 A0W ?_));clear h1 a w1;intro a w1 h1;refine wpIn_seq (wpIn_region ?_);refine eQ hE (hA pre1) 0 4 [(0,.x (.func (.yield l) #[] #[])),(3,.row 12 1 kk),(26,.sl en 13 (lv.map av) none),(27,.x (.int .i64 (lv.length:Int))),(28,.x (.int .i64 ((i:Nat):Int))),(7,.ptr 7 0),(37,.x (.bool true)),(38,.x (.bool true)),(39,.x (.func (.yield l) #[] #[])),(40,rgV (rg c.hd))] [(12,B2++G2),(7,[.x (.int .i64 k'),.x (.string op'),.x (.string nm'),.x (.int .i64 vk'),.x (.int .i64 vn'),.x (.string vs'),.x (.string cs'),.x (.int .i64 cc'),.x (.int .i64 cr'),.x (.string ts'),.x (.int .i64 tc'),.x (.int .i64 tr'),.sl nl' sz' (l'.map av) none])] [4,5,6] A0b A0a h1 A0Y ?_;clear h1 a w1;intro a w1 h1;rw[wpOpsIn_cons];refine k9 (n:=50) (A1:=A (pre1++[[rgV (rg c.hd)]])) (Ax:=Ax (pre1++[[rgV (rg c.hd)]])) (l:=l) rfl (d:=41) rfl A0b rfl rfl rfl h1 (u:=rgV (rg c.hd)) rfl (by rw[rgV,dc];rfl) (fun O1 m1 w2 vs ha hv=>hy pre1 _ O1 m1 w2 vs hokp ha (by rw[rgV,dc] at hv;exact hv) rfl) ?_ ?_
         . clear h1 a w1;intro a w1 h1;refine eQ hE (hA _) 5 2 [(0,.x (.func (.yield l) #[] #[])),(3,.row 12 1 kk),(26,.sl en 13 (lv.map av) none),(27,.x (.int .i64 (lv.length:Int))),(28,.x (.int .i64 ((i:Nat):Int))),(7,.ptr 7 0),(43,.x (.bool false))] [(12,B2++G2),(7,[.x (.int .i64 k'),.x (.string op'),.x (.string nm'),.x (.int .i64 vk'),.x (.int .i64 vn'),.x (.string vs'),.x (.string cs'),.x (.int .i64 cc'),.x (.int .i64 cr'),.x (.string ts'),.x (.int .i64 tc'),.x (.int .i64 tr'),.sl nl' sz' (l'.map av) none])] [] A0b A0a h1 A0d ?_;clear h1 a w1;intro a w1 h1;refine cB hE hm (hA _) [(0,.x (.func (.yield l) #[] #[])),(3,.row 12 1 kk),(26,.sl en 13 (lv.map av) none),(27,.x (.int .i64 (lv.length:Int))),(28,.x (.int .i64 ((i:Nat):Int))),(7,.ptr 7 0)] [(12,B2++G2),(7,[.x (.int .i64 k'),.x (.string op'),.x (.string nm'),.x (.int .i64 vk'),.x (.int .i64 vn'),.x (.string vs'),.x (.string cs'),.x (.int .i64 cc'),.x (.int .i64 cr'),.x (.string ts'),.x (.int .i64 tc'),.x (.int .i64 tr'),.sl nl' sz' (l'.map av) none])] A0a h1 A0d ?_;clear h1 a w1;intro a w1 h1;refine cB hE hm (hA _) [(0,.x (.func (.yield l) #[] #[])),(3,.row 48 1 (kk+1)),(26,.sl en 13 (lv.map av) none),(27,.x (.int .i64 (lv.length:Int))),(28,.x (.int .i64 ((i:Nat):Int)))] [(48,B2++[.sl nl' sz' (l'.map av) none])] A0a h1 A0V ?_;clear h1 a w1;intro a w1 h1;refine hLI a w1 _ hnext h1 A0s A0a (fun a3 w3 h3=>h3)
         . clear h1 a w1;intro a w1 h1;refine eQ hE (hX _) 5 2 [(43,.x (.bool true))] [] [] A0b A0a h1 A0d ?_;clear h1 a w1;intro a w1 h1;refine AF hE hm (hX _) [] [] A0a h1 A0d ?_;clear h1 a w1;intro a w1 h1;exact⟨.inr rfl,.inr ⟨_,_,h1⟩⟩
     . have g1:∀(st:St) (d s:Nat) (nl:Bool) (t':Option Nat),(cG [(55,FE eD cO)] (fun d=>d==12)).MB d=false->cS (cG [(55,FE eD cO)] (fun d=>d==12)) st (some d) 28 (.row s 1 kk) (.sl nl 1 [.sl nl' sz' (l'.map av) none] t')=match st.b s with
        |some cs=>some ⟨upd (kill s (kill d st.t)) d (.row d 1 (kk+1)),upd (upd st.b s none) d (some (cs.take (kk*1)++[.sl nl' sz' (l'.map av) none]))⟩
        |none=>none:=fun st d s nl t' h=>kZ (E:=cG [(55,FE eD cO)] (fun d=>d==12)) MR MS MT A0b rfl rfl A0c A0c st d s nl t' h
       have g2:=fun st d s nl t'=>g1 st d s nl t' rfl
       refine wpIn_seq (cB hE hm (hA pre1) [(0,.x (.func (.yield l) #[] #[])),(3,.row 48 1 kk),(26,.sl en 13 (lv.map av) none),(27,.x (.int .i64 (lv.length:Int))),(28,.x (.int .i64 ((i:Nat):Int))),(7,.ptr 7 0)] [(48,B2++G2),(7,[.x (.int .i64 k'),.x (.string op'),.x (.string nm'),.x (.int .i64 vk'),.x (.int .i64 vn'),.x (.string vs'),.x (.string cs'),.x (.int .i64 cc'),.x (.int .i64 cr'),.x (.string ts'),.x (.int .i64 tc'),.x (.int .i64 tr'),.sl nl' sz' (l'.map av) none])] A0a h1 A0Q ?_);clear h1 a w1;intro a w1 h1;cases hq:nR (rg c.hd) with
       |false=>rw[hq] at hcc;refine cB hE hm (hA pre1) [(0,.x (.func (.yield l) #[] #[])),(3,.row 48 1 (kk+1)),(26,.sl en 13 (lv.map av) none),(27,.x (.int .i64 (lv.length:Int))),(28,.x (.int .i64 ((i:Nat):Int)))] [(48,B2++[.sl nl' sz' (l'.map av) none])] A0a h1 A0M ?_;clear h1 a w1;intro a w1 h1;refine hLI a w1 pre1 (hno hq) h1 A0s A0a (fun a3 w3 h3=>h3)
       | true=>
         rw[hq] at hcc;obtain⟨hnext,hmem⟩:=hyes hq;have hokp:NU nd (pre1++[[rgV (rg c.hd)]]):=hnext.come;refine wpIn_seq (wpIn_seq (cB hE hm (hA pre1) [(0,.x (.func (.yield l) #[] #[])),(3,.row 48 1 kk),(26,.sl en 13 (lv.map av) none),(27,.x (.int .i64 (lv.length:Int))),(28,.x (.int .i64 ((i:Nat):Int))),(7,.ptr 7 0),(8,.ptr 8 0),(9,.x (.bool true))] [(48,B2++G2),(7,[.x (.int .i64 k'),.x (.string op'),.x (.string nm'),.x (.int .i64 vk'),.x (.int .i64 vn'),.x (.string vs'),.x (.string cs'),.x (.int .i64 cc'),.x (.int .i64 cr'),.x (.string ts'),.x (.int .i64 tc'),.x (.int .i64 tr'),.sl nl' sz' (l'.map av) none]),(8,[.x (.string (rg c.hd).1.1),.x (.int .i64 (rg c.hd).1.2.1),.x (.int .i64 (rg c.hd).1.2.2),.x (.string (rg c.hd).2.1),.x (.int .i64 (rg c.hd).2.2.1),.x (.int .i64 (rg c.hd).2.2.2)])] A0a h1 A0W ?_));clear h1 a w1;intro a w1 h1;refine wpIn_seq (wpIn_region ?_);refine eQ hE (hA pre1) 0 4 [(0,.x (.func (.yield l) #[] #[])),(3,.row 48 1 kk),(26,.sl en 13 (lv.map av) none),(27,.x (.int .i64 (lv.length:Int))),(28,.x (.int .i64 ((i:Nat):Int))),(7,.ptr 7 0),(37,.x (.bool true)),(38,.x (.bool true)),(39,.x (.func (.yield l) #[] #[])),(40,rgV (rg c.hd))] [(48,B2++G2),(7,[.x (.int .i64 k'),.x (.string op'),.x (.string nm'),.x (.int .i64 vk'),.x (.int .i64 vn'),.x (.string vs'),.x (.string cs'),.x (.int .i64 cc'),.x (.int .i64 cr'),.x (.string ts'),.x (.int .i64 tc'),.x (.int .i64 tr'),.sl nl' sz' (l'.map av) none])] [4,5,6] A0b A0a h1 A0Y ?_;clear h1 a w1;intro a w1 h1;rw[wpOpsIn_cons];refine k9 (n:=50) (A1:=A (pre1++[[rgV (rg c.hd)]])) (Ax:=Ax (pre1++[[rgV (rg c.hd)]])) (l:=l) rfl (d:=41) rfl A0b rfl rfl rfl h1 (u:=rgV (rg c.hd)) rfl (by rw[rgV,dc];rfl) (fun O1 m1 w2 vs ha hv=>hy pre1 _ O1 m1 w2 vs hokp ha (by rw[rgV,dc] at hv;exact hv) rfl) ?_ ?_
         . clear h1 a w1;intro a w1 h1;refine eQ hE (hA _) 5 2 [(0,.x (.func (.yield l) #[] #[])),(3,.row 48 1 kk),(26,.sl en 13 (lv.map av) none),(27,.x (.int .i64 (lv.length:Int))),(28,.x (.int .i64 ((i:Nat):Int))),(7,.ptr 7 0),(43,.x (.bool false))] [(48,B2++G2),(7,[.x (.int .i64 k'),.x (.string op'),.x (.string nm'),.x (.int .i64 vk'),.x (.int .i64 vn'),.x (.string vs'),.x (.string cs'),.x (.int .i64 cc'),.x (.int .i64 cr'),.x (.string ts'),.x (.int .i64 tc'),.x (.int .i64 tr'),.sl nl' sz' (l'.map av) none])] [] A0b A0a h1 A0d ?_;clear h1 a w1;intro a w1 h1;refine cB hE hm (hA _) [(0,.x (.func (.yield l) #[] #[])),(3,.row 48 1 kk),(26,.sl en 13 (lv.map av) none),(27,.x (.int .i64 (lv.length:Int))),(28,.x (.int .i64 ((i:Nat):Int))),(7,.ptr 7 0)] [(48,B2++G2),(7,[.x (.int .i64 k'),.x (.string op'),.x (.string nm'),.x (.int .i64 vk'),.x (.int .i64 vn'),.x (.string vs'),.x (.string cs'),.x (.int .i64 cc'),.x (.int .i64 cr'),.x (.string ts'),.x (.int .i64 tc'),.x (.int .i64 tr'),.sl nl' sz' (l'.map av) none])] A0a h1 A0d ?_;clear h1 a w1;intro a w1 h1;refine cB hE hm (hA _) [(0,.x (.func (.yield l) #[] #[])),(3,.row 48 1 (kk+1)),(26,.sl en 13 (lv.map av) none),(27,.x (.int .i64 (lv.length:Int))),(28,.x (.int .i64 ((i:Nat):Int)))] [(48,B2++[.sl nl' sz' (l'.map av) none])] A0a h1 A0V ?_;clear h1 a w1;intro a w1 h1;refine hLI a w1 _ hnext h1 A0s A0a (fun a3 w3 h3=>h3)
         . clear h1 a w1;intro a w1 h1;refine eQ hE (hX _) 5 2 [(43,.x (.bool true))] [] [] A0b A0a h1 A0d ?_;clear h1 a w1;intro a w1 h1;refine AF hE hm (hX _) [] [] A0a h1 A0d ?_;clear h1 a w1;intro a w1 h1;exact⟨.inr rfl,.inr ⟨_,_,h1⟩⟩
   . have c1:decide ((i:Int)<(lv.length:Int))=false:=Zl A0c;obtain rfl:i=lv.length:=A0c
     refine wpIn_seq (cB hE hm (hA pre1) [(0,.x (.func (.yield l) #[] #[])),(3,.row nm1 1 kk),(29,.x (.bool false))] [(nm1,B2++G2)] A0a h1 A0w ?_);clear h1 a w1;intro a w1 h1;refine wpIn_seq (AE hE hm (hA pre1) 2 [(0,.x (.func (.yield l) #[] #[])),(3,.row nm1 1 kk)] [(nm1,B2++G2)] A0a h1 A0d ?_);clear h1 a w1;intro a w1 h1;obtain⟨ho1,ho2⟩:=hI1.out hsm;refine⟨(rr,G2,nm1,pre1),⟨hnm1,ho1,?_⟩,?_⟩
     . simp only[hBe2,<-hkk];exact h1
     . simp only[f0];rw[<-hM];exact ho2
theorem ur (cs:Array Value) (w:World):Calls Try.prog 40 #[.agg cs] w fun e w'=>e= .returned (.func (.func 54) #[] #[.pointer (some ⟨w.heap.size,0,none⟩)])∧w'=w.alloc (.cells cs 30):=by
 go_enter Try.func40,Try.ntmps40
 go_wp2
 go_ret
 exact⟨rfl,rfl⟩
variable {m:Lim} {w:World}
theorem yC {v:Value} {cs0:List V} {ty:TypeId} (hr:Rd m w v (.agg cs0)):Step (fun _=>False) m w (upd m w.heap.size none) (w.alloc (.cells v.cells ty))∧Rd (upd m w.heap.size none) (w.alloc (.cells v.cells ty)) (.pointer (some ⟨w.heap.size,0,none⟩)) (.ip cs0):=by
 have hs:Step (fun _=>False) m w (upd m w.heap.size none) (w.alloc (.cells v.cells ty)):=Step.of_below ((Below.refl _ w).alloc (Zt _) _) (fun k hk=>ag _ _ (aaq hk));obtain⟨cs,rfl,hl⟩:=Rd.agg_iff.1 hr;have hlen:=hl.length;refine⟨hs,.ip _ 0 cs0 (fun k=>(Value.agg cs).cells.getD k Go.undef) A0l (fun k hk=>?_) (fun fr hf=>by rw[ai] at hf;cases hf) (fun k d hd=>?_)⟩
 . have hh:(w.alloc (.cells (Value.agg cs).cells ty)).heap[w.heap.size]?=some (.cells (Value.agg cs).cells ty (0,0)):=World.heap_new w _;rw[Box.cell hh];have:k<(Value.agg cs).cells.size:=by show k<cs.size;simp at hlen;omega
   rw[Zm,ZJ this,ZF,ZJ this];rfl
 . have hlt:k<cs.size:=by have:=(tl.1 hd).1;simp at hlen;omega
   have e:(Value.agg cs).cells.getD k Go.undef=cs[k]:=by show cs.getD k Go.undef=_;rw[ZF,ZJ hlt];rfl
   rw[e];exact(hl.get k cs[k] d A0l hd).mono hs.ext
theorem dJ {E:Env} {n:Nat} {D:List Deferred} {O:Nat->Prop} {st:St} {a:Act} (h:Now E n D O m st a w) (i:Nat) {u:V} (hi:st.t i=u) (hu:u.dat=true):Rd m w (a.tmps.getD i Go.undef) u:=by obtain⟨b,β,hr⟩:=h.rel;exact(hi▸hr.tmps i:Rs m w β _ u).dat hu
def EC (c:C3) (q:R2):Bool:=T5 q.1.1 q.1.2.1 q.1.2.2 q.2.1 q.2.2.1 q.2.2.2 c.1 c.2.1 c.2.2
theorem jk (p q:C3) (e:aa p=aa q):p=q:=by obtain⟨a,b,c⟩:=p;obtain⟨a',b',c'⟩:=q;simp only[aa,V.agg.injEq,Z2,V.x.injEq,Value.string.injEq,Value.int.injEq,abI,aaZ] at e;obtain⟨rfl,rfl,rfl⟩:=e;rfl
theorem GK (x y:List UInt8):Op.bytesLess x y=decide (x<y):=by
 induction x generalizing y with
 |nil=>cases y<;>simp[Op.bytesLess]
 | cons a x ih=>
   cases y with
   |nil=>simp[Op.bytesLess]
   |cons b y=>simp[Op.bytesLess,ih,List.cons_lt_cons_iff,Bool.decide_or,acu,Bool.beq_eq_decide_eq]
variable {a b:List UInt8}
theorem Dj {c:List UInt8} (h:Op.bytesLess a b=true) (k:Op.bytesLess b c=true):Op.bytesLess a c=true:=by rw[GK] at*;exact Zk (List.lt_trans (ZO h) (ZO k))
theorem KU (h:Op.bytesLess a b=false) (k:Op.bytesLess b a=false):a=b:=by rw[GK] at*;exact List.le_antisymm (abl k) (abl h)
theorem KV {a b:ByteArray} (h:a.toList=b.toList):a=b:=by rw[Lib.toList_data,Lib.toList_data] at h;exact ByteArray.ext (aae.1 h)
structure Tot {α:Type} (lt:α->α->Bool):Prop where
 irr:∀a,lt a a=false
 trans:∀a b c,lt a b=true->lt b c=true->lt a c=true
 tri:∀a b,lt a b=false->lt b a=false->a=b
theorem bQ:Tot ab:=by
 refine⟨?_,?_,?_⟩
 . rintro⟨s,c,r⟩;simp[ab,gC]
 . rintro⟨s,c,r⟩ ⟨s',c',r'⟩ ⟨s2,c2,r2⟩ h k;simp only[ab,gC] at*;by_cases e1:s=s'
   . subst e1;rw[Zp rfl] at h;by_cases e2:s=s2
     . subst e2;rw[Zp rfl] at k⊢;by_cases f1:r=r'
       . subst f1;rw[Zp rfl] at h;by_cases f2:r=r2
         . subst f2;rw[Zp rfl] at k⊢;have:=ZO h;have:=ZO k;exact Zk A0c
         . rw[Zs f2] at k⊢;exact k
       . rw[Zs f1] at h;have:=ZO h;by_cases f2:r'=r2
         . subst f2;rw[Zs f1];exact h
         . rw[Zs f2] at k;have:=ZO k;rw[Zs A0c];exact Zk A0c
     . rw[Zs e2] at k⊢;exact k
   . rw[Zs e1] at h;by_cases e2:s'=s2
     . subst e2;rw[Zs e1];exact h
     . rw[Zs e2] at k;have h3:=Dj h k;by_cases e3:s=s2
       . subst e3;rw[kw] at h3;cases h3
       . rw[Zs e3];exact h3
 . rintro⟨s,c,r⟩ ⟨s',c',r'⟩ h k;simp only[ab,gC] at*;by_cases e1:s=s'
   . subst e1;rw[Zp rfl] at h k;by_cases f1:r=r'
     . subst f1;rw[Zp rfl] at h k;have:=abl h;have:=abl k;rw[show c=c' from by omega]
     . rw[Zs f1] at h;rw[Zs (fun e=>f1 e.symm)] at k;have:=abl h;have:=abl k;omega
   . rw[Zs e1] at h;rw[Zs (fun e=>e1 e.symm)] at k;exact absurd (KV (KU h k)) e1
abbrev iF {α:Type} (lt:α->α->Bool) (l:List α):Prop:=l.Pairwise fun a b=>lt a b=true
theorem nT {α:Type} {lt:α->α->Bool} (ht:Tot lt):∀{a b:List α},iF lt a->iF lt b->(∀x,x∈a↔x∈b)->a=b
 |[],[],_,_,_=>rfl
 |[],y::b,_,_,h=>absurd ((h y).2 (ZP ..)) A0l
 |x::a,[],_,_,h=>absurd ((h x).1 (ZP ..)) A0l
 | x ::a,y::b,ha,hb,h=>by
   have ha':=aaK.1 ha;have hb':=aaK.1 hb;have exy:x=y:=by
    rcases ZE.1 ((h x).1 (ZP ..)) with e|e
    . exact e
    . rcases ZE.1 ((h y).2 (ZP ..)) with f|f
      . exact f.symm
      . have h1:=hb'.1 x e;have h2:=ha'.1 y f;have h3:=ht.trans _ _ _ h1 h2;rw[ht.irr] at h3;cases h3
   subst exy;congr 1;refine nT ht ha'.2 hb'.2 (fun z=>⟨fun hz=>?_,fun hz=>?_⟩)
   . rcases ZE.1 ((h z).1 (ZI _ hz)) with e|e
     . subst e;have:=ha'.1 z hz;rw[ht.irr] at this;cases this
     . exact e
   . rcases ZE.1 ((h z).2 (ZI _ hz)) with e|e
     . subst e;have:=hb'.1 z hz;rw[ht.irr] at this;cases this
     . exact e
variable {l:List C3} {p:C3}
theorem ie:Ml l p=true↔p∈l:=by
 unfold Ml;rw[aaF];constructor
 . rintro⟨q,hq,he⟩;rw[<-ZO he];exact hq
 . exact fun h=>⟨p,h,Zk rfl⟩
theorem ut {q:C3}:q∈fy l p↔q∈l∨q=p:=by
 unfold fy;split
 . rename_i h;exact⟨.inl,fun hx=>hx.elim id (fun e=>e▸ie.1 h)⟩
 . have e:q∈l↔q∈l.takeWhile (fun q=>ab q p)∨q∈l.dropWhile (fun q=>ab q p):=by rw[<-Zv,aaQ]
   rw[Zv,ZE,e];constructor
   . rintro(h|h|h)
     . exact .inl (.inl h)
     . exact .inr h
     . exact .inl (.inr h)
   . rintro((h|h)|h)
     . exact .inl h
     . exact .inr (.inr h)
     . exact .inr (.inl h)
theorem KW (hs:iF ab l):∀q∈l.dropWhile (fun q=>ab q p),ab q p=false:=by
 induction l with
 |nil=>intro q h;cases h
 | cons x l ih=>
   have hs':=aaK.1 hs;intro q h;cases hx:ab x p with
   |true=>simp only[List.dropWhile,hx] at h;exact ih hs'.2 q h
   | false=>
     simp only[List.dropWhile,hx] at h;rcases ZE.1 h with rfl|h
     . exact hx
     . cases hq:ab q p with
       |false=>rfl
       |true=>rw[bQ.trans _ _ _ (hs'.1 q h) hq] at hx;exact hx
theorem KX:∀q∈l.takeWhile (fun q=>ab q p),ab q p=true:=by
 induction l with
 |nil=>intro q h;cases h
 | cons x l ih=>
   intro q h;cases hx:ab x p with
   | true=>
     simp only[List.takeWhile,hx] at h;rcases ZE.1 h with rfl|h
     . exact hx
     . exact ih q h
   |false=>simp only[List.takeWhile,hx] at h;cases h
theorem uu (hs:iF ab l):iF ab (fy l p):=by
 unfold fy;split
 . exact hs
 . rename_i hn;have e:=aaQ (p:=fun q=>ab q p) (l:=l);have hs2:iF ab (l.takeWhile (fun q=>ab q p)++l.dropWhile (fun q=>ab q p)):=by rw[e];exact hs
   have h2:=aaC.1 hs2;have hd:=KW (p:=p) hs;have hlt:∀q∈l.dropWhile (fun q=>ab q p),ab p q=true:=fun q hq=>by
    cases hpq:ab p q with
    |true=>rfl
    |false=>have:=bQ.tri _ _ hpq (hd q hq);subst this;exact absurd (ie.2 ((List.dropWhile_sublist _).subset hq)) hn
   refine aaC.2 ⟨h2.1,aaK.2 ⟨hlt,h2.2.1⟩,fun a ha b hb=>?_⟩;rcases ZE.1 hb with rfl|hb
   . exact KX a ha
   . exact h2.2.2 a ha b hb
theorem nU (c:List C3):∀(acc:List C3) (q:C3),q∈c.foldl fy acc↔q∈acc∨q∈c:=by
 induction c with
 |nil=>intro acc q;simp
 |cons p c ih=>intro acc q;rw[aao,ih,ut,ZE,or_assoc]
theorem nV (c:List C3):∀{acc:List C3},iF ab acc->iF ab (c.foldl fy acc):=by
 induction c with
 |nil=>exact fun h=>h
 |cons p c ih=>exact fun h=>ih (uu h)
theorem uv (h:Hd):iF ab (iV h):=by
 unfold iV;cases decide (h.k=2)&&bV h.cs h.cc h.cr with
 |true=>exact uu List.Pairwise.nil
 | false=>cases decide (h.k=3) with
   |true=>exact nV _ List.Pairwise.nil
   |false=>exact List.Pairwise.nil
mutual
theorem lh:∀a:Nd,iF ab (aJ a)
 | .leaf h=>by rw[aJ];exact uv h
 | .mk h l=>by rw[aJ];exact nW l (uv h)
theorem nW:∀(l:List Nd) {acc:List C3},iF ab acc->iF ab (fA acc l)
 |[],_,h=>by rw[fA];exact h
 |n::l,_,h=>by rw[fA];exact nW l (nV _ h)
end
variable {s:ByteArray} {c r:Int} {k:Nat}
theorem KY {i:Nat} (h:i<k):(kx s c r k)[i]?=some (s,c+(i:Int),r):=by unfold kx;rw[Io,aav h];rfl
theorem lq (s:ByteArray) (c r:Int) (k:Nat):∀(h i:Nat),i<h*k->(c9 s c r k h)[i]?=some (s,c+((i%k:Nat):Int),r+((i/k:Nat):Int))
 |0,i,hi=>by simp at hi
 | h +1,i,hi=>by
   have hlen:=dI s c r k h;unfold c9;rcases aac i (h*k) with hlt|hge
   . rw[Zy A0c];exact lq s c r k h i hlt
   . rw[ZQ A0c,hlen];rw[aau,abE] at hi;obtain⟨j,rfl⟩:∃j,i=h*k+j:=⟨i-h*k,A0c⟩;have hj:j<k:=A0c
     rw[aaU,KY hj];have e1:(h*k+j)%k=j:=by rw[abW,Nat.mul_add_mod,abx hj]
     have e2:(h*k+j)/k=h:=by rw[abW,Nat.mul_add_div A0c,Nat.div_eq_of_lt hj];omega
     rw[e1,e2]
variable {s':ByteArray} {c' r':Int}
theorem AO {s0:ByteArray} {c0 r0:Int}:T5 s c r s' c' r' s0 c0 r0=true↔j7 s c r s' c' r'=true∧s0=s∧c<=c0∧c0<=c'∧r<=r0∧r0<=r':=by simp[T5]
theorem NW {h:Nat} {c2 r2:Int} (hok:j7 s c r s c2 r2=true) (hc:c2=c+(k:Int)-1) (hr:r2=r+(h:Int)-1) (s0:ByteArray) (c0 r0:Int):
 ((c9 s c r k h).any fun p=>gq p (s0,c0,r0))=T5 s c r s c2 r2 s0 c0 r0:=by
 rw[abc,AO,aaF];constructor
 . rintro⟨p,hp,he⟩;have he:=ZO he;obtain⟨i,hi⟩:=aaO hp;have hlt:=(tl.1 hi).1;rw[dI] at hlt;have hk:0<k:=by
    rcases abB k with h0|h0
    . subst h0;simp at hlt
    . exact h0
   rw[lq s c r k h i hlt] at hi;cases hi;cases he;have h1:=Nat.mod_lt i hk;have h2:i/k<h:=(Nat.div_lt_iff_lt_mul hk).2 hlt;generalize i%k=a at h1⊢;generalize i/k=b at h2⊢;exact⟨hok,rfl,A0c,A0c,A0c,A0c⟩
 . rintro⟨_,rfl,h1,h2,h3,h4⟩;obtain⟨a,ha⟩:∃a:Nat,c0-c=a:=⟨(c0-c).toNat,A0c⟩;obtain⟨b,hb⟩:∃b:Nat,r0-r=b:=⟨(r0-r).toNat,A0c⟩;have hak:a<k:=A0c
   have hbh:b<h:=A0c
   have hlt:b*k+a<h*k:=Ar hbh hak;have:=lq s0 c r k h (b*k+a) hlt;have e1:(b*k+a)%k=a:=by rw[abW,Nat.mul_add_mod,abx hak]
   have e2:(b*k+a)/k=b:=by rw[abW,Nat.mul_add_div A0c,Nat.div_eq_of_lt hak];omega
   rw[e1,e2] at this;refine⟨_,Zo this,Zk ?_⟩;rw[show c+(a:Int)=c0 from by omega,show r+(b:Int)=r0 from by omega]
theorem lr (p:C3):p∈(dR s c r s' c' r').getD []↔nR ((s,c,r),(s',c',r'))=true∧EC p ((s,c,r),(s',c',r'))=true:=by
 unfold nR EC;simp only[Zq,ZV];unfold dR;by_cases h:j7 s c r s' c' r'=true∧cV c r c' r'<=400
 . rw[Zp h,aaE];obtain⟨_,_,hss,hc,hr⟩:=ku.1 h.1;subst hss;have:=NW (s:=s) (c:=c) (r:=r) (k:=(c'-c+1).toNat) (h:=(r'-r+1).toNat) h.1 A0c A0c p.1 p.2.1 p.2.2;rw[<-this];exact⟨fun hp=>⟨h,ie.2 hp⟩,fun hp=>ie.1 hp.2⟩
 . rw[Zs h];exact⟨fun hp=>absurd hp (aa3),fun hp=>absurd hp.1 h⟩
theorem KZ (s:ByteArray) (c r:Int):nR ((s,c,r),(s,c,r))=bV s c r:=by
 have e1:j7 s c r s c r=bV s c r:=by simp[j7]
 have e2:cV c r c r=1:=by unfold cV;rw[Int.sub_self,Int.sub_self];rfl
 simp[nR,e1,e2]
theorem NX (p:C3):p=(s,c,r)∧bV s c r=true↔nR ((s,c,r),(s,c,r))=true∧EC p ((s,c,r),(s,c,r))=true:=by
 have e1:j7 s c r s c r=bV s c r:=by simp[j7]
 obtain⟨s0,c0,r0⟩:=p;rw[KZ,EC,AO,e1];constructor
 . rintro⟨e,h⟩;cases e;exact⟨h,h,rfl,aa5 _,aa5 _,aa5 _,aa5 _⟩
 . rintro⟨h,_,e,h1,h2,h3,h4⟩;have e1:c0=c:=by simp only at h1 h2;omega
   have e2:r0=r:=by simp only at h3 h4;omega
   simp only at e;exact⟨by rw[e,e1,e2],h⟩
theorem uw (h:Hd) (p:C3):p∈iV h↔∃q∈eS h,EC p q=true:=by
 have hS:(∃q∈eS h,EC p q=true)↔nR (rg h)=true∧EC p (rg h)=true:=by
  unfold eS;by_cases ho:nR (rg h)=true
  . rw[Zp ho];simp[ho]
  . rw[Zs ho];simp[ho]
 rw[hS];unfold iV rg;by_cases h2:h.k=2
 . rw[Zp h2,Zk h2];rw[<-NX];have d3:decide (h.k=3)=false:=Zl A0c;cases hr:bV h.cs h.cc h.cr with
   |true=>rw[aaY,cond_true,ut];simp
   |false=>rw[aaY,acv,d3,acv];simp
 . rw[Zs h2,Zl h2,abG,acv];by_cases h3:h.k=3
   . rw[Zp h3,Zk h3,cond_true,nU];rw[<-lr];simp[nO]
   . rw[Zs h3,Zl h3,acv];have:nR ((⟨#[]⟩,0,0),(⟨#[]⟩,0,0))=false:=by rw[nR,nS,abG]
     simp[this]
mutual
theorem pZ:∀(a:Nd) (p:C3),p∈aJ a↔∃q∈allN a,EC p q=true
 | .leaf h,p=>by rw[aJ,allN];exact uw h p
 | .mk h l,p=>by rw[aJ,nX l,uw,allN];simp only[Zv,or_and_right,exists_or]
theorem nX:∀(l:List Nd) (acc:List C3) (p:C3),p∈fA acc l↔p∈acc∨∃q∈allL l,EC p q=true
 |[],acc,p=>by rw[fA,allL];simp
 |n::l,acc,p=>by rw[fA,nX l,nU,pZ n,allL];simp only[Zv,or_and_right,exists_or,or_assoc]
end
theorem ux {a:Nd} (hs:iF ab l) (hm:∀p,p∈l↔∃q∈allN a,EC p q=true):l=aJ a:=
 nT bQ hs (lh a) (fun p=>(hm p).trans (pZ a p).symm)
theorem GL:∀(a:Nd),∀q∈allN a,nR q=true:=by
 have hs:∀(h:Hd),∀q∈eS h,nR q=true:=fun h q hq=>by
  unfold eS at hq;split at hq
  . rename_i ho;rw[Zn.1 hq];exact ho
  . cases hq
 intro a;refine Nd.rec (motive_1:=fun a=>∀q∈allN a,nR q=true) (motive_2:=fun l=>∀q∈allL l,nR q=true) ?_ ?_ ?_ ?_ a
 . intro h q hq;rw[allN] at hq;exact hs h q hq
 . intro h l ih q hq;rw[allN,Zv] at hq;exact hq.elim (hs h q) (ih q)
 . intro q hq;cases hq
 . intro n l i1 i2 q hq;rw[allL,Zv] at hq;exact hq.elim (i1 q) (i2 q)
end Go.Proofs.Ytmfojhkjbkombaa
