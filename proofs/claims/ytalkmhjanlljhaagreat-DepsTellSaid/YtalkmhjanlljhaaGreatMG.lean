/- What a node itself reads: refs.rangeOf. -/
import Derived.Test.YtalkmhjanlljhaaGreatMT
import Derived.Test.YtalkmhjanlljhaaGreatML
import Derived.Test.YtalkmhjanlljhaaGreatMI
import Derived.Test.YtalkmhjanlljhaaGreatMR
import Derived.Sort.Walk0
namespace Go.Proofs.YtalkmhjanlljhaaGreat
set_option linter.unusedSimpArgs false
set_option maxHeartbeats 16000000
set_option maxRecDepth 100000
open Go Go.RowKit
attribute [go_sem] Tryz.results80
abbrev R2:=C3×C3
def rgV (q:R2):V:= .agg [.x (.string q.1.1),.x (.int .i64 q.1.2.1),.x (.int .i64 q.1.2.2),.x (.string q.2.1),.x (.int .i64 q.2.2.1),.x (.int .i64 q.2.2.2)]
def rg (h:Hd):R2:=if h.k=2 then ((h.cs,h.cc,h.cr),(h.cs,h.cc,h.cr)) else if h.k=3 then ((h.cs,h.cc,h.cr),(h.ts,h.tc,h.tr)) else ((⟨#[]⟩,0,0),(⟨#[]⟩,0,0))
def n7 (q:R2):Bool:=kq q.1.1 q.1.2.1 q.1.2.2 q.2.1 q.2.2.1 q.2.2.2&&decide (b9 q.1.2.1 q.1.2.2 q.2.2.1 q.2.2.2<=400)
def cS (nd:Nd):Option V:=some (.tup [rgV (rg nd.hd),.x (.bool (n7 (rg nd.hd)))])
theorem n8:kq ⟨#[]⟩ 0 0 ⟨#[]⟩ 0 0=false:=by decide
theorem tF:bM 80 (FE c9 cS):=by
 refine av (E:=au [(81,dW)]) (k:=1) (aM _ ⟨td,trivial⟩) (by kernel_rfl) Tryz.func80 rfl (fun a w=>Tryz.call80 a w) Tryz.ntmps80 (by kernel_rfl) (by decide) (by decide) ?_;intro us r hF hdat;obtain⟨nd,hus,hG⟩:=aZ hF;clear hF;subst hus;have hF:=hG;clear hG;cases hF;clear hdat;simp only[c9];obtain⟨k,op,nm,vk,vn,vs,cs,cc,cr,ts,tc,tr,l,nl,sz,hh,hl,hf,hs⟩:=bS nd;rw[hf,hh];refine⟨rfl,?_⟩;simp only[rgV,n7];by_cases h2:k=2
 . subst h2;have e:rg ⟨2,op,nm,vk,vn,vs,cs,cc,cr,ts,tc,tr⟩=((cs,cc,cr),(cs,cc,cr)):=rfl;simp only[e];cases ho:kq cs cc cr cs cc cr
   . have ha:=cx ho;simp +decide (maxDischargeDepth:=200) only[go_sem,Wl,dW,ha,ho,W8]
   . have ha:=fA ho;cases hq:decide (b9 cc cr cc cr<=400)
     . simp +decide (maxDischargeDepth:=200) only[go_sem,Wl,dW,ha,ho,hq,Wo]
     . simp +decide (maxDischargeDepth:=200) only[go_sem,Wl,dW,ha,ho,hq,Wo]
 . have d2:=tl h2;by_cases h3:k=3
   . subst h3;have e:rg ⟨3,op,nm,vk,vn,vs,cs,cc,cr,ts,tc,tr⟩=((cs,cc,cr),(ts,tc,tr)):=rfl;simp only[e];cases ho:kq cs cc cr ts tc tr
     . have ha:=cx ho;simp +decide (maxDischargeDepth:=200) only[go_sem,Wl,dW,ha,ho,W8]
     . have ha:=fA ho;cases hq:decide (b9 cc cr tc tr<=400)
       . simp +decide (maxDischargeDepth:=200) only[go_sem,Wl,dW,ha,ho,hq,Wo]
       . simp +decide (maxDischargeDepth:=200) only[go_sem,Wl,dW,ha,ho,hq,Wo]
   . have d3:=tl h3;have e:rg ⟨k,op,nm,vk,vn,vs,cs,cc,cr,ts,tc,tr⟩=((⟨#[]⟩,0,0),(⟨#[]⟩,0,0)):=by unfold rg;rw[Vh h2,Vh h3]
     have ha:=cx n8;simp only[e];simp +decide (maxDischargeDepth:=200) only[go_sem,dW,ha,n8,d2,d3,W8]
def fh (h:Hd):List R2:=if n7 (rg h)=true then [rg h] else []
mutual
def allN:Nd->List R2
 | .leaf h=>fh h
 | .mk h l=>fh h++allL l
def allL:List Nd->List R2
 |[]=>[]
 |n::l=>allN n++allL l
end
theorem mF (a:Nd):allN a=fh a.hd++allL a.ks:=by cases a<;>simp only[allN,allL,Nd.hd,Nd.ks,Wq]
abbrev Lv:=Bool×Nat×List Nd
def Cx (e:Lv):V:= .sl e.1 e.2.1 (e.2.2.map am) none
def lvC:List Lv->Nat
 |[]=>0
 |e::r=>cntL e.2.2+lvC r
structure OutI (nd:Nd) (pre:List (List V)) (r:List Lv):Prop where
 ok:∀e∈r,e.2.2≠[]->e.2.1=13
 small:2*lvC r+r.length<=801
 sub:∀e∈r,∀q∈allL e.2.2,q∈allN nd
 full:∀q∈allN nd,[rgV q]∈pre∨∃e∈r,q∈allL e.2.2
 come:∀x∈pre,∃q∈allN nd,x=[rgV q]
structure InI (nd:Nd) (lv:List Nd) (M:Nat) (pre:List (List V)) (r:List Lv) (i:Nat):Prop where
 ok:∀e∈r,e.2.2≠[]->e.2.1=13
 small:2*lvC r+r.length+2*cntL (lv.drop i)+i+1<=M
 sub:∀e∈r,∀q∈allL e.2.2,q∈allN nd
 subL:∀q∈allL lv,q∈allN nd
 full:∀q∈allN nd,[rgV q]∈pre∨(∃e∈r,q∈allL e.2.2)∨q∈allL (lv.drop i)
 come:∀x∈pre,∃q∈allN nd,x=[rgV q]
def KL (nd:Nd) (pre:List (List V)):Prop:=∀x∈pre,∃q∈allN nd,x=[rgV q]
def EF (nd:Nd) (xs:List (List V)):Prop:=KL nd xs∧∀q∈allN nd,[rgV q]∈xs
theorem EG {l:List Nd} {n:Nd} (h:n∈l) {q:R2} (hq:q∈allN n):q∈allL l:=by
 induction l with
 |nil=>cases h
 | cons a l ih=>
   rw[allL,Vl];rcases Vf.1 h with rfl|h
   . exact .inl hq
   . exact .inr (ih h)
variable {nd:Nd} {pre:List (List V)}
theorem OutI.into {e:Lv} {r:List Lv} (h:OutI nd pre (e::r)):InI nd e.2.2 (2*lvC (e::r)+(e::r).length) pre r 0:=
 ⟨fun x hx=>h.ok x (Vr _ hx),by simp only[lvC,XQ,U3];omega,fun x hx=>h.sub x (Vr _ hx),h.sub e (Vv ..),fun q hq=>by
  rcases h.full q hq with h1|⟨x,hx,h1⟩
  . exact .inl h1
  . rcases Vf.1 hx with rfl|hx
    . exact .inr (.inr h1)
    . exact .inr (.inl ⟨x,hx,h1⟩),h.come⟩
variable {i:Nat}
theorem HY {l:List Nd} {c:Nd} (h:l[i]?=some c):l.drop i=c::l.drop (i+1):=by obtain⟨hi,rfl⟩:=Io.1 h;exact WZ hi
variable {lv:List Nd} {M:Nat}
theorem InI.next {r:List Lv} (h:InI nd lv M pre r i) {c:Nd} (hc:lv[i]?=some c) {nl:Bool} {sz:Nat} {l:List Nd} (hl:c.ks=l) (hs:l≠[]->sz=13):
 (n7 (rg c.hd)=false->InI nd lv M pre ((nl,sz,l)::r) (i+1))∧(n7 (rg c.hd)=true->InI nd lv M (pre++[[rgV (rg c.hd)]]) ((nl,sz,l)::r) (i+1)∧rg c.hd∈allN nd):=by
 have hd:=HY hc;have hm:c∈lv:=Vd hc;have hsmall:2*lvC ((nl,sz,l)::r)+((nl,sz,l)::r).length+2*cntL (lv.drop (i+1))+(i+1)+1<=M:=by have h1:=h.small;have h2:=iS c;rw[hd] at h1;rw[hl] at h2;simp only[lvC,U3,cntL] at h1⊢;omega
 have hself:∀q∈allN c,q∈fh c.hd∨q∈allL l:=fun q hq=>by rw[mF,Vl,hl] at hq;exact hq
 have hin:∀q∈allN c,q∈allN nd:=fun q hq=>h.subL q (EG hm hq)
 have hok:∀e∈(nl,sz,l)::r,e.2.2≠[]->e.2.1=13:=fun e he=>by
  rcases Vf.1 he with rfl|he
  . exact hs
  . exact h.ok e he
 have hsub:∀e∈(nl,sz,l)::r,∀q∈allL e.2.2,q∈allN nd:=fun e he q hq=>by
  rcases Vf.1 he with rfl|he
  . exact hin q (by rw[mF,Vl,hl];exact .inr hq)
  . exact h.sub e he q hq
 refine⟨fun hq=>⟨hok,hsmall,hsub,h.subL,fun q hq1=>?_,h.come⟩,fun hq=>⟨⟨hok,hsmall,hsub,h.subL,fun q hq1=>?_,fun x hx=>?_⟩,?_⟩⟩
 . rcases h.full q hq1 with h1|⟨e,he,h1⟩|h1
   . exact .inl h1
   . exact .inr (.inl ⟨e,Vr _ he,h1⟩)
   . rw[hd,allL,Vl] at h1;rcases h1 with h1|h1
     . rcases hself q h1 with h2|h2
       . simp[fh,hq] at h2
       . exact .inr (.inl ⟨_,Vv ..,h2⟩)
     . exact .inr (.inr h1)
 . rcases h.full q hq1 with h1|⟨e,he,h1⟩|h1
   . exact .inl (VQ _ h1)
   . exact .inr (.inl ⟨e,Vr _ he,h1⟩)
   . rw[hd,allL,Vl] at h1;rcases h1 with h1|h1
     . rcases hself q h1 with h2|h2
       . simp only[fh,hq,Vi,Vo] at h2;subst h2;exact .inl (by simp)
       . exact .inr (.inl ⟨_,Vv ..,h2⟩)
     . exact .inr (.inr h1)
 . rcases Vl.1 hx with hx|hx
   . exact h.come x hx
   . obtain rfl:=Vo.1 hx;exact⟨_,hin _ (by rw[mF,Vl];left;simp[fh,hq]),rfl⟩
 . exact hin _ (by rw[mF,Vl];left;simp[fh,hq])
theorem InI.out {r:List Lv} (h:InI nd lv M pre r lv.length) (hM:M<=801):OutI nd pre r∧2*lvC r+r.length<M:=by
 have h1:=h.small;refine⟨⟨h.ok,by omega,h.sub,fun q hq=>?_,h.come⟩,by omega⟩;rcases h.full q hq with h1|h1|h1
 . exact .inl h1
 . exact .inr h1
 . rw[List.drop_length] at h1;cases h1
theorem KM (e:Lv) (r:List Lv) (G:List V):(e::r).reverse.map Cx++G=r.reverse.map Cx++Cx e::G:=by simp
theorem EH (r:List Lv):(r.reverse.map Cx).length=r.length:=by simp
noncomputable def Qe:Env:=cG [(80,FE c9 cS)] (fun d=>d==12)
theorem EI:EnvOK Qe:=qH _ _ ⟨tF,trivial⟩
theorem tG (nd:Nd) (h400:jF nd<=400) {m:Lim} {w:World} {lb:Array Value} {cs0:List V} (hnd:am nd= .agg cs0) (hr:RdL m w lb.toList [.ip cs0]):kg (au []) (fun _=>False) 79 lb (KL nd) (EF nd) m w:=by
 refine qP (E:=cG [(80,FE c9 cS)] (fun d=>d==12)) (n:=50) (us:=[.ip cs0]) Tryz.func79 rfl Tryz.ntmps79 Tryz.results79 (by simp) (by decide) hr rfl (fun g=> .undef _) ?_;intro l A Ax a0 O hA hX hy h0 _;have hE:EnvOK (cG [(80,FE c9 cS)] (fun d=>d==12)):=EI;have hm:(cG [(80,FE c9 cS)] (fun d=>d==12)).P.follows .mixedOrders=true:=by kernel_rfl
 obtain⟨k,op,nm,vk,vn,vs,cs,cc,cr,ts,tc,tr,ll,nl,sz,hh,hl,hf,hs⟩:=bS nd;obtain rfl:[.x (.int .i64 k),.x (.string op),.x (.string nm),.x (.int .i64 vk),.x (.int .i64 vn),.x (.string vs),.x (.string cs),.x (.int .i64 cc),.x (.int .i64 cr),.x (.string ts),.x (.int .i64 tc),.x (.int .i64 tr),.sl nl sz (ll.map am) none]=cs0:=V.agg.inj (hf.symm.trans hnd);refine wpIn_seq (dh hE hm (hA []) [(0,.x (.func (.yield l) #[] #[])),(3,.row 12 1 1)] [(12,[.sl false 13 [am nd] none])] (by kernel_rfl) h0 (by rw[hf];simp +decide (maxDischargeDepth:=200) only[go_sem,Nat.reduceBEq]<;>(repeat' first|rfl|constructor)) ?_);intro a1 w1 h1;refine wpIn_block ?_;refine ce (X:=List Lv×List V×Nat×List (List V)) (fun x a' w'=>(x.2.2.1=12∨x.2.2.1=48)∧OutI nd x.2.2.2 x.1∧Two (cG [(80,FE c9 cS)] (fun d=>d==12)) 50 O m w (A x.2.2.2) (aq [(0,.x (.func (.yield l) #[] #[])),(3,.row x.2.2.1 1 x.1.length)] [(x.2.2.1,x.1.reverse.map Cx++x.2.1)]) a' w') (fun x=>2*lvC x.1+x.1.length) ([(false,13,[nd])],[],12,[]) ⟨.inl rfl,⟨fun e he=>?_,?_,fun e he=>?_,fun q hq=>?_,fun x hx=>by cases hx⟩,?_⟩ ?_
 . simp at he;subst he;intro _;rfl
 . simp[lvC,cntL];omega
 . simp at he;subst he;intro q hq;simpa[allL] using hq
 . right;exact⟨_,Vo.2 rfl,by simpa[allL] using hq⟩
 . exact h1
 clear h0 h1 a1 w1;rintro⟨r,G,nm0,pre⟩ a w1 ⟨hnm,hI,h1⟩;simp only at hnm hI h1;refine wpIn_seq ?_;cases r with
 |nil=>refine yX hE hm (hA pre) 0 [] [] (by kernel_rfl) h1 (by simp +decide (maxDischargeDepth:=200) only[go_sem,Nat.reduceBEq,VB,show decide ((0:Int)<((0:Nat):Int))=false from rfl]<;>(repeat' first|rfl|constructor)) ?_;intro a' w' h2;exact⟨.inl rfl,.inl ⟨pre,_,⟨hI.come,fun q hq=>by rcases hI.full q hq with h|⟨e,he,_⟩;exact h;cases he⟩,h2⟩⟩
 | cons e r=>
   obtain⟨en,ez,lv⟩:=e;have hB:=EH r;have hsm:=hI.small;have hin:=hI.into;have hez:=hI.ok (en,ez,lv) (Vv ..);simp only at hez;obtain⟨mm,hmm⟩:∃mm,mm=r.length:=⟨_,rfl⟩;have f0:((en,ez,lv)::r).length=mm+1:=by rw[U3,hmm]
   rw[KM,f0] at h1;rw[f0] at hin hsm;generalize hBe:r.reverse.map Cx=B at hB h1;rw[<-hmm] at hB;simp only[Cx] at h1;obtain⟨M,hM⟩:∃M,M=2*lvC ((en,ez,lv)::r)+(mm+1):=⟨_,rfl⟩;rw[<-hM] at hin hsm;have f1:decide ((0:Int)<((mm+1:Nat):Int))=true:=iO (by omega);have f2:ax .i64 (((mm+1:Nat):Int)-1)=((mm:Nat):Int):=by rw[ak (by unfold co;omega)];omega
   have f3:(0:Int)<=((mm:Nat):Int):=by omega
   have f4:((mm:Nat):Int)<((mm+1:Nat):Int):=by omega
   have f4':((mm:Nat):Int)<=((mm+1:Nat):Int):=by omega
   have f5:Int.toNat ((mm:Nat):Int)=mm:=rfl;have f6:=HG (A:=B) (G:=G) (x:= .sl en ez (lv.map am) none) hB;refine dh hE hm (hA pre) [(0,.x (.func (.yield l) #[] #[])),(3,.row nm0 1 (mm+1))] [(nm0,B++ .sl en ez (lv.map am) none::G)] (by kernel_rfl) h1 (by simp +decide (maxDischargeDepth:=200) only[go_sem,Nat.reduceBEq,f1]<;>(repeat' first|rfl|constructor)) ?_;clear h1 a w1;intro a w1 h1;refine wpIn_block ?_;refine wpIn_seq (dh hE hm (hA pre) [(0,.x (.func (.yield l) #[] #[])),(3,.row nm0 1 (mm+1)),(4,.x (.int .i64 ((mm:Nat):Int)))] [(nm0,B++ .sl en ez (lv.map am) none::G)] (by kernel_rfl) h1 (by simp +decide (maxDischargeDepth:=200) only[go_sem,Nat.reduceBEq,f2]<;>(repeat' first|rfl|constructor)) ?_);clear h1 a w1;intro a w1 h1;refine wpIn_seq (dh hE hm (hA pre) [(0,.x (.func (.yield l) #[] #[])),(3,.row nm0 1 (mm+1)),(4,.x (.int .i64 ((mm:Nat):Int))),(5,.sl en ez (lv.map am) none)] [(nm0,B++ .sl en ez (lv.map am) none::G)] (by kernel_rfl) h1 (by simp +decide (maxDischargeDepth:=200) only[go_sem,Nat.reduceBEq,f3,f4,f5,f6,Vq]<;>(repeat' first|rfl|constructor)) ?_);clear h1 a w1;intro a w1 h1;refine wpIn_seq (dh hE hm (hA pre) [(0,.x (.func (.yield l) #[] #[])),(3,.row nm0 1 mm),(5,.sl en ez (lv.map am) none)] [(nm0,B++ .sl en ez (lv.map am) none::G)] (by kernel_rfl) h1 (by simp +decide (maxDischargeDepth:=200) only[go_sem,Nat.reduceBEq,f3,f4',f5]<;>(repeat' first|rfl|constructor)) ?_);clear h1 a w1;intro a w1 h1;refine wpIn_seq (dh hE hm (hA pre) [(0,.x (.func (.yield l) #[] #[])),(3,.row nm0 1 mm),(26,.sl en ez (lv.map am) none),(27,.x (.int .i64 (lv.length:Int))),(28,.x (.int .i64 ((0:Nat):Int)))] [(nm0,B++ .sl en ez (lv.map am) none::G)] (by kernel_rfl) h1 (by simp +decide (maxDischargeDepth:=200) only[go_sem,Nat.reduceBEq,eq]<;>(repeat' first|rfl|constructor)) ?_);clear h1 a w1;intro a w1 h1;refine wpIn_block ?_;refine ce (X:=Nat×List Lv×List V×Nat×List (List V)) (fun x a' w'=>(x.2.2.2.1=12∨x.2.2.2.1=48)∧InI nd lv M x.2.2.2.2 x.2.1 x.1∧x.1<=lv.length∧Two (cG [(80,FE c9 cS)] (fun d=>d==12)) 50 O m w (A x.2.2.2.2) (aq [(0,.x (.func (.yield l) #[] #[])),(3,.row x.2.2.2.1 1 x.2.1.length),(26,.sl en ez (lv.map am) none),(27,.x (.int .i64 (lv.length:Int))),(28,.x (.int .i64 ((x.1:Nat):Int)))] [(x.2.2.2.1,x.2.1.reverse.map Cx++x.2.2.1)]) a' w') (fun x=>lv.length-x.1) (0,r,.sl en ez (lv.map am) none::G,nm0,pre) ⟨hnm,hin,VJ _,?_⟩ ?_
   . simp only[hBe,<-hmm];exact h1
   clear h1 a w1;rintro⟨i,rr,G2,nm1,pre1⟩ a w1 ⟨hnm1,hI1,hi0,h1⟩;simp only at hnm1 hI1 hi0 h1;have hsm1:=hI1.small;have hB2:=EH rr;obtain⟨kk,hkk⟩:∃kk,kk=rr.length:=⟨_,rfl⟩;rw[<-hkk] at h1 hsm1 hB2;generalize hBe2:rr.reverse.map Cx=B2 at hB2 h1;by_cases hi:i<lv.length
   . obtain rfl:=hez (by intro e;rw[e] at hi;simp at hi);obtain⟨c,hc1,hc2⟩:=kd hi;have c1:decide ((i:Int)<(lv.length:Int))=true:=iO (by omega);have c2:(0:Int)<=(i:Int):=by omega
     have c4:=aF (i:=i) (by omega);obtain⟨k',op',nm',vk',vn',vs',cs',cc',cr',ts',tc',tr',l',nl',sz',hh',hl',hf',hs'⟩:=bS c;have hcc:FE c9 cS [am c]=some (.tup [rgV (rg c.hd),.x (.bool (n7 (rg c.hd)))]):=bC iT _ c;rw[hf'] at hc2 hcc;obtain⟨hno,hyes⟩:=hI1.next hc1 (nl:=nl') (sz:=sz') hl' hs';have hpush:((nl',sz',l')::rr).reverse.map Cx=B2++[.sl nl' sz' (l'.map am) none]:=by rw[<-hBe2];simp[Cx]
     have hk1:((nl',sz',l')::rr).length=kk+1:=by rw[U3,hkk]
     have d5:=Ek (A:=B2) (G:=G2) hB2
     have hLI:∀(a2:Act) (w2:World) (pre2:List (List V)),InI nd lv M pre2 ((nl',sz',l')::rr) (i+1)->Two (cG [(80,FE c9 cS)] (fun d=>d==12)) 50 O m w (A pre2) (aq [(0,.x (.func (.yield l) #[] #[])),(3,.row 48 1 (kk+1)),(26,.sl en 13 (lv.map am) none),(27,.x (.int .i64 (lv.length:Int))),(28,.x (.int .i64 ((i:Nat):Int)))] [(48,B2++[.sl nl' sz' (l'.map am) none])]) a2 w2->∀{ops:List Oper} {Q:Exit->Act->World->Prop} {id:Nat},run (cG [(80,FE c9 cS)] (fun d=>d==12)) (.region id ⟨ops⟩ false) (aq [(0,.x (.func (.yield l) #[] #[])),(3,.row 48 1 (kk+1)),(26,.sl en 13 (lv.map am) none),(27,.x (.int .i64 (lv.length:Int))),(28,.x (.int .i64 ((i:Nat):Int)))] [(48,B2++[.sl nl' sz' (l'.map am) none])]) (nP [(0,.x (.func (.yield l) #[] #[])),(3,.row 48 1 (kk+1)),(26,.sl en 13 (lv.map am) none),(27,.x (.int .i64 (lv.length:Int))),(28,.x (.int .i64 ((i+1:Nat):Int)))] [(48,B2++[.sl nl' sz' (l'.map am) none])])->
      aY (cG [(80,FE c9 cS)] (fun d=>d==12)).any 50 (.region id ⟨ops⟩ false)=true->(∀a3 w3,(∃x':Nat×List Lv×List V×Nat×List (List V),((x'.2.2.2.1=12∨x'.2.2.2.1=48)∧InI nd lv M x'.2.2.2.2 x'.2.1 x'.1∧x'.1<=lv.length∧Two (cG [(80,FE c9 cS)] (fun d=>d==12)) 50 O m w (A x'.2.2.2.2) (aq [(0,.x (.func (.yield l) #[] #[])),(3,.row x'.2.2.2.1 1 x'.2.1.length),(26,.sl en 13 (lv.map am) none),(27,.x (.int .i64 (lv.length:Int))),(28,.x (.int .i64 ((x'.1:Nat):Int)))] [(x'.2.2.2.1,x'.2.1.reverse.map Cx++x'.2.2.1)]) a3 w3)∧lv.length-x'.1<lv.length-i)->Q .normal a3 w3)->(Code.region id ⟨ops⟩ false).wpIn (be none) 0 (cG [(80,FE c9 cS)] (fun d=>d==12)).P Q a2 w2:=by
      intro a2 w2 pre2 hin2 ht ops Q id hrun hok hQ;refine dh hE hm (hA pre2) _ _ hok ht hrun ?_;intro a3 w3 h3;refine hQ a3 w3 ⟨(i+1,(nl',sz',l')::rr,[],48,pre2),⟨.inr rfl,hin2,hi,?_⟩,?_⟩
      . rw[hpush,hk1,Wq];exact h3
      . simp only;omega
     refine wpIn_seq (dh hE hm (hA pre1) [(0,.x (.func (.yield l) #[] #[])),(3,.row nm1 1 kk),(26,.sl en 13 (lv.map am) none),(27,.x (.int .i64 (lv.length:Int))),(28,.x (.int .i64 ((i:Nat):Int))),(29,.x (.bool true))] [(nm1,B2++G2)] (by kernel_rfl) h1 (by simp +decide (maxDischargeDepth:=200) only[go_sem,Nat.reduceBEq,c1]<;>(repeat' first|rfl|constructor)) ?_);clear h1 a w1;intro a w1 h1;refine wpIn_seq (dh hE hm (hA pre1) [(0,.x (.func (.yield l) #[] #[])),(3,.row nm1 1 kk),(26,.sl en 13 (lv.map am) none),(27,.x (.int .i64 (lv.length:Int))),(28,.x (.int .i64 ((i:Nat):Int)))] [(nm1,B2++G2)] (by kernel_rfl) h1 (by simp +decide (maxDischargeDepth:=200) only[go_sem,Nat.reduceBEq]<;>(repeat' first|rfl|constructor)) ?_);clear h1 a w1;intro a w1 h1;refine wpIn_seq (wpIn_block ?_);rcases hnm1 with rfl|rfl
     . have g1:∀(st:St) (d s:Nat) (nl:Bool) (t':Option Nat),(cG [(80,FE c9 cS)] (fun d=>d==12)).MB d=false->bi (cG [(80,FE c9 cS)] (fun d=>d==12)) st (some d) 48 (.row s 1 kk) (.sl nl 1 [.sl nl' sz' (l'.map am) none] t')=match st.b s with
        |some cs=>some ⟨aD (kill s (kill d st.t)) d (.row d 1 (kk+1)),aD (aD st.b s none) d (some (cs.take (kk*1)++[.sl nl' sz' (l'.map am) none]))⟩
        |none=>none:=fun st d s nl t' h=>jn (E:=cG [(80,FE c9 cS)] (fun d=>d==12)) JG JH JI (by decide) rfl rfl (by omega) (by omega) st d s nl t' h
       have g2:=fun st d s nl t'=>g1 st d s nl t' rfl
       refine wpIn_seq (dh hE hm (hA pre1) [(0,.x (.func (.yield l) #[] #[])),(3,.row 12 1 kk),(26,.sl en 13 (lv.map am) none),(27,.x (.int .i64 (lv.length:Int))),(28,.x (.int .i64 ((i:Nat):Int))),(7,.ptr 7 0)] [(12,B2++G2),(7,[.x (.int .i64 k'),.x (.string op'),.x (.string nm'),.x (.int .i64 vk'),.x (.int .i64 vn'),.x (.string vs'),.x (.string cs'),.x (.int .i64 cc'),.x (.int .i64 cr'),.x (.string ts'),.x (.int .i64 tc'),.x (.int .i64 tr'),.sl nl' sz' (l'.map am) none])] (by kernel_rfl) h1 (by simp +decide (maxDischargeDepth:=200) only[go_sem,Nat.reduceBEq,hc2,c2,c1,eq]<;>(repeat' first|rfl|constructor)) ?_);clear h1 a w1;intro a w1 h1;cases hq:n7 (rg c.hd) with
       |false=>rw[hq] at hcc;refine dh hE hm (hA pre1) [(0,.x (.func (.yield l) #[] #[])),(3,.row 48 1 (kk+1)),(26,.sl en 13 (lv.map am) none),(27,.x (.int .i64 (lv.length:Int))),(28,.x (.int .i64 ((i:Nat):Int)))] [(48,B2++[.sl nl' sz' (l'.map am) none])] (by kernel_rfl) h1 (by simp +decide (maxDischargeDepth:=200) only[go_sem,Nat.reduceBEq,hcc,rgV,g2,Vq,d5]<;>(repeat' first|rfl|constructor)) ?_;clear h1 a w1;intro a w1 h1;refine hLI a w1 pre1 (hno hq) h1 (by simp +decide (maxDischargeDepth:=200) only[go_sem,Nat.reduceBEq,c4]<;>(repeat' first|rfl|constructor)) (by kernel_rfl) (fun a3 w3 h3=>h3)
       | true=>
         rw[hq] at hcc;obtain⟨hnext,hmem⟩:=hyes hq;have hokp:KL nd (pre1++[[rgV (rg c.hd)]]):=hnext.come;refine wpIn_seq (wpIn_seq (dh hE hm (hA pre1) [(0,.x (.func (.yield l) #[] #[])),(3,.row 12 1 kk),(26,.sl en 13 (lv.map am) none),(27,.x (.int .i64 (lv.length:Int))),(28,.x (.int .i64 ((i:Nat):Int))),(7,.ptr 7 0),(8,.ptr 8 0),(9,.x (.bool true))] [(12,B2++G2),(7,[.x (.int .i64 k'),.x (.string op'),.x (.string nm'),.x (.int .i64 vk'),.x (.int .i64 vn'),.x (.string vs'),.x (.string cs'),.x (.int .i64 cc'),.x (.int .i64 cr'),.x (.string ts'),.x (.int .i64 tc'),.x (.int .i64 tr'),.sl nl' sz' (l'.map am) none]),(8,[.x (.string (rg c.hd).1.1),.x (.int .i64 (rg c.hd).1.2.1),.x (.int .i64 (rg c.hd).1.2.2),.x (.string (rg c.hd).2.1),.x (.int .i64 (rg c.hd).2.2.1),.x (.int .i64 (rg c.hd).2.2.2)])] (by kernel_rfl) h1 (by simp +decide (maxDischargeDepth:=200) only[go_sem,Nat.reduceBEq,hcc,rgV]<;>(repeat' first|rfl|constructor)) ?_));clear h1 a w1;intro a w1 h1;refine wpIn_seq (wpIn_region ?_);refine dX hE (hA pre1) 0 4 [(0,.x (.func (.yield l) #[] #[])),(3,.row 12 1 kk),(26,.sl en 13 (lv.map am) none),(27,.x (.int .i64 (lv.length:Int))),(28,.x (.int .i64 ((i:Nat):Int))),(7,.ptr 7 0),(37,.x (.bool true)),(38,.x (.bool true)),(39,.x (.func (.yield l) #[] #[])),(40,rgV (rg c.hd))] [(12,B2++G2),(7,[.x (.int .i64 k'),.x (.string op'),.x (.string nm'),.x (.int .i64 vk'),.x (.int .i64 vn'),.x (.string vs'),.x (.string cs'),.x (.int .i64 cc'),.x (.int .i64 cr'),.x (.string ts'),.x (.int .i64 tc'),.x (.int .i64 tr'),.sl nl' sz' (l'.map am) none])] [4,5,6] (by decide) (by kernel_rfl) h1 (by simp +decide (maxDischargeDepth:=200) only[go_sem,Nat.reduceBEq,rgV]<;>(repeat' first|rfl|constructor)) ?_;clear h1 a w1;intro a w1 h1;rw[wpOpsIn_cons];refine js (n:=50) (A1:=A (pre1++[[rgV (rg c.hd)]])) (Ax:=Ax (pre1++[[rgV (rg c.hd)]])) (l:=l) rfl (d:=41) rfl (by decide) rfl rfl rfl h1 (u:=rgV (rg c.hd)) rfl (by rw[rgV,di];rfl) (fun O1 m1 w2 vs ha hv=>hy pre1 _ O1 m1 w2 vs hokp ha (by rw[rgV,di] at hv;exact hv) rfl) ?_ ?_
         . clear h1 a w1;intro a w1 h1;refine dX hE (hA _) 5 2 [(0,.x (.func (.yield l) #[] #[])),(3,.row 12 1 kk),(26,.sl en 13 (lv.map am) none),(27,.x (.int .i64 (lv.length:Int))),(28,.x (.int .i64 ((i:Nat):Int))),(7,.ptr 7 0),(43,.x (.bool false))] [(12,B2++G2),(7,[.x (.int .i64 k'),.x (.string op'),.x (.string nm'),.x (.int .i64 vk'),.x (.int .i64 vn'),.x (.string vs'),.x (.string cs'),.x (.int .i64 cc'),.x (.int .i64 cr'),.x (.string ts'),.x (.int .i64 tc'),.x (.int .i64 tr'),.sl nl' sz' (l'.map am) none])] [] (by decide) (by kernel_rfl) h1 (by simp +decide (maxDischargeDepth:=200) only[go_sem,Nat.reduceBEq]<;>(repeat' first|rfl|constructor)) ?_;clear h1 a w1;intro a w1 h1;refine dh hE hm (hA _) [(0,.x (.func (.yield l) #[] #[])),(3,.row 12 1 kk),(26,.sl en 13 (lv.map am) none),(27,.x (.int .i64 (lv.length:Int))),(28,.x (.int .i64 ((i:Nat):Int))),(7,.ptr 7 0)] [(12,B2++G2),(7,[.x (.int .i64 k'),.x (.string op'),.x (.string nm'),.x (.int .i64 vk'),.x (.int .i64 vn'),.x (.string vs'),.x (.string cs'),.x (.int .i64 cc'),.x (.int .i64 cr'),.x (.string ts'),.x (.int .i64 tc'),.x (.int .i64 tr'),.sl nl' sz' (l'.map am) none])] (by kernel_rfl) h1 (by simp +decide (maxDischargeDepth:=200) only[go_sem,Nat.reduceBEq]<;>(repeat' first|rfl|constructor)) ?_;clear h1 a w1;intro a w1 h1;refine dh hE hm (hA _) [(0,.x (.func (.yield l) #[] #[])),(3,.row 48 1 (kk+1)),(26,.sl en 13 (lv.map am) none),(27,.x (.int .i64 (lv.length:Int))),(28,.x (.int .i64 ((i:Nat):Int)))] [(48,B2++[.sl nl' sz' (l'.map am) none])] (by kernel_rfl) h1 (by simp +decide (maxDischargeDepth:=200) only[go_sem,Nat.reduceBEq,g2,Vq,d5]<;>(repeat' first|rfl|constructor)) ?_;clear h1 a w1;intro a w1 h1;refine hLI a w1 _ hnext h1 (by simp +decide (maxDischargeDepth:=200) only[go_sem,Nat.reduceBEq,c4]<;>(repeat' first|rfl|constructor)) (by kernel_rfl) (fun a3 w3 h3=>h3)
         . clear h1 a w1;intro a w1 h1;refine dX hE (hX _) 5 2 [(43,.x (.bool true))] [] [] (by decide) (by kernel_rfl) h1 (by simp +decide (maxDischargeDepth:=200) only[go_sem,Nat.reduceBEq]<;>(repeat' first|rfl|constructor)) ?_;clear h1 a w1;intro a w1 h1;refine yY hE hm (hX _) [] [] (by kernel_rfl) h1 (by simp +decide (maxDischargeDepth:=200) only[go_sem,Nat.reduceBEq]<;>(repeat' first|rfl|constructor)) ?_;clear h1 a w1;intro a w1 h1;exact⟨.inr rfl,.inr ⟨_,_,h1⟩⟩
     . have g1:∀(st:St) (d s:Nat) (nl:Bool) (t':Option Nat),(cG [(80,FE c9 cS)] (fun d=>d==12)).MB d=false->bi (cG [(80,FE c9 cS)] (fun d=>d==12)) st (some d) 48 (.row s 1 kk) (.sl nl 1 [.sl nl' sz' (l'.map am) none] t')=match st.b s with
        |some cs=>some ⟨aD (kill s (kill d st.t)) d (.row d 1 (kk+1)),aD (aD st.b s none) d (some (cs.take (kk*1)++[.sl nl' sz' (l'.map am) none]))⟩
        |none=>none:=fun st d s nl t' h=>jn (E:=cG [(80,FE c9 cS)] (fun d=>d==12)) JG JH JI (by decide) rfl rfl (by omega) (by omega) st d s nl t' h
       have g2:=fun st d s nl t'=>g1 st d s nl t' rfl
       refine wpIn_seq (dh hE hm (hA pre1) [(0,.x (.func (.yield l) #[] #[])),(3,.row 48 1 kk),(26,.sl en 13 (lv.map am) none),(27,.x (.int .i64 (lv.length:Int))),(28,.x (.int .i64 ((i:Nat):Int))),(7,.ptr 7 0)] [(48,B2++G2),(7,[.x (.int .i64 k'),.x (.string op'),.x (.string nm'),.x (.int .i64 vk'),.x (.int .i64 vn'),.x (.string vs'),.x (.string cs'),.x (.int .i64 cc'),.x (.int .i64 cr'),.x (.string ts'),.x (.int .i64 tc'),.x (.int .i64 tr'),.sl nl' sz' (l'.map am) none])] (by kernel_rfl) h1 (by simp +decide (maxDischargeDepth:=200) only[go_sem,Nat.reduceBEq,hc2,c2,c1,eq]<;>(repeat' first|rfl|constructor)) ?_);clear h1 a w1;intro a w1 h1;cases hq:n7 (rg c.hd) with
       |false=>rw[hq] at hcc;refine dh hE hm (hA pre1) [(0,.x (.func (.yield l) #[] #[])),(3,.row 48 1 (kk+1)),(26,.sl en 13 (lv.map am) none),(27,.x (.int .i64 (lv.length:Int))),(28,.x (.int .i64 ((i:Nat):Int)))] [(48,B2++[.sl nl' sz' (l'.map am) none])] (by kernel_rfl) h1 (by simp +decide (maxDischargeDepth:=200) only[go_sem,Nat.reduceBEq,hcc,rgV,g2,Vq,d5]<;>(repeat' first|rfl|constructor)) ?_;clear h1 a w1;intro a w1 h1;refine hLI a w1 pre1 (hno hq) h1 (by simp +decide (maxDischargeDepth:=200) only[go_sem,Nat.reduceBEq,c4]<;>(repeat' first|rfl|constructor)) (by kernel_rfl) (fun a3 w3 h3=>h3)
       | true=>
         rw[hq] at hcc;obtain⟨hnext,hmem⟩:=hyes hq;have hokp:KL nd (pre1++[[rgV (rg c.hd)]]):=hnext.come;refine wpIn_seq (wpIn_seq (dh hE hm (hA pre1) [(0,.x (.func (.yield l) #[] #[])),(3,.row 48 1 kk),(26,.sl en 13 (lv.map am) none),(27,.x (.int .i64 (lv.length:Int))),(28,.x (.int .i64 ((i:Nat):Int))),(7,.ptr 7 0),(8,.ptr 8 0),(9,.x (.bool true))] [(48,B2++G2),(7,[.x (.int .i64 k'),.x (.string op'),.x (.string nm'),.x (.int .i64 vk'),.x (.int .i64 vn'),.x (.string vs'),.x (.string cs'),.x (.int .i64 cc'),.x (.int .i64 cr'),.x (.string ts'),.x (.int .i64 tc'),.x (.int .i64 tr'),.sl nl' sz' (l'.map am) none]),(8,[.x (.string (rg c.hd).1.1),.x (.int .i64 (rg c.hd).1.2.1),.x (.int .i64 (rg c.hd).1.2.2),.x (.string (rg c.hd).2.1),.x (.int .i64 (rg c.hd).2.2.1),.x (.int .i64 (rg c.hd).2.2.2)])] (by kernel_rfl) h1 (by simp +decide (maxDischargeDepth:=200) only[go_sem,Nat.reduceBEq,hcc,rgV]<;>(repeat' first|rfl|constructor)) ?_));clear h1 a w1;intro a w1 h1;refine wpIn_seq (wpIn_region ?_);refine dX hE (hA pre1) 0 4 [(0,.x (.func (.yield l) #[] #[])),(3,.row 48 1 kk),(26,.sl en 13 (lv.map am) none),(27,.x (.int .i64 (lv.length:Int))),(28,.x (.int .i64 ((i:Nat):Int))),(7,.ptr 7 0),(37,.x (.bool true)),(38,.x (.bool true)),(39,.x (.func (.yield l) #[] #[])),(40,rgV (rg c.hd))] [(48,B2++G2),(7,[.x (.int .i64 k'),.x (.string op'),.x (.string nm'),.x (.int .i64 vk'),.x (.int .i64 vn'),.x (.string vs'),.x (.string cs'),.x (.int .i64 cc'),.x (.int .i64 cr'),.x (.string ts'),.x (.int .i64 tc'),.x (.int .i64 tr'),.sl nl' sz' (l'.map am) none])] [4,5,6] (by decide) (by kernel_rfl) h1 (by simp +decide (maxDischargeDepth:=200) only[go_sem,Nat.reduceBEq,rgV]<;>(repeat' first|rfl|constructor)) ?_;clear h1 a w1;intro a w1 h1;rw[wpOpsIn_cons];refine js (n:=50) (A1:=A (pre1++[[rgV (rg c.hd)]])) (Ax:=Ax (pre1++[[rgV (rg c.hd)]])) (l:=l) rfl (d:=41) rfl (by decide) rfl rfl rfl h1 (u:=rgV (rg c.hd)) rfl (by rw[rgV,di];rfl) (fun O1 m1 w2 vs ha hv=>hy pre1 _ O1 m1 w2 vs hokp ha (by rw[rgV,di] at hv;exact hv) rfl) ?_ ?_
         . clear h1 a w1;intro a w1 h1;refine dX hE (hA _) 5 2 [(0,.x (.func (.yield l) #[] #[])),(3,.row 48 1 kk),(26,.sl en 13 (lv.map am) none),(27,.x (.int .i64 (lv.length:Int))),(28,.x (.int .i64 ((i:Nat):Int))),(7,.ptr 7 0),(43,.x (.bool false))] [(48,B2++G2),(7,[.x (.int .i64 k'),.x (.string op'),.x (.string nm'),.x (.int .i64 vk'),.x (.int .i64 vn'),.x (.string vs'),.x (.string cs'),.x (.int .i64 cc'),.x (.int .i64 cr'),.x (.string ts'),.x (.int .i64 tc'),.x (.int .i64 tr'),.sl nl' sz' (l'.map am) none])] [] (by decide) (by kernel_rfl) h1 (by simp +decide (maxDischargeDepth:=200) only[go_sem,Nat.reduceBEq]<;>(repeat' first|rfl|constructor)) ?_;clear h1 a w1;intro a w1 h1;refine dh hE hm (hA _) [(0,.x (.func (.yield l) #[] #[])),(3,.row 48 1 kk),(26,.sl en 13 (lv.map am) none),(27,.x (.int .i64 (lv.length:Int))),(28,.x (.int .i64 ((i:Nat):Int))),(7,.ptr 7 0)] [(48,B2++G2),(7,[.x (.int .i64 k'),.x (.string op'),.x (.string nm'),.x (.int .i64 vk'),.x (.int .i64 vn'),.x (.string vs'),.x (.string cs'),.x (.int .i64 cc'),.x (.int .i64 cr'),.x (.string ts'),.x (.int .i64 tc'),.x (.int .i64 tr'),.sl nl' sz' (l'.map am) none])] (by kernel_rfl) h1 (by simp +decide (maxDischargeDepth:=200) only[go_sem,Nat.reduceBEq]<;>(repeat' first|rfl|constructor)) ?_;clear h1 a w1;intro a w1 h1;refine dh hE hm (hA _) [(0,.x (.func (.yield l) #[] #[])),(3,.row 48 1 (kk+1)),(26,.sl en 13 (lv.map am) none),(27,.x (.int .i64 (lv.length:Int))),(28,.x (.int .i64 ((i:Nat):Int)))] [(48,B2++[.sl nl' sz' (l'.map am) none])] (by kernel_rfl) h1 (by simp +decide (maxDischargeDepth:=200) only[go_sem,Nat.reduceBEq,g2,Vq,d5]<;>(repeat' first|rfl|constructor)) ?_;clear h1 a w1;intro a w1 h1;refine hLI a w1 _ hnext h1 (by simp +decide (maxDischargeDepth:=200) only[go_sem,Nat.reduceBEq,c4]<;>(repeat' first|rfl|constructor)) (by kernel_rfl) (fun a3 w3 h3=>h3)
         . clear h1 a w1;intro a w1 h1;refine dX hE (hX _) 5 2 [(43,.x (.bool true))] [] [] (by decide) (by kernel_rfl) h1 (by simp +decide (maxDischargeDepth:=200) only[go_sem,Nat.reduceBEq]<;>(repeat' first|rfl|constructor)) ?_;clear h1 a w1;intro a w1 h1;refine yY hE hm (hX _) [] [] (by kernel_rfl) h1 (by simp +decide (maxDischargeDepth:=200) only[go_sem,Nat.reduceBEq]<;>(repeat' first|rfl|constructor)) ?_;clear h1 a w1;intro a w1 h1;exact⟨.inr rfl,.inr ⟨_,_,h1⟩⟩
   . have c1:decide ((i:Int)<(lv.length:Int))=false:=tl (by omega);obtain rfl:i=lv.length:=by omega
     refine wpIn_seq (dh hE hm (hA pre1) [(0,.x (.func (.yield l) #[] #[])),(3,.row nm1 1 kk),(29,.x (.bool false))] [(nm1,B2++G2)] (by kernel_rfl) h1 (by simp +decide (maxDischargeDepth:=200) only[go_sem,Nat.reduceBEq,c1]<;>(repeat' first|rfl|constructor)) ?_);clear h1 a w1;intro a w1 h1;refine wpIn_seq (yX hE hm (hA pre1) 2 [(0,.x (.func (.yield l) #[] #[])),(3,.row nm1 1 kk)] [(nm1,B2++G2)] (by kernel_rfl) h1 (by simp +decide (maxDischargeDepth:=200) only[go_sem,Nat.reduceBEq]<;>(repeat' first|rfl|constructor)) ?_);clear h1 a w1;intro a w1 h1;obtain⟨ho1,ho2⟩:=hI1.out hsm;refine⟨(rr,G2,nm1,pre1),⟨hnm1,ho1,?_⟩,?_⟩
     . simp only[hBe2,<-hkk];exact h1
     . simp only[f0];rw[<-hM];exact ho2
theorem tH (cs:Array Value) (w:World):Calls Tryz.prog 52 #[.agg cs] w fun e w'=>e= .returned (.func (.func 79) #[] #[.pointer (some ⟨w.heap.size,0,none⟩)])∧w'=w.alloc (.cells cs 50):=by
 go_enter Tryz.func52,Tryz.ntmps52
 go_wp2
 go_ret
 exact⟨rfl,rfl⟩
variable {m:Lim} {w:World}
theorem wZ {v:Value} {cs0:List V} {ty:TypeId} (hr:Rd m w v (.agg cs0)):Step (fun _=>False) m w (aD m w.heap.size none) (w.alloc (.cells v.cells ty))∧Rd (aD m w.heap.size none) (w.alloc (.cells v.cells ty)) (.pointer (some ⟨w.heap.size,0,none⟩)) (.ip cs0):=by
 have hs:Step (fun _=>False) m w (aD m w.heap.size none) (w.alloc (.cells v.cells ty)):=Step.of_below ((Below.refl _ w).alloc (Vb _) _) (fun k hk=>ah _ _ (V1 hk));obtain⟨cs,rfl,hl⟩:=Rd.agg_iff.1 hr;have hlen:=hl.length;refine⟨hs,.ip _ 0 cs0 (fun k=>(Value.agg cs).cells.getD k Go.undef) (by simp) (fun k hk=>?_) (fun fr hf=>by rw[ai] at hf;cases hf) (fun k d hd=>?_)⟩
 . have hh:(w.alloc (.cells (Value.agg cs).cells ty)).heap[w.heap.size]?=some (.cells (Value.agg cs).cells ty (0,0)):=World.heap_new w _;rw[Box.cell hh];have:k<(Value.agg cs).cells.size:=by show k<cs.size;simp at hlen;omega
   rw[Vt,Vn this,Ve,Vn this];rfl
 . have hlt:k<cs.size:=by have:=(Io.1 hd).1;simp at hlen;omega
   have e:(Value.agg cs).cells.getD k Go.undef=cs[k]:=by show cs.getD k Go.undef=_;rw[Ve,Vn hlt];rfl
   rw[e];exact(hl.get k cs[k] d (by simp) hd).mono hs.ext
theorem dS {E:Env} {n:Nat} {D:List Deferred} {O:Nat->Prop} {st:St} {a:Act} (h:Now E n D O m st a w) (i:Nat) {u:V} (hi:st.t i=u) (hu:u.dat=true):Rd m w (a.tmps.getD i Go.undef) u:=by obtain⟨b,β,hr⟩:=h.rel;exact(hi▸hr.tmps i:Rs m w β _ u).dat hu
def Cy (c:C3) (q:R2):Bool:=QM q.1.1 q.1.2.1 q.1.2.2 q.2.1 q.2.2.1 q.2.2.2 c.1 c.2.1 c.2.2
theorem jx (p q:C3) (e:aa p=aa q):p=q:=by obtain⟨a,b,c⟩:=p;obtain⟨a',b',c'⟩:=q;simp only[aa,V.agg.injEq,VE,V.x.injEq,Value.string.injEq,Value.int.injEq,Xo,Wx] at e;obtain⟨rfl,rfl,rfl⟩:=e;rfl
theorem EJ (x y:List UInt8):Op.bytesLess x y=decide (x<y):=by
 induction x generalizing y with
 |nil=>cases y<;>simp[Op.bytesLess]
 | cons a x ih=>
   cases y with
   |nil=>simp[Op.bytesLess]
   |cons b y=>simp[Op.bytesLess,ih,List.cons_lt_cons_iff,Bool.decide_or,XZ,Bool.beq_eq_decide_eq]
variable {a b:List UInt8}
theorem BF {c:List UInt8} (h:Op.bytesLess a b=true) (k:Op.bytesLess b c=true):Op.bytesLess a c=true:=by rw[EJ] at*;exact iO (List.lt_trans (Vw h) (Vw k))
theorem HZ (h:Op.bytesLess a b=false) (k:Op.bytesLess b a=false):a=b:=by rw[EJ] at*;exact List.le_antisymm (WE k) (WE h)
theorem H0 {a b:ByteArray} (h:a.toList=b.toList):a=b:=by rw[Lib.toList_data,Lib.toList_data] at h;exact ByteArray.ext (V3.1 h)
structure Tot {α:Type} (lt:α->α->Bool):Prop where
 irr:∀a,lt a a=false
 trans:∀a b c,lt a b=true->lt b c=true->lt a c=true
 tri:∀a b,lt a b=false->lt b a=false->a=b
theorem bH:Tot ac:=by
 refine⟨?_,?_,?_⟩
 . rintro⟨s,c,r⟩;simp[ac,dG]
 . rintro⟨s,c,r⟩ ⟨s',c',r'⟩ ⟨s2,c2,r2⟩ h k;simp only[ac,dG] at*;by_cases e1:s=s'
   . subst e1;rw[Va rfl] at h;by_cases e2:s=s2
     . subst e2;rw[Va rfl] at k⊢;by_cases f1:r=r'
       . subst f1;rw[Va rfl] at h;by_cases f2:r=r2
         . subst f2;rw[Va rfl] at k⊢;have:=Vw h;have:=Vw k;exact iO (by omega)
         . rw[Vh f2] at k⊢;exact k
       . rw[Vh f1] at h;have:=Vw h;by_cases f2:r'=r2
         . subst f2;rw[Vh f1];exact h
         . rw[Vh f2] at k;have:=Vw k;rw[Vh (by omega)];exact iO (by omega)
     . rw[Vh e2] at k⊢;exact k
   . rw[Vh e1] at h;by_cases e2:s'=s2
     . subst e2;rw[Vh e1];exact h
     . rw[Vh e2] at k;have h3:=BF h k;by_cases e3:s=s2
       . subst e3;rw[kP] at h3;cases h3
       . rw[Vh e3];exact h3
 . rintro⟨s,c,r⟩ ⟨s',c',r'⟩ h k;simp only[ac,dG] at*;by_cases e1:s=s'
   . subst e1;rw[Va rfl] at h k;by_cases f1:r=r'
     . subst f1;rw[Va rfl] at h k;have:=WE h;have:=WE k;rw[show c=c' from by omega]
     . rw[Vh f1] at h;rw[Vh (fun e=>f1 e.symm)] at k;have:=WE h;have:=WE k;omega
   . rw[Vh e1] at h;rw[Vh (fun e=>e1 e.symm)] at k;exact absurd (H0 (HZ h k)) e1
abbrev fp {α:Type} (lt:α->α->Bool) (l:List α):Prop:=l.Pairwise fun a b=>lt a b=true
theorem iW {α:Type} {lt:α->α->Bool} (ht:Tot lt):∀{a b:List α},fp lt a->fp lt b->(∀x,x∈a↔x∈b)->a=b
 |[],[],_,_,_=>rfl
 |[],y::b,_,_,h=>absurd ((h y).2 (Vv ..)) (by simp)
 |x::a,[],_,_,h=>absurd ((h x).1 (Vv ..)) (by simp)
 | x ::a,y::b,ha,hb,h=>by
   have ha':=Wn.1 ha;have hb':=Wn.1 hb;have exy:x=y:=by
    rcases Vf.1 ((h x).1 (Vv ..)) with e|e
    . exact e
    . rcases Vf.1 ((h y).2 (Vv ..)) with f|f
      . exact f.symm
      . have h1:=hb'.1 x e;have h2:=ha'.1 y f;have h3:=ht.trans _ _ _ h1 h2;rw[ht.irr] at h3;cases h3
   subst exy;congr 1;refine iW ht ha'.2 hb'.2 (fun z=>⟨fun hz=>?_,fun hz=>?_⟩)
   . rcases Vf.1 ((h z).1 (Vr _ hz)) with e|e
     . subst e;have:=ha'.1 z hz;rw[ht.irr] at this;cases this
     . exact e
   . rcases Vf.1 ((h z).2 (Vr _ hz)) with e|e
     . subst e;have:=hb'.1 z hz;rw[ht.irr] at this;cases this
     . exact e
variable {l:List C3} {p:C3}
theorem eI:gZ l p=true↔p∈l:=by
 unfold gZ;rw[Wp];constructor
 . rintro⟨q,hq,he⟩;rw[<-Vw he];exact hq
 . exact fun h=>⟨p,h,iO rfl⟩
theorem tI {q:C3}:q∈aG l p↔q∈l∨q=p:=by
 unfold aG;split
 . rename_i h;exact⟨.inl,fun hx=>hx.elim id (fun e=>e▸eI.1 h)⟩
 . have e:q∈l↔q∈l.takeWhile (fun q=>ac q p)∨q∈l.dropWhile (fun q=>ac q p):=by rw[<-Vl,V2]
   rw[Vl,Vf,e];constructor
   . rintro(h|h|h)
     . exact .inl (.inl h)
     . exact .inr h
     . exact .inl (.inr h)
   . rintro((h|h)|h)
     . exact .inl h
     . exact .inr (.inr h)
     . exact .inr (.inl h)
theorem H1 (hs:fp ac l):∀q∈l.dropWhile (fun q=>ac q p),ac q p=false:=by
 induction l with
 |nil=>intro q h;cases h
 | cons x l ih=>
   have hs':=Wn.1 hs;intro q h;cases hx:ac x p with
   |true=>simp only[List.dropWhile,hx] at h;exact ih hs'.2 q h
   | false=>
     simp only[List.dropWhile,hx] at h;rcases Vf.1 h with rfl|h
     . exact hx
     . cases hq:ac q p with
       |false=>rfl
       |true=>rw[bH.trans _ _ _ (hs'.1 q h) hq] at hx;exact hx
theorem H4:∀q∈l.takeWhile (fun q=>ac q p),ac q p=true:=by
 induction l with
 |nil=>intro q h;cases h
 | cons x l ih=>
   intro q h;cases hx:ac x p with
   | true=>
     simp only[List.takeWhile,hx] at h;rcases Vf.1 h with rfl|h
     . exact hx
     . exact ih q h
   |false=>simp only[List.takeWhile,hx] at h;cases h
theorem tJ (hs:fp ac l):fp ac (aG l p):=by
 unfold aG;split
 . exact hs
 . rename_i hn;have e:=V2 (p:=fun q=>ac q p) (l:=l);have hs2:fp ac (l.takeWhile (fun q=>ac q p)++l.dropWhile (fun q=>ac q p)):=by rw[e];exact hs
   have h2:=WT.1 hs2;have hd:=H1 (p:=p) hs;have hlt:∀q∈l.dropWhile (fun q=>ac q p),ac p q=true:=fun q hq=>by
    cases hpq:ac p q with
    |true=>rfl
    |false=>have:=bH.tri _ _ hpq (hd q hq);subst this;exact absurd (eI.2 ((List.dropWhile_sublist _).subset hq)) hn
   refine WT.2 ⟨h2.1,Wn.2 ⟨hlt,h2.2.1⟩,fun a ha b hb=>?_⟩;rcases Vf.1 hb with rfl|hb
   . exact H4 a ha
   . exact h2.2.2 a ha b hb
theorem eT (c:List C3):∀(acc:List C3) (q:C3),q∈c.foldl aG acc↔q∈acc∨q∈c:=by
 induction c with
 |nil=>intro acc q;simp
 |cons p c ih=>intro acc q;rw[Wc,ih,tI,Vf,or_assoc]
theorem gJ (c:List C3):∀{acc:List C3},fp ac acc->fp ac (c.foldl aG acc):=by
 induction c with
 |nil=>exact fun h=>h
 |cons p c ih=>exact fun h=>ih (tJ h)
theorem tK (h:Hd):fp ac (dH h):=by
 unfold dH;cases decide (h.k=2)&&bE h.cs h.cc h.cr with
 |true=>exact tJ List.Pairwise.nil
 | false=>cases decide (h.k=3) with
   |true=>exact gJ _ List.Pairwise.nil
   |false=>exact List.Pairwise.nil
mutual
theorem lD:∀a:Nd,fp ac (aw a)
 | .leaf h=>by rw[aw];exact tK h
 | .mk h l=>by rw[aw];exact n9 l (tK h)
theorem n9:∀(l:List Nd) {acc:List C3},fp ac acc->fp ac (aQ acc l)
 |[],_,h=>by rw[aQ];exact h
 |n::l,_,h=>by rw[aQ];exact n9 l (gJ _ h)
end
variable {s:ByteArray} {c r:Int} {k:Nat}
theorem H5 (h:i<k):(gF s c r k)[i]?=some (s,c+(i:Int),r):=by unfold gF;rw[U5,Wd h];rfl
theorem lE (s:ByteArray) (c r:Int) (k:Nat):∀(h i:Nat),i<h*k->(bQ s c r k h)[i]?=some (s,c+((i%k:Nat):Int),r+((i/k:Nat):Int))
 |0,i,hi=>by simp at hi
 | h +1,i,hi=>by
   have hlen:=cR s c r k h;unfold bQ;rcases VX i (h*k) with hlt|hge
   . rw[Vg (by omega)];exact lE s c r k h i hlt
   . rw[Vs (by omega),hlen];rw[VP,WW] at hi;obtain⟨j,rfl⟩:∃j,i=h*k+j:=⟨i-h*k,by omega⟩;have hj:j<k:=by omega
     rw[W5,H5 hj];have e1:(h*k+j)%k=j:=by rw[Xm,Nat.mul_add_mod,XS hj]
     have e2:(h*k+j)/k=h:=by rw[Xm,Nat.mul_add_div (by omega),Nat.div_eq_of_lt hj];omega
     rw[e1,e2]
variable {s':ByteArray} {c' r':Int}
theorem y6 {s0:ByteArray} {c0 r0:Int}:QM s c r s' c' r' s0 c0 r0=true↔kq s c r s' c' r'=true∧s0=s∧c<=c0∧c0<=c'∧r<=r0∧r0<=r':=by simp[QM]
theorem KN {h:Nat} {c2 r2:Int} (hok:kq s c r s c2 r2=true) (hc:c2=c+(k:Int)-1) (hr:r2=r+(h:Int)-1) (s0:ByteArray) (c0 r0:Int):
 ((bQ s c r k h).any fun p=>dD p (s0,c0,r0))=QM s c r s c2 r2 s0 c0 r0:=by
 rw[WG,y6,Wp];constructor
 . rintro⟨p,hp,he⟩;have he:=Vw he;obtain⟨i,hi⟩:=VU hp;have hlt:=(Io.1 hi).1;rw[cR] at hlt;have hk:0<k:=by
    rcases Xs k with h0|h0
    . subst h0;simp at hlt
    . exact h0
   rw[lE s c r k h i hlt] at hi;cases hi;cases he;have h1:=XW i hk;have h2:i/k<h:=(Xv hk).2 hlt;generalize i%k=a at h1⊢;generalize i/k=b at h2⊢;exact⟨hok,rfl,by omega,by omega,by omega,by omega⟩
 . rintro⟨_,rfl,h1,h2,h3,h4⟩;obtain⟨a,ha⟩:∃a:Nat,c0-c=a:=⟨(c0-c).toNat,by omega⟩;obtain⟨b,hb⟩:∃b:Nat,r0-r=b:=⟨(r0-r).toNat,by omega⟩;have hak:a<k:=by omega
   have hbh:b<h:=by omega
   have hlt:b*k+a<h*k:=yF hbh hak;have:=lE s0 c r k h (b*k+a) hlt;have e1:(b*k+a)%k=a:=by rw[Xm,Nat.mul_add_mod,XS hak]
   have e2:(b*k+a)/k=b:=by rw[Xm,Nat.mul_add_div (by omega),Nat.div_eq_of_lt hak];omega
   rw[e1,e2] at this;refine⟨_,Vd this,iO ?_⟩;rw[show c+(a:Int)=c0 from by omega,show r+(b:Int)=r0 from by omega]
theorem lF (p:C3):p∈(da s c r s' c' r').getD []↔n7 ((s,c,r),(s',c',r'))=true∧Cy p ((s,c,r),(s',c',r'))=true:=by
 unfold n7 Cy;simp only[U6,Vz];unfold da;by_cases h:kq s c r s' c' r'=true∧b9 c r c' r'<=400
 . rw[Va h,V8];obtain⟨_,_,hss,hc,hr⟩:=ij.1 h.1;subst hss;have:=KN (s:=s) (c:=c) (r:=r) (k:=(c'-c+1).toNat) (h:=(r'-r+1).toNat) h.1 (by omega) (by omega) p.1 p.2.1 p.2.2;rw[<-this];exact⟨fun hp=>⟨h,eI.2 hp⟩,fun hp=>eI.1 hp.2⟩
 . rw[Vh h];exact⟨fun hp=>absurd hp (WK),fun hp=>absurd hp.1 h⟩
theorem H6 (s:ByteArray) (c r:Int):n7 ((s,c,r),(s,c,r))=bE s c r:=by
 have e1:kq s c r s c r=bE s c r:=by simp[kq]
 have e2:b9 c r c r=1:=by unfold b9;rw[Int.sub_self,Int.sub_self];rfl
 simp[n7,e1,e2]
theorem KO (p:C3):p=(s,c,r)∧bE s c r=true↔n7 ((s,c,r),(s,c,r))=true∧Cy p ((s,c,r),(s,c,r))=true:=by
 have e1:kq s c r s c r=bE s c r:=by simp[kq]
 obtain⟨s0,c0,r0⟩:=p;rw[H6,Cy,y6,e1];constructor
 . rintro⟨e,h⟩;cases e;exact⟨h,h,rfl,XX _,XX _,XX _,XX _⟩
 . rintro⟨h,_,e,h1,h2,h3,h4⟩;have e1:c0=c:=by simp only at h1 h2;omega
   have e2:r0=r:=by simp only at h3 h4;omega
   simp only at e;exact⟨by rw[e,e1,e2],h⟩
theorem tL (h:Hd) (p:C3):p∈dH h↔∃q∈fh h,Cy p q=true:=by
 have hS:(∃q∈fh h,Cy p q=true)↔n7 (rg h)=true∧Cy p (rg h)=true:=by
  unfold fh;by_cases ho:n7 (rg h)=true
  . rw[Va ho];simp[ho]
  . rw[Vh ho];simp[ho]
 rw[hS];unfold dH rg;by_cases h2:h.k=2
 . rw[Va h2,iO h2];rw[<-KO];have d3:decide (h.k=3)=false:=tl (by omega);cases hr:bE h.cs h.cc h.cr with
   |true=>rw[Wo,Ya,tI];simp
   |false=>rw[Wo,XK,d3,XK];simp
 . rw[Vh h2,tl h2,W8,XK];by_cases h3:h.k=3
   . rw[Va h3,iO h3,Ya,eT];rw[<-lF];simp[fN]
   . rw[Vh h3,tl h3,XK];have:n7 ((⟨#[]⟩,0,0),(⟨#[]⟩,0,0))=false:=by rw[n7,n8,W8]
     simp[this]
mutual
theorem pF:∀(a:Nd) (p:C3),p∈aw a↔∃q∈allN a,Cy p q=true
 | .leaf h,p=>by rw[aw,allN];exact tL h p
 | .mk h l,p=>by rw[aw,oa l,tL,allN];simp only[Vl,or_and_right,exists_or]
theorem oa:∀(l:List Nd) (acc:List C3) (p:C3),p∈aQ acc l↔p∈acc∨∃q∈allL l,Cy p q=true
 |[],acc,p=>by rw[aQ,allL];simp
 |n::l,acc,p=>by rw[aQ,oa l,eT,pF n,allL];simp only[Vl,or_and_right,exists_or,or_assoc]
end
theorem tO {a:Nd} (hs:fp ac l) (hm:∀p,p∈l↔∃q∈allN a,Cy p q=true):l=aw a:=
 iW bH hs (lD a) (fun p=>(hm p).trans (pF a p).symm)
theorem EK:∀(a:Nd),∀q∈allN a,n7 q=true:=by
 have hs:∀(h:Hd),∀q∈fh h,n7 q=true:=fun h q hq=>by
  unfold fh at hq;split at hq
  . rename_i ho;rw[Vo.1 hq];exact ho
  . cases hq
 intro a;refine Nd.rec (motive_1:=fun a=>∀q∈allN a,n7 q=true) (motive_2:=fun l=>∀q∈allL l,n7 q=true) ?_ ?_ ?_ ?_ a
 . intro h q hq;rw[allN] at hq;exact hs h q hq
 . intro h l ih q hq;rw[allN,Vl] at hq;exact hq.elim (hs h q) (ih q)
 . intro q hq;cases hq
 . intro n l i1 i2 q hq;rw[allL,Vl] at hq;exact hq.elim (i1 q) (i2 q)
end Go.Proofs.YtalkmhjanlljhaaGreat
