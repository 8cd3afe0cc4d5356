/- Sorting by a function value: all of it. -/
import Derived.Sort.Walk13a
import Derived.Sort.LotD3
import Derived.Test.YtmfojhkjbkombaaGreatMS
import Derived.Shelf.SlSortFuncK.BreakPatternsK
import Derived.Sort.Grow
import Derived.Test.YtmfojhkjbkombaaGreatShelf
import Derived.Test.YtmfojhkjbkombaaGreatML
import Derived.Shelf.GgSortFunc.Tiny
import Derived.Shelf.GgSortFunc.Slice
import Derived.Shelf.GgSortFunc.SmallK
import Derived.Test.YtmfojhkjbkombaaGreatMJ
namespace Go.Proofs.YtmfojhkjbkombaaGreat
set_option linter.unusedSimpArgs false
set_option maxHeartbeats 8000000
set_option maxRecDepth 100000
open Go Go.RowKit
open Go.Sort (swp)
attribute [go_sem] Tryz.results59 Tryz.results73
theorem AE {ρ:Type} {p:Prop} {_inst:Decidable p} {o:Option ρ} {r:ρ} (h:(if p then o else none)=some r):p∧o=some r:=by
 by_cases hp:p
 . rw[YG hp] at h;exact⟨hp,h⟩
 . rw[YL hp] at h;cases h
open Go.Sort (SWO Below rd PermIn SortedIn)
theorem gB:SWO ae:=by
 refine⟨bQ.irr,bQ.trans,fun x y z h1 h2=>?_⟩;cases h3:ae x z with
 |false=>rfl
 | true=>
   cases h4:ae y x with
   |true=>rw[bQ.trans _ _ _ h4 h3] at h2;cases h2
   |false=>have:=bQ.tri _ _ h1 h4;subst this;rw[h3] at h2;cases h2
def ye (N:Nat) (x:Nat×Nat×Array C3):Option (V×List (List V)):=if x.1<=x.2.1∧x.2.1<=N∧x.2.2.size=N then some (.tup [],[aC (Go.Sort.breakPatterns x.2.2 x.1 x.2.1)]) else none
open Classical in
noncomputable def up (N n:Nat) (x:Nat×Nat×Nat×Array C3):Option (V×List (List V)):=if x.2.1-x.1<n∧x.1<=x.2.1∧x.2.1<=N∧x.2.2.1<=100∧x.2.2.2.size=N∧Below ae x.1 x.2.1 x.2.2.2 then some (.tup [],[aC (Go.Sort.pdq ae x.2.2.2 x.1 x.2.1 x.2.2.1 true true)]) else none
section
variable {g sf:FuncId} {gl gs:Array Value} {N:Nat}
theorem NE (a b:Nat) (d:Array C3) (h1:a<=b) (h2:b<=N) (h3:d.size=N):FE (dW g sf gl gs) (Gz N) [dK g sf gl gs,.x (.int .i64 (a:Int)),.x (.int .i64 (b:Int)),.bx (aC d)]=some (.tup [],[aC (Go.Sort.insertionSort ae d a b)]):=
 (cq gA (Gz N) (a,b,d)).trans (YG ⟨h1,h2,h3⟩)
theorem KM (a b:Nat) (d:Array C3) (h1:a<=b) (h2:b<=N) (h3:d.size=N):FE (dW g sf gl gs) (uk N) [dK g sf gl gs,.x (.int .i64 (a:Int)),.x (.int .i64 (b:Int)),.bx (aC d)]=some (.tup [],[aC (Go.Sort.heapSort ae d a b)]):=
 (cq gA (uk N) (a,b,d)).trans (YG ⟨h1,h2,h3⟩)
theorem NF (a b:Nat) (d:Array C3) (h1:a<=b) (h2:b<=N) (h3:d.size=N):FE (dW g sf gl gs) (ye N) [dK g sf gl gs,.x (.int .i64 (a:Int)),.x (.int .i64 (b:Int)),.bx (aC d)]=some (.tup [],[aC (Go.Sort.breakPatterns d a b)]):=
 (cq gA (ye N) (a,b,d)).trans (YG ⟨h1,h2,h3⟩)
theorem NG (a b:Nat) (d:Array C3) (h1:a<b) (h2:b<=N) (h3:d.size=N):FE (dW g sf gl gs) (GE N) [dK g sf gl gs,.x (.int .i64 (a:Int)),.x (.int .i64 (b:Int)),.bx (aC d)]=some (.tup [.x (.int .i64 ((Go.Sort.choosePivot ae d a b).1:Int)),.x (.int .i64 (Go.Sort.hintCode (Go.Sort.choosePivot ae d a b).2))],[aC d]):=
 (cq gA (GE N) (a,b,d)).trans (YG ⟨h1,h2,h3⟩)
theorem NH (a b:Nat) (d:Array C3) (h1:a<b) (h2:b<=N) (h3:d.size=N):FE (dW g sf gl gs) (GC N) [dK g sf gl gs,.x (.int .i64 (a:Int)),.x (.int .i64 (b:Int)),.bx (aC d)]=some (.tup [],[aC (Go.Sort.reverseRange d a b)]):=
 (cq gA (GC N) (a,b,d)).trans (YG ⟨h1,h2,h3⟩)
theorem KO (a b:Nat) (d:Array C3) (h1:a<b) (h2:b<=N) (h3:d.size=N):FE (dW g sf gl gs) (un N) [dK g sf gl gs,.x (.int .i64 (a:Int)),.x (.int .i64 (b:Int)),.bx (aC d)]=some (.x (.bool (Go.Sort.partialInsertionSort ae d a b).2),[aC (Go.Sort.partialInsertionSort ae d a b).1]):=
 (cq gA (un N) (a,b,d)).trans (YG ⟨h1,h2,h3⟩)
theorem KP (a b pv:Nat) (d:Array C3) (h1:a<=pv) (h0:pv<b) (h2:b<=N) (h3:d.size=N):FE (fG g sf gl gs) (ul N) [dK g sf gl gs,.x (.int .i64 (a:Int)),.x (.int .i64 (b:Int)),.x (.int .i64 (pv:Int)),.bx (aC d)]=some (.tup [.x (.int .i64 ((Go.Sort.partition ae d a b pv).1:Int)),.x (.bool (Go.Sort.partition ae d a b pv).2.1)],[aC (Go.Sort.partition ae d a b pv).2.2]):=
 (cq kw (ul N) (a,b,pv,d)).trans (YG ⟨h1,h0,h2,h3⟩)
theorem GH (a b pv:Nat) (d:Array C3) (h1:a<=pv) (h0:pv<b) (h2:b<=N) (h3:d.size=N):FE (fG g sf gl gs) (nQ N) [dK g sf gl gs,.x (.int .i64 (a:Int)),.x (.int .i64 (b:Int)),.x (.int .i64 (pv:Int)),.bx (aC d)]=some (.x (.int .i64 ((Go.Sort.partitionEqual ae d a b pv).1:Int)),[aC (Go.Sort.partitionEqual ae d a b pv).2]):=
 (cq kw (nQ N) (a,b,pv,d)).trans (YG ⟨h1,h0,h2,h3⟩)
theorem yf (n a b lim:Nat) (d:Array C3) (h0:b-a<n) (h1:a<=b) (h2:b<=N) (h3:lim<=100) (h4:d.size=N) (h5:Below ae a b d):FE (fG g sf gl gs) (up N n) [dK g sf gl gs,.x (.int .i64 (a:Int)),.x (.int .i64 (b:Int)),.x (.int .i64 (lim:Int)),.bx (aC d)]=some (.tup [],[aC (Go.Sort.pdq ae d a b lim true true)]):=
 (cq kw (up N n) (a,b,lim,d)).trans (YG ⟨h0,h1,h2,h3,h4,h5⟩)
end
variable {G:Nat->V} {bk N:Nat} {g sf:FuncId} {gl gs:Array Value}
theorem GI (hS:SoOK G bk N g sf gl gs) (hB:FunXV G bk 96 [] (FE (dW g sf gl gs) (ye N))) (n:Nat) (ih:FunXV G bk 73 [] (FE (fG g sf gl gs) (up N n))):FunXV G bk 73 [] (FE (fG g sf gl gs) (up N (n+1))):=by
 obtain⟨X,hX,X1,X2,X3⟩:=iz hS [(94,FE (dW g sf gl gs) (Gz N)),(95,FE (dW g sf gl gs) (uk N)),(96,FE (dW g sf gl gs) (ye N)),(97,FE (dW g sf gl gs) (GE N)),(98,FE (dW g sf gl gs) (GC N)),(99,FE (dW g sf gl gs) (un N)),(100,FE (fG g sf gl gs) (nQ N)),(101,FE (fG g sf gl gs) (ul N)),(73,FE (fG g sf gl gs) (up N n))] ⟨Ss hS,NB hS,hB,SA hS,Sx hS,ND hS,KL hS,NC hS,ih,trivial⟩;have hN:=hS.N1;unfold MX at hN;refine cf (k:=4) hX Tryz.func73 rfl (fun a w=>Tryz.call73 a w) Tryz.ntmps73 A0c A0c ?_;clear hX;intro us r outs hF;obtain⟨⟨a,b,lim,d⟩,hus,hG⟩:=bE hF;clear hF;subst hus;unfold up at hG;obtain⟨⟨hn,hab,hbN,hlim,hd,hBel⟩,hG⟩:=AE hG;simp only at hn hab hbN hlim hd hBel;cases hG;refine⟨_,rfl,rfl,fun pm m0 w0 hE=>?_⟩;simp only[fG];obtain⟨P,hP⟩:∃P,Go.Sort.pdq ae d a b lim true true=P:=⟨_,rfl⟩;rw[hP];refine Sem.seq [(1,.x (.int .i64 (a:Int))),(2,.x (.int .i64 (b:Int))),(3,.x (.int .i64 (lim:Int))),(4,.ptr 4 0)] [(4,[.x (.func (.func g) #[] gl),.x (.func (.func sf) #[] gs)]),(1004,aC d)] (Sem.run hE ah A0a A0m) ?_;refine Sem.seq [(1,.x (.int .i64 (a:Int))),(2,.x (.int .i64 (b:Int))),(3,.x (.int .i64 (lim:Int))),(4,.ptr 4 0),(8,.x (.bool true))] [(4,[.x (.func (.func g) #[] gl),.x (.func (.func sf) #[] gs)]),(1004,aC d)] (Sem.run hE ah A0a A0m) ?_;refine Sem.seq [(1,.x (.int .i64 ((a:Nat):Int))),(2,.x (.int .i64 ((b:Nat):Int))),(3,.x (.int .i64 ((lim:Nat):Int))),(4,.ptr 4 0),(8,.x (.bool true)),(9,.x (.bool true))] [(4,[.x (.func (.func g) #[] gl),.x (.func (.func sf) #[] gs)]),(1004,aC d)] (Sem.run hE ah A0a A0m) ?_;refine Sem.block (Sem.loop (X:={x:Nat×Nat×Nat×Bool×Bool×Array C3//x.1<=x.2.1∧x.2.1<=N∧x.2.1-x.1<=b-a∧x.2.2.1<=lim∧x.2.2.2.2.2.size=N∧Below ae x.1 x.2.1 x.2.2.2.2.2∧Go.Sort.pdq ae x.2.2.2.2.2 x.1 x.2.1 x.2.2.1 x.2.2.2.1 x.2.2.2.2.1=P}) (fun x=>[(1,.x (.int .i64 ((x.1.1:Nat):Int))),(2,.x (.int .i64 ((x.1.2.1:Nat):Int))),(3,.x (.int .i64 ((x.1.2.2.1:Nat):Int))),(4,.ptr 4 0),(8,.x (.bool x.1.2.2.2.1)),(9,.x (.bool x.1.2.2.2.2.1))]) (fun x=>[(4,[.x (.func (.func g) #[] gl),.x (.func (.func sf) #[] gs)]),(1004,aC x.1.2.2.2.2.2)]) (fun x=>x.1.2.1-x.1.1) ⟨(a,b,lim,true,true,d),hab,hbN,YJ _,YJ _,hd,hBel,hP⟩ A0e A0e (fun⟨⟨a1,b1,l1,wb,wp,dk⟩,x1,x2,x3,x4,hdk,hBk,heq⟩=>Sem.block ?_));simp only at x1 x2 x3 x4 hdk hBk heq⊢;have w1:aw .i64 ((b1:Int)-(a1:Int))=((b1-a1:Nat):Int):=by rw[ak A0h];omega
 refine Sem.seq [(1,.x (.int .i64 ((a1:Nat):Int))),(2,.x (.int .i64 ((b1:Nat):Int))),(3,.x (.int .i64 ((l1:Nat):Int))),(4,.ptr 4 0),(8,.x (.bool wb)),(9,.x (.bool wp)),(10,.x (.int .i64 ((b1-a1:Nat):Int)))] [(4,[.x (.func (.func g) #[] gl),.x (.func (.func sf) #[] gs)]),(1004,aC dk)] (Sem.run hE ah A0a A0Z) ?_;by_cases h12:b1-a1<=12
 . have c1:decide (((b1-a1:Nat):Int)<=12)=true:=Yz A0b;have e1:=NE (g:=g) (sf:=sf) (gl:=gl) (gs:=gs) (N:=N) a1 b1 dk x1 x2 hdk;rw[<-heq,Go.Sort.pdq_small h12];refine Sem.seq_out (Sem.run hE ah A0a ?_);simp +decide (maxDischargeDepth:=200) only[go_sem,X1,X2,X3,bt,c1,e1]
 have c1:decide (((b1-a1:Nat):Int)<=12)=false:=YA A0b;refine Sem.seq [(1,.x (.int .i64 ((a1:Nat):Int))),(2,.x (.int .i64 ((b1:Nat):Int))),(3,.x (.int .i64 ((l1:Nat):Int))),(4,.ptr 4 0),(8,.x (.bool wb)),(9,.x (.bool wp)),(10,.x (.int .i64 ((b1-a1:Nat):Int)))] [(4,[.x (.func (.func g) #[] gl),.x (.func (.func sf) #[] gs)]),(1004,aC dk)] (Sem.run hE ah A0a A0B) ?_;by_cases hl0:l1=0
 . have c2:decide (((l1:Nat):Int)=0)=true:=Yz A0b;have e1:=KM (g:=g) (sf:=sf) (gl:=gl) (gs:=gs) (N:=N) a1 b1 dk x1 x2 hdk;rw[<-heq,Go.Sort.pdq_heap h12 hl0];refine Sem.seq_out (Sem.run hE ah A0a ?_);simp +decide (maxDischargeDepth:=200) only[go_sem,X1,X2,X3,bt,c2,e1]
 have c2:decide (((l1:Nat):Int)=0)=false:=YA A0b;refine Sem.seq [(1,.x (.int .i64 ((a1:Nat):Int))),(2,.x (.int .i64 ((b1:Nat):Int))),(3,.x (.int .i64 ((l1:Nat):Int))),(4,.ptr 4 0),(8,.x (.bool wb)),(9,.x (.bool wp)),(10,.x (.int .i64 ((b1-a1:Nat):Int)))] [(4,[.x (.func (.func g) #[] gl),.x (.func (.func sf) #[] gs)]),(1004,aC dk)] (Sem.run hE ah A0a A01) ?_;obtain⟨R,hR⟩:∃R,rd ae dk a1 b1 l1 wb wp=R:=⟨_,rfl⟩;obtain⟨s1,B1,hc1,s2,B2,hpv,s3,B3⟩:=Go.Sort.rd_facts (lt:=ae) (limit:=l1) (wb:=wb) (wp:=wp) gB Go.Sort.partialInsertionSort_holds Go.Sort.reverseRange_holds (show a1<b1 by omega) (show b1<=dk.size by omega) hBk;have hlm:=Go.Sort.rd_lim_le (lt:=ae) (d:=dk) (a:=a1) (b:=b1) (limit:=l1) (wb:=wb) (wp:=wp);rw[hR] at s1 B1 hc1 s2 B2 hpv s3 B3 hlm;refine Sem.seq [(1,.x (.int .i64 ((a1:Nat):Int))),(2,.x (.int .i64 ((b1:Nat):Int))),(3,.x (.int .i64 ((R.lim:Nat):Int))),(4,.ptr 4 0),(8,.x (.bool wb)),(9,.x (.bool wp)),(10,.x (.int .i64 ((b1-a1:Nat):Int)))] [(4,[.x (.func (.func g) #[] gl),.x (.func (.func sf) #[] gs)]),(1004,aC R.d1)] (Sem.run hE ah A0a ?_) ?_
 . cases wb with
   |true=>obtain⟨q1,q2⟩:=Go.Sort.rd_true (lt:=ae) (d:=dk) (a:=a1) (b:=b1) (limit:=l1) (wp:=wp);rw[hR] at q1 q2;rw[q1,q2];simp +decide (maxDischargeDepth:=200) only[go_sem,X1,X2,X3,bt]
   | false=>
     obtain⟨q1,q2⟩:=Go.Sort.rd_false (lt:=ae) (d:=dk) (a:=a1) (b:=b1) (limit:=l1) (wp:=wp);rw[hR] at q1 q2;have e1:=NF (g:=g) (sf:=sf) (gl:=gl) (gs:=gs) (N:=N) a1 b1 dk x1 x2 hdk;have w2:aw .i64 ((l1:Int)-1)=((l1-1:Nat):Int):=by rw[ak A0h];omega
     rw[q1,q2];simp +decide (maxDischargeDepth:=200) only[go_sem,X1,X2,X3,bt,e1,w2]
 have ec:=Go.Sort.rd_c (lt:=ae) (d:=dk) (a:=a1) (b:=b1) (limit:=l1) (wb:=wb) (wp:=wp);rw[hR] at ec;have e2:=NG (g:=g) (sf:=sf) (gl:=gl) (gs:=gs) (N:=N) a1 b1 R.d1 A0b x2 (s1.trans hdk);rw[<-ec] at e2;refine Sem.seq [(1,.x (.int .i64 ((a1:Nat):Int))),(2,.x (.int .i64 ((b1:Nat):Int))),(3,.x (.int .i64 ((R.lim:Nat):Int))),(4,.ptr 4 0),(8,.x (.bool wb)),(9,.x (.bool wp)),(10,.x (.int .i64 ((b1-a1:Nat):Int))),(11,.x (.int .i64 ((R.c.1:Nat):Int))),(12,.x (.int .i64 (Go.Sort.hintCode R.c.2)))] [(4,[.x (.func (.func g) #[] gl),.x (.func (.func sf) #[] gs)]),(1004,aC R.d1)] (Sem.run hE ah A0a (by simp +decide (maxDischargeDepth:=200) only[go_sem,X1,X2,X3,bt,e2])) ?_;refine Sem.seq [(1,.x (.int .i64 ((a1:Nat):Int))),(2,.x (.int .i64 ((b1:Nat):Int))),(3,.x (.int .i64 ((R.lim:Nat):Int))),(4,.ptr 4 0),(8,.x (.bool wb)),(9,.x (.bool wp)),(10,.x (.int .i64 ((b1-a1:Nat):Int))),(11,.x (.int .i64 ((R.pivot:Nat):Int))),(12,.x (.int .i64 (Go.Sort.hintCode R.hint)))] [(4,[.x (.func (.func g) #[] gl),.x (.func (.func sf) #[] gs)]),(1004,aC R.d2)] (Sem.run hE ah A0a ?_) ?_
 . by_cases hh:R.c.2= .decreasing
   . obtain⟨q1,q2,q3⟩:=Go.Sort.rd_dec (lt:=ae) (d:=dk) (a:=a1) (b:=b1) (limit:=l1) (wb:=wb) (wp:=wp) (by rw[hR];exact hh);rw[hR] at q1 q2 q3;have e3:=NH (g:=g) (sf:=sf) (gl:=gl) (gs:=gs) (N:=N) a1 b1 R.d1 A0b x2 (s1.trans hdk);rw[<-q1] at e3;have c3:decide (Go.Sort.hintCode R.c.2=2)=true:=by rw[hh];rfl
     have c4:Go.Sort.hintCode R.hint=1:=by rw[q3];rfl
     have w2:aw .i64 ((b1:Int)-1)=((b1-1:Nat):Int):=by rw[ak A0h];omega
     have w3:aw .i64 (((R.c.1:Nat):Int)-(a1:Int))=((R.c.1-a1:Nat):Int):=by rw[ak A0h];omega
     have w4:aw .i64 (((b1-1:Nat):Int)-((R.c.1-a1:Nat):Int))=((R.pivot:Nat):Int):=by rw[ak A0h];omega
     rw[c4];simp +decide (maxDischargeDepth:=200) only[go_sem,X1,X2,X3,bt,c3,e3,w2,w3,w4]
   . obtain⟨q1,q2,q3⟩:=Go.Sort.rd_not (lt:=ae) (d:=dk) (a:=a1) (b:=b1) (limit:=l1) (wb:=wb) (wp:=wp) (by rw[hR];exact hh);rw[hR] at q1 q2 q3
     have c3:decide (Go.Sort.hintCode R.c.2=2)=false:=YA (fun h=>hh (by generalize R.c.2=h0 at h;cases h0<;>first|rfl|(simp[Go.Sort.hintCode] at h)))
     rw[q1,q2,q3];simp +decide (maxDischargeDepth:=200) only[go_sem,X1,X2,X3,bt,c3]
 obtain⟨Q,hQ1,hQ2⟩:∃Q:Prop,(Q->R.pi.2=false)∧(R.pi.2=false->Q):=⟨_,id,id⟩;refine Sem.seqQ Q [(1,.x (.int .i64 ((a1:Nat):Int))),(2,.x (.int .i64 ((b1:Nat):Int))),(3,.x (.int .i64 ((R.lim:Nat):Int))),(4,.ptr 4 0),(8,.x (.bool wb)),(9,.x (.bool wp)),(10,.x (.int .i64 ((b1-a1:Nat):Int))),(11,.x (.int .i64 ((R.pivot:Nat):Int)))] [(4,[.x (.func (.func g) #[] gl),.x (.func (.func sf) #[] gs)]),(1004,aC R.pi.1)] (Sem.run hE ah A0a ?_) (fun hq=>?_)
 . by_cases hin:R.hint= .increasing
   . have c5:decide (Go.Sort.hintCode R.hint=1)=true:=by rw[hin];rfl
     cases hw:(wb&&wp) with
     | true=>
       rw[YH] at hw;obtain⟨hwb,hwp⟩:=hw;have epi:=Go.Sort.rd_pi_yes (lt:=ae) (d:=dk) (a:=a1) (b:=b1) (limit:=l1) (wb:=wb) (wp:=wp) (by rw[hR,hin,hwb,hwp];rfl);rw[hR] at epi;have e4:=KO (g:=g) (sf:=sf) (gl:=gl) (gs:=gs) (N:=N) a1 b1 R.d2 A0b x2 (s2.trans hdk);rw[<-epi] at e4;cases h2:R.pi.2 with
       |true=>rw[h2] at e4;have hf:=Go.Sort.pdq_done (lt:=ae) (wb:=wb) (wp:=wp) h12 hl0 (by rw[hR];exact h2);rw[hR,heq] at hf;rw[hf];simp +decide (maxDischargeDepth:=200) only[go_sem,X1,X2,X3,bt,hwb,hwp,c5,e4]
       |false=>rw[h2] at e4;have q:=hQ2 h2;simp +decide (maxDischargeDepth:=200) only[go_sem,X1,X2,X3,bt,hwb,hwp,c5,e4,q]
     | false=>
       have epi:=Go.Sort.rd_pi_no (lt:=ae) (d:=dk) (a:=a1) (b:=b1) (limit:=l1) (wb:=wb) (wp:=wp) (by rw[hw];rfl);rw[hR] at epi;have q:=hQ2 (by rw[epi]);rw[epi];cases wb with
       |false=>simp +decide (maxDischargeDepth:=200) only[go_sem,X1,X2,X3,bt,c5,q]
       | true=>
         have hwp:wp=false:=by simpa using hw
         simp +decide (maxDischargeDepth:=200) only[go_sem,X1,X2,X3,bt,hwp,c5,q]
   . have c5:decide (Go.Sort.hintCode R.hint=1)=false:=YA (fun h=>hin (by generalize R.hint=h0 at h;cases h0<;>first|rfl|(simp[Go.Sort.hintCode] at h)))
     have epi:=Go.Sort.rd_pi_no (lt:=ae) (d:=dk) (a:=a1) (b:=b1) (limit:=l1) (wb:=wb) (wp:=wp) (by rw[hR,YA hin,Bool.and_false]);rw[hR] at epi;have q:=hQ2 (by rw[epi]);rw[epi];cases wb with
     |false=>simp +decide (maxDischargeDepth:=200) only[go_sem,X1,X2,X3,bt,c5,q]
     | true=>cases wp with
       |false=>simp +decide (maxDischargeDepth:=200) only[go_sem,X1,X2,X3,bt,c5,q]
       |true=>simp +decide (maxDischargeDepth:=200) only[go_sem,X1,X2,X3,bt,c5,q]
 have hp2:=hQ1 hq;clear hQ1 hQ2 hq Q;obtain⟨D,hD⟩:∃D,R.pi.1=D:=⟨_,rfl⟩;rw[hD] at s3 B3⊢;have z3:D.size=N:=s3.trans hdk;cases h87:(decide (a1>0)&& !ae D[a1-1]! D[R.pivot]!) with
 | true=>
   have h87':=h87;simp only[YH,Zh,Z4] at h87';obtain⟨mid,d4,hx⟩:∃mid d4,Go.Sort.partitionEqual ae D a1 b1 R.pivot=(mid,d4):=⟨_,_,rfl⟩;obtain⟨r1,r2,r3,r4,_⟩:=Go.Sort.round_eq gB (Go.Sort.partitionEqual_holds ae) h87'.1 hpv.1 hpv.2 (show b1<=D.size by omega) B3 h87'.2 hx;have e5:=GH (g:=g) (sf:=sf) (gl:=gl) (gs:=gs) (N:=N) a1 b1 R.pivot D hpv.1 hpv.2 x2 z3;rw[hx] at e5;have hl:=cC (N:=N) (a1-1) R.pivot D A0b A0b z3;rw[h87'.2] at hl;have c6:decide ((0:Int)<((a1:Nat):Int))=true:=Yz A0b;have w5:aw .i64 ((a1:Int)-1)=((a1-1:Nat):Int):=by rw[ak A0h];omega
   have hf:=Go.Sort.pdq_eq (lt:=ae) (wb:=wb) (wp:=wp) h12 hl0 (by rw[hR];exact hp2) A1i A03;rw[hR,hD,hx,heq] at hf;simp only at hf;refine Sem.seq_out (Sem.run hE ah A0a ?_);simp +decide (maxDischargeDepth:=200) only[go_sem,X1,X2,X3,bt,c6,w5,hl,e5];refine⟨⟨(mid,b1,R.lim,wb,wp,d4),by simp only;omega,by simp only;omega,by simp only;omega,by simp only;omega,r3.trans z3,r4,hf.symm⟩,?_,?_,by simp only;omega⟩<;>simp +decide only[go_sem]<;>(repeat' first|rfl|constructor)
 | false=>
   refine Sem.seq [(1,.x (.int .i64 ((a1:Nat):Int))),(2,.x (.int .i64 ((b1:Nat):Int))),(3,.x (.int .i64 ((R.lim:Nat):Int))),(4,.ptr 4 0),(8,.x (.bool wb)),(9,.x (.bool wp)),(10,.x (.int .i64 ((b1-a1:Nat):Int))),(11,.x (.int .i64 ((R.pivot:Nat):Int)))] [(4,[.x (.func (.func g) #[] gl),.x (.func (.func sf) #[] gs)]),(1004,aC D)] (Sem.run hE ah A0a ?_) ?_
   . by_cases ha0:0<a1
     . have c6:decide ((0:Int)<((a1:Nat):Int))=true:=Yz A0b;have w5:aw .i64 ((a1:Int)-1)=((a1-1:Nat):Int):=by rw[ak A0h];omega
       have hl:=cC (N:=N) (a1-1) R.pivot D A0b A0b z3;rw[Yz (show a1>0 from ha0),aaO,Bool.not_eq_false'] at h87;rw[h87] at hl;simp +decide (maxDischargeDepth:=200) only[go_sem,X1,X2,X3,bt,c6,w5,hl]
     . have c6:decide ((0:Int)<((a1:Nat):Int))=false:=YA A0b;simp +decide (maxDischargeDepth:=200) only[go_sem,X1,X2,X3,bt,c6]
   obtain⟨mid,ap,d4,hx⟩:∃mid ap d4,Go.Sort.partition ae D a1 b1 R.pivot=(mid,ap,d4):=⟨_,_,_,rfl⟩;obtain⟨r1,r2,r3,r4,r5,r6,r7⟩:=Go.Sort.round_part gB (Go.Sort.partition_holds ae) hpv.1 hpv.2 (show b1<=D.size by omega) B3 hx;have e5:=KP (g:=g) (sf:=sf) (gl:=gl) (gs:=gs) (N:=N) a1 b1 R.pivot D hpv.1 hpv.2 x2 z3;rw[hx] at e5;have z4:d4.size=N:=r3.trans z3;have w6:aw .i64 (((mid:Nat):Int)-(a1:Int))=((mid-a1:Nat):Int):=by rw[ak A0h];omega
   have w7:aw .i64 ((b1:Int)-((mid:Nat):Int))=((b1-mid:Nat):Int):=by rw[ak A0h];omega
   have w8:aw .i64 (((mid:Nat):Int)+1)=((mid+1:Nat):Int):=by rw[ak A0h];omega
   have w9:aw .i64 (((b1-a1:Nat):Int).tdiv 8)=(((b1-a1)/8:Nat):Int):=by rw[abe A0b,ak A0h];omega
   refine Sem.seq [(1,.x (.int .i64 ((a1:Nat):Int))),(2,.x (.int .i64 ((b1:Nat):Int))),(3,.x (.int .i64 ((R.lim:Nat):Int))),(4,.ptr 4 0),(8,.x (.bool wb)),(9,.x (.bool wp)),(10,.x (.int .i64 ((b1-a1:Nat):Int))),(14,.x (.int .i64 ((mid:Nat):Int))),(15,.x (.bool ap))] [(4,[.x (.func (.func g) #[] gl),.x (.func (.func sf) #[] gs)]),(1004,aC d4)] (Sem.run hE ah A0a (by simp +decide (maxDischargeDepth:=200) only[go_sem,X1,X2,X3,bt,e5])) ?_;refine Sem.seq [(1,.x (.int .i64 ((a1:Nat):Int))),(2,.x (.int .i64 ((b1:Nat):Int))),(3,.x (.int .i64 ((R.lim:Nat):Int))),(4,.ptr 4 0),(8,.x (.bool wb)),(9,.x (.bool ap)),(10,.x (.int .i64 ((b1-a1:Nat):Int))),(14,.x (.int .i64 ((mid:Nat):Int)))] [(4,[.x (.func (.func g) #[] gl),.x (.func (.func sf) #[] gs)]),(1004,aC d4)] (Sem.run hE ah A0a A0m) ?_;refine Sem.seq [(1,.x (.int .i64 ((a1:Nat):Int))),(2,.x (.int .i64 ((b1:Nat):Int))),(3,.x (.int .i64 ((R.lim:Nat):Int))),(4,.ptr 4 0),(8,.x (.bool wb)),(9,.x (.bool ap)),(10,.x (.int .i64 ((b1-a1:Nat):Int))),(14,.x (.int .i64 ((mid:Nat):Int))),(16,.x (.int .i64 ((mid-a1:Nat):Int))),(17,.x (.int .i64 ((b1-mid:Nat):Int)))] [(4,[.x (.func (.func g) #[] gl),.x (.func (.func sf) #[] gs)]),(1004,aC d4)] (Sem.run hE ah A0a (by simp +decide (maxDischargeDepth:=200) only[go_sem,X1,X2,X3,bt,w6,w7])) ?_;refine Sem.seq [(1,.x (.int .i64 ((a1:Nat):Int))),(2,.x (.int .i64 ((b1:Nat):Int))),(3,.x (.int .i64 ((R.lim:Nat):Int))),(4,.ptr 4 0),(8,.x (.bool wb)),(9,.x (.bool ap)),(14,.x (.int .i64 ((mid:Nat):Int))),(16,.x (.int .i64 ((mid-a1:Nat):Int))),(17,.x (.int .i64 ((b1-mid:Nat):Int))),(18,.x (.int .i64 (((b1-a1)/8:Nat):Int)))] [(4,[.x (.func (.func g) #[] gl),.x (.func (.func sf) #[] gs)]),(1004,aC d4)] (Sem.run hE ah A0a (by simp +decide (maxDischargeDepth:=200) only[go_sem,X1,X2,X3,bt,w9])) ?_;by_cases h4:mid-a1<b1-mid
   . have c7:decide (((mid-a1:Nat):Int)<((b1-mid:Nat):Int))=true:=Yz A0b;have e8:decide ((((b1-a1)/8:Nat):Int)<=((mid-a1:Nat):Int))=decide (mid-a1≥(b1-a1)/8):=decide_eq_decide.2 ⟨fun h=>by omega,fun h=>by omega⟩;have e9:=yf (g:=g) (sf:=sf) (gl:=gl) (gs:=gs) (N:=N) n a1 mid R.lim d4 A0b r1 A0b A0b z4 r4;obtain⟨pL,sL⟩:=Go.Sort.pdq_sorts ae gB d4 a1 mid R.lim true true r1 A0b r4;have hf:=Go.Sort.pdq_left (lt:=ae) (wb:=wb) (wp:=wp) h12 hl0 (by rw[hR];exact hp2) A1i A03 (by rw[hR,hD,hx];exact h4);rw[hR,hD,hx,heq] at hf;simp only at hf;generalize hB8:decide (mid-a1≥(b1-a1)/8)=b8 at e8 hf;have z5:=pL.1.trans z4;have B5:=(r6 _ pL sL).1;generalize Go.Sort.pdq ae d4 a1 mid R.lim true true=d5 at e9 hf z5 B5;refine Sem.run hE ah A0a ?_;simp +decide (maxDischargeDepth:=200) only[go_sem,X1,X2,X3,bt,c7,e8,e9,w8];refine⟨⟨(mid+1,b1,R.lim,b8,ap,d5),by simp only;omega,by simp only;omega,by simp only;omega,by simp only;omega,z5,B5,hf.symm⟩,?_,?_,by simp only;omega⟩<;>simp +decide only[go_sem]<;>(repeat' first|rfl|constructor)
   . have c7:decide (((mid-a1:Nat):Int)<((b1-mid:Nat):Int))=false:=YA A0b;have e8:decide ((((b1-a1)/8:Nat):Int)<=((b1-mid:Nat):Int))=decide (b1-mid≥(b1-a1)/8):=decide_eq_decide.2 ⟨fun h=>by omega,fun h=>by omega⟩;have e9:=yf (g:=g) (sf:=sf) (gl:=gl) (gs:=gs) (N:=N) n (mid+1) b1 R.lim d4 A0b A0b A0b A0b z4 r5;obtain⟨pL,sL⟩:=Go.Sort.pdq_sorts ae gB d4 (mid+1) b1 R.lim true true A0b A0b r5;have hf:=Go.Sort.pdq_right (lt:=ae) (wb:=wb) (wp:=wp) h12 hl0 (by rw[hR];exact hp2) A1i A03 (by rw[hR,hD,hx];exact h4);rw[hR,hD,hx,heq] at hf;simp only at hf;generalize hB8:decide (b1-mid≥(b1-a1)/8)=b8 at e8 hf;have z5:=pL.1.trans z4;have B5:=(r7 _ pL sL).1;generalize Go.Sort.pdq ae d4 (mid+1) b1 R.lim true true=d5 at e9 hf z5 B5;refine Sem.run hE ah A0a ?_;simp +decide (maxDischargeDepth:=200) only[go_sem,X1,X2,X3,bt,c7,e8,e9,w8];refine⟨⟨(a1,mid,R.lim,b8,ap,d5),by simp only;omega,by simp only;omega,by simp only;omega,by simp only;omega,z5,B5,hf.symm⟩,?_,?_,by simp only;omega⟩<;>simp +decide only[go_sem]<;>(repeat' first|rfl|constructor)
theorem SB (hS:SoOK G bk N g sf gl gs) (hB:FunXV G bk 96 [] (FE (dW g sf gl gs) (ye N))) (n:Nat):FunXV G bk 73 [] (FE (fG g sf gl gs) (up N n)):=by
 induction n with
 |zero=>intro m w vs us bs gs hs r outs hF;obtain⟨⟨a,b,l,d⟩,_,hG⟩:=bE hF;unfold up at hG;obtain⟨⟨h,_⟩,_⟩:=AE hG;exact absurd h (aaB _)
 |succ n ih=>exact GI hS hB n ih
open Go.Sort (putRowK HoldsK flatK)
def cu (p:C3):List Value:=[.string p.1,.int .i64 p.2.1,.int .i64 p.2.2]
theorem dL (d:Array C3):aC d=(d.toList.flatMap cu).map V.x:=by
 unfold aC;generalize d.toList=l
 induction l with
 |nil=>rfl
 |cons p l ih=>rw[ZG,ZG,Y4,ih];rfl
theorem mA:∀(l:List C3) (t:Nat),(l.flatMap cu)[t]?=(l[t/3]?).map fun p=>(cu p)[t%3]!
 |[],t=>by simp
 | p ::l,t=>by
   rw[ZG];rcases Zu t 3 with h|h
   . rw[YN (by show t<3;exact h),Nat.div_eq_of_lt h,Nat.mod_eq_of_lt h];have:t=0∨t=1∨t=2:=A0b
     rcases this with rfl|rfl|rfl<;>rfl
   . rw[Y7 (by show 3<=t;exact h)];show(l.flatMap cu)[t-3]?=_;obtain⟨u,rfl⟩:∃u,t=u+3:=⟨t-3,A0b⟩;rw[Nat.add_sub_cancel,mA l u,show(u+3)/3=u/3+1 from by omega,show(u+3)%3=u%3 from by omega,aaf]
theorem AF (d:Array C3):(flatK cu 3 d).toList=d.toList.flatMap cu:=by
 apply ZO;intro t;rw[mA];unfold flatK;rw[YV,Array.getElem?_map,YV];rcases Zu t (d.size*3) with h|h
 . have h3:t/3<d.size:=A0b
   rw[Array.getElem?_range,YG h,Y3 h3];simp[h3]
 . rw[Array.getElem?_range,YL A0b,aat A0b];rfl
theorem nR {m:Lim} {w:World}:∀{xs l:List Value},RdL m w xs (l.map V.x)->xs=l
 |[],[],_=>rfl
 |x::xs,y::l,h=>by have h1:Rd m w x (.x y):=h.1;cases h1;rw[nR h.2]
theorem nS {m:Lim} {w:World}:∀l:List Value,RdL m w l (l.map V.x)
 |[]=>trivial
 |_::l=>⟨.x _,nS l⟩
variable {m:Lim} {w:World} {d:Array C3}
theorem je {blk:Nat} (h:BoxAt m w blk (aC d)):HoldsK cu 3 w blk 0 d:=by
 obtain⟨_,vals,ty,xs,rest,hh,hv,hr⟩:=h;rw[dL] at hr;have hx:=nR hr;subst hx;intro j hj;have hlen:(flatK cu 3 d).size=d.size*3:=by simp[flatK]
 have e:vals[j]?=(flatK cu 3 d)[j]?:=by rw[<-YV,hv,<-AF,YN A0s,YV]
 have hjs:j<vals.size:=by have h1:=aap List.length hv;rw[<-AF] at h1;simp only[YW,YD] at h1;omega
 refine⟨?_,?_⟩
 . rw[YC,Box.cell hh,e,Y3 hj];exact aap some (abo _ j hj).symm
 . have hok:=ty.ok;have hh':w.heap[blk]?=some (.cells vals ty.ty (ty.fz.1,ty.fz.2)):=hh;generalize ty.fz.1=f1 at hh' hok;generalize ty.fz.2=f2 at hh' hok;simp only[World.frozen?,hh',Bool.and_eq_false_iff,decide_eq_false_iff_not];rcases hok with h2|h2
   . right;omega
   . left;omega
variable {n:Nat} {os:Array Obj} {cur:Array Value} {ty:TypeId}
theorem yg {w1:World} {g:Nat} {d:Array Value} {fr:Nat×Nat} (hh:w1.heap[g]?=some (.cells cur ty fr)):
 (Go.Sort.grow (Go.Sort.putRow id (Go.Sort.ahead w1 n) g 0 d) os).heap[g]?=some (.cells (Go.Sort.putCells id 0 d cur) ty fr)∧∀k,k<w1.heap.size->k≠g->(Go.Sort.grow (Go.Sort.putRow id (Go.Sort.ahead w1 n) g 0 d) os).heap[k]?=w1.heap[k]?:=by
 have hsz:(Go.Sort.putRow id (Go.Sort.ahead w1 n) g 0 d).heap.size=w1.heap.size:=by simp[Go.Sort.putRow,Go.Sort.mapBlock,Go.Sort.ahead]
 refine⟨?_,fun k hk hn=>?_⟩
 . rw[Go.Sort.heap_grow_old _ _ (by rw[hsz];exact ai hh)];show(w1.heap.modify g (Go.Sort.onCells (Go.Sort.putCells id 0 d)))[g]?=_;rw[aaP,YG rfl,hh];rfl
 . rw[Go.Sort.heap_grow_old _ _ (by rw[hsz];exact hk)];show(w1.heap.modify g (Go.Sort.onCells (Go.Sort.putCells id 0 d)))[k]?=_;rw[aaP,YL (fun e=>hn e.symm)]
variable {d':Array C3}
theorem pX {blk:Nat} (h:BoxAt m w blk (aC d)) (hs:d'.size=d.size):
 BoxAt m (Go.Sort.grow (putRowK cu 3 (Go.Sort.ahead w n) blk 0 d') os) blk (aC d')∧Bel [blk] w (Go.Sort.grow (putRowK cu 3 (Go.Sort.ahead w n) blk 0 d') os)∧Ext m w m (Go.Sort.grow (putRowK cu 3 (Go.Sort.ahead w n) blk 0 d') os):=by
 obtain⟨hlim,vals,ty,xs,rest,hh,hv,hr⟩:=h;rw[dL] at hr;have hx:=nR hr;subst hx;have hfl:(flatK cu 3 d').size=d.size*3:=by simp[flatK,hs]
 have hvl:d.size*3<=vals.size:=by
  have h1:=aap List.length hv;rw[<-AF] at h1;have h2:(flatK cu 3 d).size=d.size*3:=by simp[flatK]
  simp only[YW,YD] at h1;omega
 have hsz:w.heap.size<=(Go.Sort.grow (putRowK cu 3 (Go.Sort.ahead w n) blk 0 d') os).heap.size:=by simp[putRowK,Go.Sort.putRow,Go.Sort.mapBlock,Go.Sort.grow,Go.Sort.ahead]
 obtain⟨r1,r2⟩:=yg (w1:=w) (n:=n) (d:=flatK cu 3 d') (os:=os) hh;have hbel:Bel [blk] w (Go.Sort.grow (putRowK cu 3 (Go.Sort.ahead w n) blk 0 d') os):=⟨rfl,rfl,rfl,hsz,fun k hk hn=>r2 k hk A0Q ⟩;refine⟨⟨hlim,_,ty.to (by simp[Go.Sort.putCells]),(flatK cu 3 d').toList,vals.toList.drop (d.size*3),r1,?_,?_⟩,hbel,⟨hsz,fun b off v hb hm hc=>?_,fun b hb fr hf=>⟨fr,hf,YJ _⟩,fun b es c hm hc=>(r2 b (dv hc) (fun e=>by rw[e,hlim] at hm;cases hm)).trans hc⟩⟩
 . apply ZO;intro j;rw[YV,Go.Sort.putCells,Array.getElem?_mapIdx];rcases Zu j (d.size*3) with h|h
   . rw[YN (by simpa[hfl] using h),Y3 A0b,YV,Y3 A0b];simp[hfl,h]
   . rw[Y7 (by simpa[hfl] using h),ZN];simp only[YW,hfl];rw[show d.size*3+(j-d.size*3)=j from by omega,YV];cases vals[j]? with
     |none=>rfl
     |some v=>simp only[Zk];rw[YL A0b]
 . rw[dL,AF];exact nS _
 . by_cases e:b=blk
   . subst e;exact absurd (hm 0 hlim) (aaB _)
   . exact(aX (j:=off) (r2 b hb e)).trans hc
variable {vs:Array Value} {p:Value} {bs hs:List Nat} {a b c:V}
theorem GJ {K:Nat} {gs:List Nat} (h:ArgsP m w K (vs.toList++[p]) [a,b,c] bs gs hs):∃v1 v2,vs= #[v1,v2]:=by
 have hl:=h.len;simp only[YD,YW,YI,Zd] at hl;obtain⟨l⟩:=vs
 match l,hl with
 |[v1,v2],_=>exact⟨v1,v2,rfl⟩
theorem GK {K:Nat} {gs:List Nat} {d:V} (h:ArgsP m w K (vs.toList++[p]) [a,b,c,d] bs gs hs):∃v1 v2 v3,vs= #[v1,v2,v3]:=by
 have hl:=h.len;simp only[YD,YW,YI,Zd] at hl;obtain⟨l⟩:=vs
 match l,hl with
 |[v1,v2,v3],_=>exact⟨v1,v2,v3,rfl⟩
section
variable {G:Nat->V} {bk N:Nat} {g sf:FuncId} {gl gs:Array Value}
theorem NI (hsw:SwapSwapsK Tryz.prog sf gs cu 3 bk 0 N):FunXV G bk sf gs.toList (FE en2 (GSwp N)):=by
 intro m w vs us bs gs' hs r outs hF hargs hnd hhnd hj hg;obtain⟨⟨i,j,d⟩,hus,hG⟩:=bE hF;subst hus;unfold GSwp at hG;obtain⟨⟨hi,hjj,hd⟩,hG⟩:=bX hG;simp only at hi hjj hd;cases hG;obtain⟨v1,v2,rfl⟩:=GJ hargs;simp only[en2] at hargs;cases hargs with
 | dat hr1 hd1 h1=>
   cases h1 with
   | dat hr2 hd2 h2=>
     cases h2 with
     |dat hr3 hd3 h3=>cases hd3
     | bx hb hK h3=>
       cases h3;cases hr1;cases hr2;have hH:=je hb;have hrun:=hsw w d hH hd i j hi hjj;have hw:w=(putRowK cu 3 (Go.Sort.ahead w 0) bk 0 d).drewN 0:=by rw[Go.Sort.ahead_zero,Go.Sort.putRowK_self cu 3 w bk 0 d hH];rfl
       have hsw2:=Go.Sort.swap_worldK cu 3 (fun _=>rfl) w 0 0 bk 0 d i j A0b A0b;rw[<-hw] at hsw2;rw[hsw2] at hrun;have hgr:putRowK cu 3 (Go.Sort.ahead w (0+0)) bk 0 (swp d i j)=Go.Sort.grow (putRowK cu 3 (Go.Sort.ahead w 0) bk 0 (swp d i j)) #[]:=by rw[Go.Sort.grow_empty]
       rw[hgr] at hrun;obtain⟨b1,b2,b3⟩:=pX (n:=0) (os:= #[]) hb (bF d i j);refine .inr ⟨_,_,hrun,m,.tup #[] [] rfl (fun i v u h=>by simp at h),b2,b3,fun _ _ _=>rfl,⟨[aC (swp d i j)],[],A0j,⟨b1,trivial⟩,trivial⟩,fun sz es k e=>by cases e⟩
theorem SD (hN:N<=MX) (hsw:SwapSwapsK Tryz.prog sf gs cu 3 bk 0 N):FunXV G bk 96 [] (FE (dW g sf gl gs) (ye N)):=by
 intro m w vs us bs gs' hs r outs hF hargs hnd hhnd hj hg;obtain⟨⟨a,b,d⟩,hus,hG⟩:=bE hF;subst hus;unfold ye at hG;obtain⟨⟨hab,hbN,hd⟩,hG⟩:=bX hG;simp only at hab hbN hd;cases hG;obtain⟨v1,v2,v3,rfl⟩:=GK hargs;simp only[dW] at hargs;cases hargs with
 | dat hr1 hd1 h1=>
   cases h1 with
   | dat hr2 hd2 h2=>
     cases h2 with
     | dat hr3 hd3 h3=>
       cases h3 with
       |dat hr4 hd4 h4=>cases hd4
       | bx hb hK h4=>
         cases h4;cases hr2;cases hr3;obtain⟨cs,rfl,hcs⟩:=Rd.agg_iff.1 hr1;have e:cs= #[.func (.func g) #[] gl,.func (.func sf) #[] gs]:=by apply Zt.1;exact nR (l:=[.func (.func g) #[] gl,.func (.func sf) #[] gs]) hcs
         subst e;have hH:=je hb;have hblk:bk<w.heap.size:=by obtain⟨_,_,_,_,_,hhb,_⟩:=hb;exact ai hhb
         have hc:=Any.breakPatterns_func_cells_w (P:=Tryz.prog) (ρ:=Tryz.laysGg14_ren) {Tryz.laysGg14 with} cu 3 (fun _=>rfl) (.func g) #[] gl sf gs bk 0 a b d w (by rw[hd];exact hsw) hH hblk hab A0b (by unfold MX at hN;omega);change Calls Tryz.prog 96 _ _ _ at hc;refine .inl ⟨Tryz.call96 _ _,?_⟩;rw[show(#[Value.agg #[.func (.func g) #[] gl,.func (.func sf) #[] gs],.int .i64 (a:Int),.int .i64 (b:Int)]++(⟨[]⟩:Array Value))= #[.agg #[.func (.func g) #[] gl,.func (.func sf) #[] gs],.int .i64 (a:Int),.int .i64 (b:Int)] from abt];refine hc.mono ?_;rintro e w' ⟨rfl,n,os,rfl⟩;obtain⟨b1,b2,b3⟩:=pX (n:=n) (os:=os) hb ((Go.Sort.breakPatterns_holds d a b hab A0b).1);exact⟨_,rfl,m,.tup #[] [] rfl (fun i v u h=>by simp at h),b2,b3,fun _ _ _=>rfl,⟨[aC (Go.Sort.breakPatterns d a b)],[],A0j,⟨b1,trivial⟩,trivial⟩,fun sz es k e=>by cases e⟩
end
def Tz:List V->Option V
 | [.x (.int .i64 i),.x (.int .i64 j),.ip [.sl false 3 es none]]=>match es[i.toNat]?,es[j.toNat]? with
   |some (.agg [.x (.string s),.x (.int .i64 c),.x (.int .i64 r)]),some (.agg [.x (.string s'),.x (.int .i64 c'),.x (.int .i64 r')])=>if 0<=i∧0<=j then some (.x (.bool (dJ s c r s' c' r'))) else none
   |_,_=>none
 |_=>none
open Go.Sort (putRowK HoldsK flatK PermIn SortedIn)
theorem KQ (p q:C3):ae p q=dJ p.1 p.2.1 p.2.2 q.1 q.2.1 q.2.2:=rfl
variable {Bk cap:Nat}
theorem KR (hb:BoxAt m w bk (aC d)) (hd:d.size=N) (hcap:N<=cap) (hB:Rd m w (.pointer (some ⟨Bk,0,none⟩)) (.ip [.x (.slice (some ⟨bk,0,none⟩) N cap)])):Rd (fun _=>none) w (.pointer (some ⟨Bk,0,none⟩)) (.ip [.sl false 3 (d.toList.map aa) none]):=by
 have hH:=je hb;have hblk:bk<w.heap.size:=by obtain⟨_,_,_,_,_,hhb,_⟩:=hb;exact ai hhb
 have hlen:(flatK cu 3 d).size=d.size*3:=by simp[flatK]
 have hl:(d.toList.map aa).length=N:=by simpa using hd
 have hsl:Rd (fun _=>none) w (.slice (some ⟨bk,0,none⟩) (d.toList.map aa).length cap) (.sl false 3 (d.toList.map aa) none):=by
  refine .sl bk 0 cap 3 _ none (fun k=>(flatK cu 3 d)[k]!) hblk A0b (fun i e he=>?_) (fun k hk=>?_) (fun fr hf=>by cases hf) (fun i e he j dd hj=>?_)
  . rw[Io] at he;obtain⟨p,_,rfl⟩:=YE.1 he;rfl
  . exact(hH k (by rw[hlen];simp at hk;omega)).1
  . rw[Io] at he;obtain⟨p,hp,rfl⟩:=YE.1 he;have hil:i<d.size:=by simpa using(iO.1 hp).1
    have hdi:d[i]! =p:=by rw[io (by simpa using hil)] at hp;rw[abo d i hil];simpa using hp
    have hj3:j<3:=(iO.1 hj).1;have e:(flatK cu 3 d)[i*3+j]! =(cu p)[j]! :=by rw[Go.Sort.get_flatK _ _ _ _ A0b,show(i*3+j)/3=i from by omega,show(i*3+j)%3=j from by omega,hdi]
    show Rd _ w ((flatK cu 3 d)[i*3+j]!) dd;rw[e];have:j=0∨j=1∨j=2:=A0b
    rcases this with rfl|rfl|rfl<;>(cases hj;exact .x _)
 rw[hl] at hsl;cases hB with
 | ip blk off cs c hbB hc hm hr=>
   have h0:Rd m w (c 0) (.x (.slice (some ⟨bk,0,none⟩) N cap)):=hr 0 _ rfl;have hc0:=Rd.x_iff.1 h0;refine .ip Bk 0 _ c hbB (fun k hk=>hc k hk) (fun fr hf=>by cases hf) (fun k dd hk=>?_);cases k with
   |zero=>cases hk;rw[hc0];exact hsl
   |succ k=>simp at hk
section
variable {G:Nat->V} {bk Bk N cap:Nat}
end
noncomputable def kx:TypeInfo:=(Tryz.prog.info? 37).get A0a
noncomputable def ru:TypeInfo:=(Tryz.prog.info? 30).get A0a
theorem XK (n:Nat) (h:2<=n):Lib.swapperK n kx 25=9:=by
 have a:kx.hasPointers=true:=A0a
 have b:kx.bytes=32:=A0a
 have c:(n==0)=false:=A0y
 have d:(n==1)=false:=A0y
 simp[Lib.swapperK,a,b,c,d]
theorem NJ {m0:Lim} (hb:BoxAt m0 w bk (aC d)) (hcap:d.size<=cap) (m:Lim) (hm:m bk=none):Rd m w (.slice (some ⟨bk,0,none⟩) d.size cap) (.sl false 3 (d.toList.map aa) none):=by
 have hH:=je hb;have hblk:bk<w.heap.size:=by obtain⟨_,_,_,_,_,hhb,_⟩:=hb;exact ai hhb
 have hlen:(flatK cu 3 d).size=d.size*3:=by simp[flatK]
 have hl:(d.toList.map aa).length=d.size:=A0j
 have hsl:Rd m w (.slice (some ⟨bk,0,none⟩) (d.toList.map aa).length cap) (.sl false 3 (d.toList.map aa) none):=by
  refine .sl bk 0 cap 3 _ none (fun k=>(flatK cu 3 d)[k]!) hblk A0b (fun i e he=>?_) (fun k hk=>?_) (fun fr hf=>by rw[hm] at hf;cases hf) (fun i e he j dd hj=>?_)
  . rw[Io] at he;obtain⟨p,_,rfl⟩:=YE.1 he;rfl
  . exact(hH k (by rw[hlen];simp at hk;omega)).1
  . rw[Io] at he;obtain⟨p,hp,rfl⟩:=YE.1 he;have hil:i<d.size:=by simpa using(iO.1 hp).1
    have hdi:d[i]! =p:=by rw[io (by simpa using hil)] at hp;rw[abo d i hil];simpa using hp
    have hj3:j<3:=(iO.1 hj).1;have e:(flatK cu 3 d)[i*3+j]! =(cu p)[j]! :=by rw[Go.Sort.get_flatK _ _ _ _ A0b,show(i*3+j)/3=i from by omega,show(i*3+j)%3=j from by omega,hdi]
    show Rd _ w ((flatK cu 3 d)[i*3+j]!) dd;rw[e];have:j=0∨j=1∨j=2:=A0b
    rcases this with rfl|rfl|rfl<;>(cases hj;exact .x _)
 rw[hl] at hsl;exact hsl
open Go.Sort (PermIn SortedIn)
theorem NK (hp:PermIn 0 d.size d d') (hs:SortedIn ae 0 d.size d') (hn:d.toList.Nodup):iD ae d'.toList∧d'.toList.Perm d.toList:=by
 obtain⟨hsz,_,hperm⟩:=hp;have e1:d'.extract 0 d.size=d':=by rw[<-hsz];exact Array.extract_size
 rw[e1,Array.extract_size] at hperm;refine⟨?_,hperm⟩;have hnd:d'.toList.Nodup:=hperm.nodup_iff.2 hn;rw[iD,aal];intro i j hi hj hij;have hi':i<d'.size:=A0k
 have hj':j<d'.size:=A0s
 have h1:=hs i j (Zf _) hij A0b;rw[abo d' i hi',abo d' j hj'] at h1;have hne:d'.toList[i]≠d'.toList[j]:=(aal.1 hnd) i j hi hj hij;rw[Array.getElem_toList,Array.getElem_toList] at hne⊢;cases h2:ae d'[i] d'[j] with
 |true=>rfl
 |false=>exact absurd (bQ.tri _ _ h2 h1) hne
def OneG (E:Env) (n:Nat) (B:Bs) (st:St) (a:Act) (w:World) (g:Nat) (ob:Obj) (lg:Option Nat):Prop:=
 ∃m O,Now E n B.D O m st a w∧(∀k,O k->B.Os k∨B.ws.heap.size<=k)∧Step B.Os B.ms B.ws m w∧Marks B.D O B.ws.heap.size w∧B.Kn.P m w∧KeepT B.W B.t0 a.tmps∧ ¬O g∧w.heap[g]?=some ob∧m g=lg
section
variable {E:Env} {n:Nat} {B:Bs} {m:Lim} {w:World} {st:St} {a:Act} {O:Nat->Prop} {r:Option Nat} {g:Nat} {ob:Obj} {lg:Option Nat}
variable {st':St}
theorem OneG.le (h:OneG E n B st a w g ob lg) (hl:Le st' st):OneG E n B st' a w g ob lg:=by obtain⟨m,O,h1,h2⟩:=h;exact⟨m,O,h1.le hl,h2⟩
theorem OneG.one (h:OneG E n B st a w g ob lg):One E n B st a w:=by obtain⟨m,O,h1,h2,h3,h4,h5,h6,_⟩:=h;exact⟨m,O,h1,h2,h3,h4,h5,h6⟩
variable {m':Lim} {w':World}
theorem OneG.grown {a':Act} (h2:∀k,O k->B.Os k∨B.ws.heap.size<=k) (h3:Step B.Os B.ms B.ws m w) (h4:Marks B.D O B.ws.heap.size w) (h5:B.Kn.P m w) (hkt:KeepT B.W B.t0 a'.tmps) (h7: ¬O g) (h8:w.heap[g]?=some ob) (h9:m g=lg)
 (hn:Now E n B.D (nA O w w') m' st' a' w') (hs:Step O m w m' w'):OneG E n B st' a' w' g ob lg:=by
 obtain⟨m2,O2,q1,q2,q3,q4,q5,q6⟩:=One.grown h2 h3 h4 h5 hkt hn hs;have hg:=hs.same g (ai h8) h7;refine⟨m',nA O w w',hn,fun k hg=>?_,h3.next hs (fun i hi ho=>(h2 i ho).resolve_right (aau.2 hi)),⟨h4.nd,fun d hd=>?_⟩,B.Kn.mono _ _ _ _ h5 hs.ext,hkt,fun hgr=>?_,hg.1.trans h8,hg.2.trans h9⟩
 . rcases hg.2 with hg|hg
   . exact h2 k hg
   . exact .inr (Y6 h3.ext.size hg)
 . obtain⟨b,rfl,q1,q2,q3⟩:=h4.is d hd;refine⟨b,rfl,q1,(hs.same b (ai q2) q3).1.trans q2,fun hg=>?_⟩;rcases hg.2 with hg|hg
   . exact q3 hg
   . exact absurd (ai q2) (Zs.2 hg)
 . rcases hgr.2 with hg|hg
   . exact h7 hg
   . exact absurd (ai h8) (Zs.2 hg)
theorem uq (hE:EnvOK E) {ops:List Oper} {Q:Exit->Act->World->Prop} (ts:List (Nat×V)) (bs:List (Nat×List V)) (rest:List Nat):∀(l:List Oper) (is:List Nat) (st:St) (a:Act) (w:World),(is.map fun i=>ops[i]?)=l.map some->bg n l=true->lK B.W l=true->lK B.W ops=true->
 OneG E n B st a w g ob lg->(bB E ⟨ops⟩ l st fun st'=>fu st' ts∧fR st' bs)->(∀a' w',OneG E n B (au ts bs) a' w' g ob lg->wpOpsIn (bo r) 0 E.P ⟨ops⟩ Q rest a' w')->wpOpsIn (bo r) 0 E.P ⟨ops⟩ Q (is++rest) a w
 |[],[],st,a,w,_,_,_,_,h,hr,hK=>hK a w (h.le (aJ hr.1 hr.2))
 |[],i::is,st,a,w,hi,_,_,_,h,hr,hK=>by simp at hi
 |o::l,[],st,a,w,hi,_,_,_,h,hr,hK=>by simp at hi
 | o ::l,i::is,st,a,w,hi,hd,hW,hWo,h,hr,hK=>by
   rw[Zz,wpOpsIn_cons];simp only[Y0,Zb] at hi;obtain⟨st',hs,hl,hb⟩:=cx _ _ hr;unfold dR at hs;split at hs
   . rename_i st1 h1;obtain⟨m,O,q1,q2,q3,q4,q5,q6,q7,q8,q9⟩:=h;have hlt:=q1.lt;obtain⟨b,β,hrel⟩:=q1.rel;have hi1:(⟨ops⟩:Array Oper)[i]?=some o:=by simpa using hi.1
     have hwp:wpOpIn (bo r) 0 E.P ⟨ops⟩ Q i (fun a' w'=>OneG E n B st1 a' w' g ob lg∨(∃m' β',Rel E n ⟨lst O w.heap.size,b,lst O w.heap.size,B.D⟩ m w m' β' st1 a' w')) a w:=cQ (hE.x (.inr (fun _ h=>h))) hrel hi1 (cL hd A0j) h1 (fun a' w' m' β' hr'=> .inr ⟨m',β',hr'⟩);have hkeep:=dI (W:=B.W) (t:=B.t0) (by simpa using hWo) q6 (K':=fun a' w'=>OneG E n B st1 a' w' g ob lg) (fun a' w' hK' hkt=>by
      rcases hK' with hK'|⟨m',β',hr'⟩
      . exact hK'
      . obtain⟨hn,hst⟩:=Now.of_rel hE hlt hr';exact OneG.grown q2 q3 q4 q5 hkt q7 q8 q9 hn hst) hwp
     have hWl:lK B.W l=true:=by simp only[lK,ZB,YH] at hW;exact hW.2
     have hdl:bg n l=true:=by simp only[bg,ZB,YH] at hd;exact hd.2
     exact fS (fun a' w' h'=>uq hE ts bs rest l is st1 a' w' hi.2 hdl hWl hWo h' (fo _ _ hs ⟨hl,hb⟩) hK) (fun e a' w' h'=>h'.1) hkeep
   . cases hs
theorem jf (hE:EnvOK E) {ops:List Oper} {Q:Exit->Act->World->Prop} (k j:Nat) (ts:List (Nat×V)) (bs:List (Nat×List V)) (rest:List Nat) (hl:k+j<=ops.length) (hd:bg n ((ops.drop k).take j)=true) (hW:lK B.W ops=true)
 (h:OneG E n B st a w g ob lg) (hr:bB E ⟨ops⟩ ((ops.drop k).take j) st fun st'=>fu st' ts∧fR st' bs) (hK:∀a' w',OneG E n B (au ts bs) a' w' g ob lg->wpOpsIn (bo r) 0 E.P ⟨ops⟩ Q rest a' w'):wpOpsIn (bo r) 0 E.P ⟨ops⟩ Q (List.range' k j++rest) a w:=
 uq hE ts bs rest _ _ st a w (gv ops k j hl) hd (YK.2 (fun o ho=>YK.1 hW o (abg (abh ho)))) hW h hr hK
variable {ops:List Oper} {Q:Exit->Act->World->Prop} {rest:List Nat} {o:Oper}
theorem nT {i:Nat} {d:Tmp} (hi:ops[i]?=some o) (hdef:∀c,o.op≠ .defer c) (hd:o.dst=some d) (hdn:d<n) (hWd:B.W d=true) (hg:o.guard=none) (h:OneG E n B st a w g ob lg) (v:Value) (hrun:(execOp a.eval o).run E.P w= .ok (.value v) w)
 (hK:∀a',OneG E n B (st.put (some d) (.x v)) a' w g ob lg->a'=a.put (some d) v->wpOpsIn (bo none) 0 E.P ⟨ops⟩ Q rest a' w):wpOpsIn (bo none) 0 E.P ⟨ops⟩ Q (i::rest) a w:=by
 obtain⟨m,O,q1,q2,q3,q4,q5,q6,q7,q8,q9⟩:=h;rw[wpOpsIn_cons];unfold wpOpIn;have hi':(⟨ops⟩:Array Oper)[i]?=some o:=A0k
 rw[hi'];simp only;rw[YG A0t];refine⟨fun _ _=>trivial,?_⟩;rw[Oper.semAt_eq _ _ _ hdef,hrun];show wpOpsIn (bo none) 0 E.P ⟨ops⟩ Q rest (a.put o.dst v) w;rw[hd];have hp:=q1.put hdn (v:=v) (u:= .x v) (.x _);rw[de] at hp;exact hK _ ⟨m,O,hp,q2,q3,q4,q5,q6.put (fun k e=>by cases e;exact hWd),q7,q8,q9⟩ rfl
theorem KS {i:Nat} {d:Tmp} (hi:ops[i]?=some o) (hdef:∀c,o.op≠ .defer c) (hd:o.dst=some d) (hdn:d<n) (hWd:B.W d=true) (hg:o.guard=none) (h:One E n B st a w) (v:Value) (hrun:(execOp a.eval o).run E.P w= .ok (.value v) w)
 (hK:∀a',One E n B (st.put (some d) (.x v)) a' w->a'=a.put (some d) v->wpOpsIn (bo none) 0 E.P ⟨ops⟩ Q rest a' w):wpOpsIn (bo none) 0 E.P ⟨ops⟩ Q (i::rest) a w:=by
 obtain⟨m,O,q1,q2,q3,q4,q5,q6⟩:=h;rw[wpOpsIn_cons];unfold wpOpIn;have hi':(⟨ops⟩:Array Oper)[i]?=some o:=A0k
 rw[hi'];simp only;rw[YG A0t];refine⟨fun _ _=>trivial,?_⟩;rw[Oper.semAt_eq _ _ _ hdef,hrun];show wpOpsIn (bo none) 0 E.P ⟨ops⟩ Q rest (a.put o.dst v) w;rw[hd];have hp:=q1.put hdn (v:=v) (u:= .x v) (.x _);rw[de] at hp;exact hK _ ⟨m,O,hp,q2,q3,q4,q5,q6.put (fun k e=>by cases e;exact hWd)⟩ rfl
theorem Now.box_at {D:List Deferred} (h:Now E n D O m st a w) {i s:Nat} {v:Value} (hi:st.t i= .ptr s 0) (hb:st.b s=some [.x v]):∃b vals ty fr,a.tmps.getD i Go.undef= .pointer (some ⟨b,0,none⟩)∧w.heap[b]?=some (.cells vals ty fr)∧vals[0]?=some v∧O b:=by
 obtain⟨⟨c,β,hr⟩,hlt⟩:=h;have ht:=hr.tmps i;rw[hi] at ht;obtain⟨⟨_,vals,ty,xs,rest,hh,hv,hrd⟩,hge⟩:=hr.boxes s _ hb;refine⟨β s,vals,ty.ty,ty.fz,ht.ptr,hh,?_,?_⟩
 . have hx:xs=[v]:=nR (l:=[v]) hrd;rw[<-YV,hv,hx];rfl
 . rcases hge with hge|hge
   . exact absurd (ai hh) (Zs.2 hge)
   . exact(bj.1 hge).2
theorem OneG.after {Kn':Kno} {d:Tmp} (hd:d<n) {v:Value} (h1:Now E n B.D O m st a w) (h2:∀k,O k->B.Os k∨B.ws.heap.size<=k) (h3:Step B.Os B.ms B.ws m w) (h4:Marks B.D O B.ws.heap.size w) (h6:KeepT B.W B.t0 a.tmps) (hWd:B.W d=true) (hs:Step (fun _=>False) m w m' w') (hJ:E.J w') (hk:Kn'.P (upd m' g (some 0)) w') (hg:w.heap.size<=g) (hh:w'.heap[g]?=some ob):
 OneG E n {B with Kn:=Kn'} (st.put (some d) (.x v)) (a.put (some d) v) w' g ob (some 0):=by
 have hs':Step (fun _=>False) m w (upd m' g (some 0)) w':=⟨hs.os,hs.tape,hs.output,⟨hs.ext.size,hs.ext.cell,fun b hb fr' hf=>by rw[ag _ _ A0b] at hf;exact hs.ext.lim b hb fr' hf,hs.ext.map⟩,fun k hk hn=>⟨(hs.same k hk hn).1,by rw[ag _ _ A0b];exact(hs.same k hk hn).2⟩⟩
 have hp:=(h1.other hs' (fun _ _ h=>h) hJ).put hd (v:=v) (u:= .x v) (.x _);rw[de] at hp;refine⟨_,O,hp,h2,h3.next hs' (fun _ _ h=>h.elim),⟨h4.nd,fun x hx=>?_⟩,hk,h6.put (fun k e=>by cases e;exact hWd),fun ho=>absurd (h1.lt g ho) A0b,hh,aj _ _ _⟩;obtain⟨b,rfl,q1,q2,q3⟩:=h4.is x hx;exact⟨b,rfl,q1,(hs.same b (ai q2) (fun h=>h)).1.trans q2,q3⟩
theorem NL {l:List C3} {es:List V} {tok:Option Nat} {len:Nat} (hes:es=l.map aa) (h:Rd m w (.slice (some ⟨g,0,none⟩) len cap) (.sl false 3 es tok)) (hh:w.heap[g]?=some (.cells cur ty (0,0))):∃rest,cur.toList=l.flatMap cu++rest:=by
 cases h with
 | emp a cap sz=>
   cases l with
   |nil=>exact⟨cur.toList,rfl⟩
   |cons p l=>cases hes
 | sl blk off cap sz es tok c hb hcap hsz hc hm hr=>
   subst hes;rw[eq] at hc;refine⟨cur.toList.drop (l.length*3),?_⟩;have e:cur.toList.take (l.length*3)=l.flatMap cu:=by
    apply ZO;intro t;rw[mA,Zm];by_cases ht:t<l.length*3
    . rw[YG ht,YV];have h1:=hc t ht;rw[YC,Box.cell hh] at h1;have hl:t/3<l.length:=A0b
      have h2:=hr (t/3) (aa l[t/3]) (by rw[Io,io hl];rfl) (t%3);rw[show t/3*3+t%3=t from by omega] at h2;rw[h1,io hl,Zk];have h3:t%3=0∨t%3=1∨t%3=2:=A0b
      rcases h3 with h3|h3|h3<;>
      . rw[h3] at h2⊢;have h4:=h2 _ rfl;rw[Rd.x_iff.1 h4];rfl
    . rw[YL ht,Y1 A0b];rfl
   rw[<-e,aaz]
theorem OneG.done (hE:EnvOK E) {w':World} {v:Value} {u:V} (h:OneG E n B st a w g (ob) (some 0)) (hcell:∃vals ty fr,ob= .cells vals ty fr) (hgs:B.ws.heap.size<=g) (hK:E.K<=g) (hb:Bel [g] w w') (hv:∀m,m g=none->Rd m w' v u):One E n {B with Kn:=Kno.rd v u} st a w':=by
 obtain⟨m,O,q1,q2,q3,q4,q5,q6,q7,q8,q9⟩:=h;have hs:Step (fun k=>k=g) m w (upd m g none) w':=by
  refine⟨hb.os,hb.tape,hb.output,⟨hb.size,fun b off v hlt hm hc=>?_,fun b hlt fr' hf=>?_,fun b es c hm hc=>(hb.block b (dv hc) (by intro e;rw[YF.1 e,q9] at hm;cases hm)).trans hc⟩,fun k hk hn=>⟨hb.block k hk A0Q,ag _ _ hn⟩⟩
  . by_cases e:b=g
    . subst e;exact absurd (hm 0 q9) (aaB _)
    . rw[aX (hb.block b hlt (by simpa using e))];exact hc
  . by_cases e:b=g
    . rw[e,aj] at hf;cases hf
    . rw[ag _ _ e] at hf;exact⟨fr',hf,YJ _⟩
 have hJ:E.J w':=hE.keep [g] _ _ (fun x hx=>by rw[YF.1 hx];exact hK) q1.J hb;refine⟨_,O,q1.other hs (fun k hk e=>q7 (e▸hk)) hJ,q2,q3.next hs (fun i hi e=>absurd hi (Zs.2 (e▸hgs))),⟨q4.nd,fun x hx=>?_⟩,hv _ (aj _ _ _),q6⟩;obtain⟨b,rfl,r1,r2,r3⟩:=q4.is x hx;have hne:b≠g:=fun e=>by subst e;obtain⟨vals,ty,fr,rfl⟩:=hcell;rw[r2] at q8;cases q8
 exact⟨b,rfl,r1,(hs.same b (ai r2) hne).1.trans r2,r3⟩
theorem One.know {d:Tmp} {v:Value} {u:V} (hd:d<n) (h:One E n {B with Kn:=Kno.rd v u} st a w) (hv:a.tmps.getD d Go.undef=v) (hu:u.bare=u):One E n {B with Kn:=Kno.rd v u} (st.put (some d) u) a w:=by
 obtain⟨m,O,q1,q2,q3,q4,q5,q6⟩:=h;have hr:Rd m w (a.tmps.getD d Go.undef) u:=by rw[hv];exact q5
 have hp:=q1.put hd hr;rw[tR,hu] at hp;exact⟨m,O,hp,q2,q3,q4,q5,q6⟩
end
set_option maxHeartbeats 8000000
theorem AG:cM 59 Tz:=by
 refine aT (E:=ba [(60,bh)]) (k:=3) (bV _ ⟨Gm,trivial⟩) A0a Tryz.func59 rfl (fun a w=>Tryz.call59 a w) Tryz.ntmps59 A0a A0c A0c ?_;intro us r hF hdat;unfold Tz at hF;split at hF
 case h_2=>cases hF
 rename_i i j es;split at hF
 case h_2=>cases hF
 rename_i s c r s' c' r' hi hj;obtain⟨⟨h0,h1⟩,hF⟩:=bX hF;cases hF;refine⟨rfl,?_⟩;have e1:bh [.agg [.x (.string s),.x (.int .i64 c),.x (.int .i64 r)],.agg [.x (.string s'),.x (.int .i64 c'),.x (.int .i64 r')]]=some (.x (.bool (dJ s c r s' c' r'))):=rfl;simp +decide (maxDischargeDepth:=200) only[go_sem,h0,h1,hi,hj,e1]
section
variable {G:Nat->V} {bk Bk N cap:Nat}
theorem KT (hcap:N<=cap) (hG:G Bk= .ip [.x (.slice (some ⟨bk,0,none⟩) N cap)]):FunXV G bk 59 [.pointer (some ⟨Bk,0,none⟩)] (FE en2 (GLess N)):=by
 intro m w vs us bs gs' hs r outs hF hargs hnd hhnd hj hg;obtain⟨⟨i,j,d⟩,hus,hGl⟩:=bE hF;subst hus;unfold GLess at hGl;obtain⟨⟨hi,hjj,hd⟩,hGl⟩:=bX hGl;simp only at hi hjj hd;cases hGl;obtain⟨v1,v2,rfl⟩:=GJ hargs;simp only[en2] at hargs;cases hargs with
 | dat hr1 hd1 h1=>
   cases h1 with
   | dat hr2 hd2 h2=>
     cases h2 with
     |dat hr3 hd3 h3=>cases hd3
     | bx hb hK h3=>
       cases h3;cases hr1;cases hr2;have hB:Rd m w (.pointer (some ⟨Bk,0,none⟩)) (.ip [.x (.slice (some ⟨bk,0,none⟩) N cap)]):=by have:=hg Bk;have e:(dx G (fun _ _=>none) 0).G Bk= .ip [.x (.slice (some ⟨bk,0,none⟩) N cap)]:=hG;rw[e] at this;exact this
       have hip:=KR hb hd hcap hB;obtain⟨p,hp⟩:∃p,d.toList[i]?=some p:=⟨_,io (by simpa using(show i<d.size by omega))⟩;obtain⟨q,hq⟩:∃q,d.toList[j]?=some q:=⟨_,io (by simpa using(show j<d.size by omega))⟩;have hat:∀(k:Nat) (p:C3),k<d.size->d.toList[k]?=some p->d[k]! =p:=fun k p hk h=>by rw[io A1f] at h;rw[abo d k hk];simpa using h
       have hpe:=hat i p A0b hp;have hqe:=hat j q A0b hq;have hFL:Tz [.x (.int .i64 (i:Int)),.x (.int .i64 (j:Int)),.ip [.sl false 3 (d.toList.map aa) none]]=some (.x (.bool (ae d[i]! d[j]!))):=by rw[hpe,hqe,KQ];simp only[Tz,dB hp,dB hq,bJ];rw[YG ⟨A0b,A0b⟩]
       have hcalls:=AG.2 (fun _=>none) w #[.int .i64 (i:Int),.int .i64 (j:Int),.pointer (some ⟨Bk,0,none⟩)] _ _ hFL rfl ⟨.x _,.x _,hip,trivial⟩ hj (fun g=> .undef _);refine .inl ⟨AG.1 _ _,?_⟩;refine hcalls.mono ?_;rintro e w' ⟨v,m',rfl,hv,hbel,_⟩;cases hv;have hblk:bk<w.heap.size:=by obtain⟨_,_,_,_,_,hhb,_⟩:=hb;exact ai hhb
       have hbx:BoxAt m w' bk (aC d):=by obtain⟨hlim,vals,ty,xs,rest,hh,hv,hr⟩:=hb;rw[dL] at hr;have hx:=nR hr;subst hx;exact⟨hlim,vals,ty,_,rest,(hbel.block bk hblk).trans hh,hv,by rw[dL];exact nS _⟩
       exact⟨_,rfl,m,.x _,⟨hbel.os,hbel.tape,hbel.output,hbel.size,fun k hk _=>hbel.block k hk⟩,Ext.of_below hbel (fun _ _=>rfl),fun _ _ _=>rfl,⟨[aC d],[],A0j,⟨hbx,trivial⟩,trivial⟩,fun sz es k e=>by cases e⟩
end
theorem NM {blk:Nat} {tyB:TypeId} {frB:Nat×Nat} (hh:w.heap[blk]?=some (.cells cur ty (0,0))) (hcur:∃rest,cur.toList=d.toList.flatMap cu++rest) {vals:Array Value} (hB:w.heap[Bk]?=some (.cells vals tyB frB)) (hB0:vals[0]?=some (.slice (some ⟨blk,0,none⟩) d.size cap)) (hne:Bk≠blk) (hcap:d.size<=cap) (hN:d.size<=MX) (hK:lY<=blk) (hj:(ba []).J w):
 Calls Tryz.prog 58 #[.iface 30 (.slice (some ⟨blk,0,none⟩) d.size cap),.func (.func 59) #[] #[.pointer (some ⟨Bk,0,none⟩)]] w fun e w'=>e= .returned (.tuple #[])∧∃d':Array C3,PermIn 0 d.size d d'∧SortedIn ae 0 d.size d'∧Bel [blk] w w'∧∃m',BoxAt m' w' blk (aC d'):=by
 have hi:Tryz.prog.info? 30=some ru:=A0a
 have hdd:ru.desc= .slice 37:=A0a
 have hie:Tryz.prog.info? 37=some kx:=A0a
 have hke:∀w,(Extern.Rtype.kind 37).run Tryz.prog w= .ok 25 w:=fun _=>by kernel_rfl
 obtain⟨rest,hcur⟩:=hcur;have hN1:d.size<=1000000:=hN;let m:Lim:=fun b=>if b=blk then some 0 else none
 have hbx:∀w2:World,w2.heap[blk]?=w.heap[blk]?->BoxAt m w2 blk (aC d):=fun w2 e=>⟨YG rfl,cur,.plain ty,_,rest,e.trans hh,hcur,by rw[dL];exact nS _⟩
 have hblk:=ai hh;have hBk:=ai hB;by_cases h2:2<=d.size
 . let G:Nat->V:=fun b=>if b=Bk then .ip [.x (.slice (some ⟨blk,0,none⟩) d.size cap)] else .undef
   have hG:G Bk= .ip [.x (.slice (some ⟨blk,0,none⟩) d.size cap)]:=YG rfl;have hx:∀args W,(callFunc 91 args).run Tryz.prog W=((Extern.ReflectliteSwapper.swap false args).run Tryz.prog W).andThen fun v w'=> .ok (.value v) w':=fun args W=>run_callFunc_extern Tryz.func91 A0a A0a A0a (e:=Extern.ReflectliteSwapper.swap false) A0a args W
   have hsw:=swapSwapsK_of_literal (P:=Tryz.prog) false 91 hx 37 kx hie cu 3 (fun _=>rfl) A0a (fun _=>by kernel_rfl) (fun p v hv=>by simp only[cu,YT,aa0,or_false] at hv;rcases hv with rfl|rfl|rfl<;>rfl) blk 0 d.size cap
   have hS:SoOK G blk d.size 59 91 #[.pointer (some ⟨Bk,0,none⟩)] #[.slice (some ⟨blk,0,none⟩) d.size cap,typeHandle Tryz.prog 37]:=⟨A0j,A0j,A0c,hN,KT hcap hG,NI hsw⟩;have hP:=SB hS (SD hN hsw) (d.size+1);refine Any.sort_Slice_of_pdq (P:=Tryz.prog) (ρ:=Tryz.laysGg6_ren) Tryz.laysGg6 30 37 ru kx hi hdd A0a hie 25 hke (some ⟨blk,0,none⟩) d.size cap (by unfold MX at hN;omega) 91 (by rw[XK _ h2];kernel_rfl) (.func 59) #[] #[.pointer (some ⟨Bk,0,none⟩)] w _ ?_;have hsb:sliceBound Tryz.prog 37 kx 25 (some ⟨blk,0,none⟩) d.size cap= #[.slice (some ⟨blk,0,none⟩) d.size cap,typeHandle Tryz.prog 37]:=by unfold sliceBound;rw[XK _ h2];rfl
   rw[hsb];generalize hW:sliceWorld Tryz.prog Tryz.laysGg6_ren 30 (some ⟨blk,0,none⟩) d.size cap w=W;have hbel:Below w.heap.size w W:=by rw[<-hW];unfold sliceWorld;exact((Below.refl _ w).alloc (YJ _) _).alloc A0j _
   have hjW:(ba []).J W:=Glob.low hj hbel.size ⟨hbel.os,hbel.tape,hbel.output,hbel.size,fun k hk=>hbel.block k (Zp hk (Glob.high hj))⟩;have hb:=hbx W (hbel.block blk hblk);have hl62:Lib.bitLen d.size<=62:=Lib.bitLen_le d.size 62 A0b A0b;have hF:=yf (g:=59) (sf:=91) (gl:= #[.pointer (some ⟨Bk,0,none⟩)]) (gs:= #[.slice (some ⟨blk,0,none⟩) d.size cap,typeHandle Tryz.prog 37]) (N:=d.size) (d.size+1) 0 d.size (Lib.bitLen d.size) d A0b A0b (YJ _) A0b rfl (.inl rfl)
   have hargs:ArgsP m W lY [.agg #[.func (.func 59) #[] #[.pointer (some ⟨Bk,0,none⟩)],.func (.func 91) #[] #[.slice (some ⟨blk,0,none⟩) d.size cap,typeHandle Tryz.prog 37]],.int .i64 ((0:Nat):Int),.int .i64 (d.size:Int),.int .i64 (Lib.bitLen d.size:Int),.pointer (some ⟨blk,0,none⟩)] [dK 59 91 #[.pointer (some ⟨Bk,0,none⟩)] #[.slice (some ⟨blk,0,none⟩) d.size cap,typeHandle Tryz.prog 37],.x (.int .i64 ((0:Nat):Int)),.x (.int .i64 (d.size:Int)),.x (.int .i64 (Lib.bitLen d.size:Int)),.bx (aC d)] [blk] [] []:=
    .dat (Rd.agg_iff.2 ⟨_,rfl,.x _,.x _,trivial⟩) rfl (.dat (.x _) rfl (.dat (.x _) rfl (.dat (.x _) rfl (.bx hb hK .nil))))
   have hgl:∀g,Rd m W (.pointer (some ⟨g,0,none⟩)) (G g):=fun b=>by
    show Rd m W _ (if b=Bk then _ else _);split
    . rename_i e;subst e;have hBW:=(hbel.block b hBk).trans hB;refine .ip b 0 _ (fun _=> .slice (some ⟨blk,0,none⟩) d.size cap) (ai hBW) (fun k hk=>?_) (fun fr hf=>?_) (fun k dd hk=>?_)
      . have:k=0:=A1f
        subst this;rw[Box.cell hBW];exact hB0
      . have:m b=none:=YL hne;rw[this] at hf;cases hf
      . cases k with
        |zero=>cases hk;exact .x _
        |succ k=>simp at hk
    . exact .undef _
   rcases hP m W #[.agg #[.func (.func 59) #[] #[.pointer (some ⟨Bk,0,none⟩)],.func (.func 91) #[] #[.slice (some ⟨blk,0,none⟩) d.size cap,typeHandle Tryz.prog 37]],.int .i64 ((0:Nat):Int),.int .i64 (d.size:Int),.int .i64 (Lib.bitLen d.size:Int)] _ [blk] [] [] _ _ hF hargs A0j A0j hjW hgl with⟨_,hc⟩|⟨v,w',he,_⟩
   . rw[show ∀a:Array Value,a++(⟨[]⟩:Array Value)=a from fun a=>abt] at hc;refine hc.mono ?_;rintro e w' ⟨v,rfl,m',hv,hb2,_,_,⟨o1,o2,ho,hou,_⟩,_⟩;have hs:=Go.Sort.pdq_sorts ae gB d 0 d.size (Lib.bitLen d.size) true true (Zf _) (YJ _) (.inl rfl);have hvt:v= .tuple #[]:=by obtain⟨cs,rfl,hcs⟩:=Rd.tup_iff.1 hv;have:=hcs.length;simp only[YW,Zd] at this;rw[aaA this]
     subst hvt;refine⟨rfl,_,hs.1,hs.2,⟨hb2.os.trans hbel.os,hb2.tape.trans hbel.tape,hb2.output.trans hbel.output,Y6 hbel.size hb2.size,fun k hk hn=>(hb2.block k (Zp hk hbel.size) A0Q).trans (hbel.block k hk)⟩,m',?_⟩;cases o1 with
     |nil=>exact hou.elim
     |cons c o1=>obtain⟨e,_⟩:=aag (show[aC _]=c::(o1++o2) from ho);rw[e];exact hou.1
   . have he2:=(Tryz.call73 _ _).symm.trans he;cases he2
 . have hz:d.size=0∨d.size=1:=A0b
   have hf:∃f,Tryz.prog.funcs.findIdx? (·.name== "internal/reflectlite" ++ ".Swapper$" ++toString (Lib.swapperK d.size kx 25))=some f:=by
    rcases hz with e|e
    . exact⟨83,by rw[e];kernel_rfl⟩
    . exact⟨84,by rw[e];kernel_rfl⟩
   obtain⟨f,hf⟩:=hf;refine(Any.sort_Slice_tiny (P:=Tryz.prog) (ρ:=Tryz.laysGg6_ren) Tryz.laysGg6 30 37 ru kx hi hdd A0a hie 25 hke (some ⟨blk,0,none⟩) d.size cap A0b f hf (.func 59) #[] #[.pointer (some ⟨Bk,0,none⟩)] w).mono ?_;rintro e w' ⟨rfl,os,rfl⟩;refine⟨rfl,d,Go.Sort.permIn_refl d _ _,fun i j _ h1 h3=>by omega,⟨rfl,rfl,rfl,by simp[Go.Sort.grow],fun k hk _=>Go.Sort.heap_grow_old _ _ hk⟩,m,hbx _ (Go.Sort.heap_grow_old _ _ hblk)⟩
end Go.Proofs.YtmfojhkjbkombaaGreat
