/- Sorting by a function value: all of it. -/
import Derived.Sort.Walk13a
import Derived.Sort.LotD3
import Derived.Test.YtmfojhkjbkombaaMS
import Derived.Shelf.SlSortFuncK.BreakPatternsK
import Derived.Sort.Grow
import Derived.Test.YtmfojhkjbkombaaShelf
import Derived.Test.YtmfojhkjbkombaaML
import Derived.Shelf.GgSortFunc.Tiny
import Derived.Shelf.GgSortFunc.Slice
import Derived.Shelf.GgSortFunc.SmallK
import Derived.Test.YtmfojhkjbkombaaMJ
namespace Go.Proofs.Ytmfojhkjbkombaa
set_option linter.unusedSimpArgs false
set_option maxHeartbeats 16000000
set_option maxRecDepth 100000
open Go Go.RowKit
open Go.Sort (swp)
attribute [go_sem] Try.results28 Try.results37 Try.results44 Try.results49
theorem AZ {ρ:Type} {p:Prop} {_inst:Decidable p} {o:Option ρ} {r:ρ} (h:(if p then o else none)=some r):p∧o=some r:=by
 by_cases hp:p
 . rw[Zp hp] at h;exact⟨hp,h⟩
 . rw[Zs hp] at h;cases h
open Go.Sort (SWO Below rd PermIn SortedIn)
theorem fB:SWO ab:=by
 refine⟨bQ.irr,bQ.trans,fun x y z h1 h2=>?_⟩;cases h3:ab x z with
 |false=>rfl
 | true=>
   cases h4:ab y x with
   |true=>rw[bQ.trans _ _ _ h4 h3] at h2;cases h2
   |false=>have:=bQ.tri _ _ h1 h4;subst this;rw[h3] at h2;cases h2
def yN (N:Nat) (x:Nat×Nat×Array C3):Option (V×List (List V)):=if x.1<=x.2.1∧x.2.1<=N∧x.2.2.size=N then some (.tup [],[ay (Go.Sort.breakPatterns x.2.2 x.1 x.2.1)]) else none
open Classical in
noncomputable def uN (N n:Nat) (x:Nat×Nat×Nat×Array C3):Option (V×List (List V)):=if x.2.1-x.1<n∧x.1<=x.2.1∧x.2.1<=N∧x.2.2.1<=100∧x.2.2.2.size=N∧Below ab x.1 x.2.1 x.2.2.2 then some (.tup [],[ay (Go.Sort.pdq ab x.2.2.2 x.1 x.2.1 x.2.2.1 true true)]) else none
section
variable {g sf:FuncId} {gl gs:Array Value} {N:Nat}
theorem N7 (a b:Nat) (d:Array C3) (h1:a<=b) (h2:b<=N) (h3:d.size=N):FE (dS g sf gl gs) (GS N) [dB g sf gl gs,.x (.int .i64 (a:Int)),.x (.int .i64 (b:Int)),.bx (ay d)]=some (.tup [],[ay (Go.Sort.insertionSort ab d a b)]):=
 (cL gE (GS N) (a,b,d)).trans (Zp ⟨h1,h2,h3⟩)
theorem K6 (a b:Nat) (d:Array C3) (h1:a<=b) (h2:b<=N) (h3:d.size=N):FE (dS g sf gl gs) (uD N) [dB g sf gl gs,.x (.int .i64 (a:Int)),.x (.int .i64 (b:Int)),.bx (ay d)]=some (.tup [],[ay (Go.Sort.heapSort ab d a b)]):=
 (cL gE (uD N) (a,b,d)).trans (Zp ⟨h1,h2,h3⟩)
theorem N8 (a b:Nat) (d:Array C3) (h1:a<=b) (h2:b<=N) (h3:d.size=N):FE (dS g sf gl gs) (yN N) [dB g sf gl gs,.x (.int .i64 (a:Int)),.x (.int .i64 (b:Int)),.bx (ay d)]=some (.tup [],[ay (Go.Sort.breakPatterns d a b)]):=
 (cL gE (yN N) (a,b,d)).trans (Zp ⟨h1,h2,h3⟩)
theorem N9 (a b:Nat) (d:Array C3) (h1:a<b) (h2:b<=N) (h3:d.size=N):FE (dS g sf gl gs) (GX N) [dB g sf gl gs,.x (.int .i64 (a:Int)),.x (.int .i64 (b:Int)),.bx (ay d)]=some (.tup [.x (.int .i64 ((Go.Sort.choosePivot ab d a b).1:Int)),.x (.int .i64 (Go.Sort.hintCode (Go.Sort.choosePivot ab d a b).2))],[ay d]):=
 (cL gE (GX N) (a,b,d)).trans (Zp ⟨h1,h2,h3⟩)
theorem Oa (a b:Nat) (d:Array C3) (h1:a<b) (h2:b<=N) (h3:d.size=N):FE (dS g sf gl gs) (GV N) [dB g sf gl gs,.x (.int .i64 (a:Int)),.x (.int .i64 (b:Int)),.bx (ay d)]=some (.tup [],[ay (Go.Sort.reverseRange d a b)]):=
 (cL gE (GV N) (a,b,d)).trans (Zp ⟨h1,h2,h3⟩)
theorem K7 (a b:Nat) (d:Array C3) (h1:a<b) (h2:b<=N) (h3:d.size=N):FE (dS g sf gl gs) (uG N) [dB g sf gl gs,.x (.int .i64 (a:Int)),.x (.int .i64 (b:Int)),.bx (ay d)]=some (.x (.bool (Go.Sort.partialInsertionSort ab d a b).2),[ay (Go.Sort.partialInsertionSort ab d a b).1]):=
 (cL gE (uG N) (a,b,d)).trans (Zp ⟨h1,h2,h3⟩)
theorem K8 (a b pv:Nat) (d:Array C3) (h1:a<=pv) (h0:pv<b) (h2:b<=N) (h3:d.size=N):FE (fI g sf gl gs) (uE N) [dB g sf gl gs,.x (.int .i64 (a:Int)),.x (.int .i64 (b:Int)),.x (.int .i64 (pv:Int)),.bx (ay d)]=some (.tup [.x (.int .i64 ((Go.Sort.partition ab d a b pv).1:Int)),.x (.bool (Go.Sort.partition ab d a b pv).2.1)],[ay (Go.Sort.partition ab d a b pv).2.2]):=
 (cL ky (uE N) (a,b,pv,d)).trans (Zp ⟨h1,h0,h2,h3⟩)
theorem G6 (a b pv:Nat) (d:Array C3) (h1:a<=pv) (h0:pv<b) (h2:b<=N) (h3:d.size=N):FE (fI g sf gl gs) (nY N) [dB g sf gl gs,.x (.int .i64 (a:Int)),.x (.int .i64 (b:Int)),.x (.int .i64 (pv:Int)),.bx (ay d)]=some (.x (.int .i64 ((Go.Sort.partitionEqual ab d a b pv).1:Int)),[ay (Go.Sort.partitionEqual ab d a b pv).2]):=
 (cL ky (nY N) (a,b,pv,d)).trans (Zp ⟨h1,h0,h2,h3⟩)
theorem rA (n a b lim:Nat) (d:Array C3) (h0:b-a<n) (h1:a<=b) (h2:b<=N) (h3:lim<=100) (h4:d.size=N) (h5:Below ab a b d):FE (fI g sf gl gs) (uN N n) [dB g sf gl gs,.x (.int .i64 (a:Int)),.x (.int .i64 (b:Int)),.x (.int .i64 (lim:Int)),.bx (ay d)]=some (.tup [],[ay (Go.Sort.pdq ab d a b lim true true)]):=
 (cL ky (uN N n) (a,b,lim,d)).trans (Zp ⟨h0,h1,h2,h3,h4,h5⟩)
end
variable {G:Nat->V} {bk N:Nat} {g sf:FuncId} {gl gs:Array Value}
theorem G7 (hS:SoOK G bk N g sf gl gs) (hB:FunXV G bk 72 [] (FE (dS g sf gl gs) (yN N))) (n:Nat) (ih:FunXV G bk 49 [] (FE (fI g sf gl gs) (uN N n))):FunXV G bk 49 [] (FE (fI g sf gl gs) (uN N (n+1))):=by
 obtain⟨X,hX,X1,X2,X3⟩:=iA hS [(70,FE (dS g sf gl gs) (GS N)),(71,FE (dS g sf gl gs) (uD N)),(72,FE (dS g sf gl gs) (yN N)),(73,FE (dS g sf gl gs) (GX N)),(74,FE (dS g sf gl gs) (GV N)),(75,FE (dS g sf gl gs) (uG N)),(76,FE (fI g sf gl gs) (nY N)),(77,FE (fI g sf gl gs) (uE N)),(49,FE (fI g sf gl gs) (uN N n))] ⟨SW hS,N3 hS,hB,S7 hS,S4 hS,N5 hS,K4 hS,N4 hS,ih,trivial⟩;have hN:=hS.N1;unfold MX at hN;refine cd (k:=4) hX Try.func49 rfl (fun a w=>Try.call49 a w) Try.ntmps49 A0b A0b ?_;clear hX;intro us r outs hF;obtain⟨⟨a,b,lim,d⟩,hus,hG⟩:=bL hF;clear hF;subst hus;unfold uN at hG;obtain⟨⟨hn,hab,hbN,hlim,hd,hBel⟩,hG⟩:=AZ hG;simp only at hn hab hbN hlim hd hBel;cases hG;refine⟨_,rfl,rfl,fun pm m0 w0 hE=>?_⟩;simp only[fI];obtain⟨P,hP⟩:∃P,Go.Sort.pdq ab d a b lim true true=P:=⟨_,rfl⟩;rw[hP];refine Sem.seq [(1,.x (.int .i64 (a:Int))),(2,.x (.int .i64 (b:Int))),(3,.x (.int .i64 (lim:Int))),(4,.ptr 4 0)] [(4,[.x (.func (.func g) #[] gl),.x (.func (.func sf) #[] gs)]),(1004,ay d)] (Sem.run hE ah A0a A0o) ?_;refine Sem.seq [(1,.x (.int .i64 (a:Int))),(2,.x (.int .i64 (b:Int))),(3,.x (.int .i64 (lim:Int))),(4,.ptr 4 0),(8,.x (.bool true))] [(4,[.x (.func (.func g) #[] gl),.x (.func (.func sf) #[] gs)]),(1004,ay d)] (Sem.run hE ah A0a A0o) ?_;refine Sem.seq [(1,.x (.int .i64 ((a:Nat):Int))),(2,.x (.int .i64 ((b:Nat):Int))),(3,.x (.int .i64 ((lim:Nat):Int))),(4,.ptr 4 0),(8,.x (.bool true)),(9,.x (.bool true))] [(4,[.x (.func (.func g) #[] gl),.x (.func (.func sf) #[] gs)]),(1004,ay d)] (Sem.run hE ah A0a A0o) ?_;refine Sem.block (Sem.loop (X:={x:Nat×Nat×Nat×Bool×Bool×Array C3//x.1<=x.2.1∧x.2.1<=N∧x.2.1-x.1<=b-a∧x.2.2.1<=lim∧x.2.2.2.2.2.size=N∧Below ab x.1 x.2.1 x.2.2.2.2.2∧Go.Sort.pdq ab x.2.2.2.2.2 x.1 x.2.1 x.2.2.1 x.2.2.2.1 x.2.2.2.2.1=P}) (fun x=>[(1,.x (.int .i64 ((x.1.1:Nat):Int))),(2,.x (.int .i64 ((x.1.2.1:Nat):Int))),(3,.x (.int .i64 ((x.1.2.2.1:Nat):Int))),(4,.ptr 4 0),(8,.x (.bool x.1.2.2.2.1)),(9,.x (.bool x.1.2.2.2.2.1))]) (fun x=>[(4,[.x (.func (.func g) #[] gl),.x (.func (.func sf) #[] gs)]),(1004,ay x.1.2.2.2.2.2)]) (fun x=>x.1.2.1-x.1.1) ⟨(a,b,lim,true,true,d),hab,hbN,Zt _,Zt _,hd,hBel,hP⟩ A0h A0h (fun⟨⟨a1,b1,l1,wb,wp,dk⟩,x1,x2,x3,x4,hdk,hBk,heq⟩=>Sem.block ?_));simp only at x1 x2 x3 x4 hdk hBk heq⊢;have w1:aw .i64 ((b1:Int)-(a1:Int))=((b1-a1:Nat):Int):=by rw[aj A0j];omega
 refine Sem.seq [(1,.x (.int .i64 ((a1:Nat):Int))),(2,.x (.int .i64 ((b1:Nat):Int))),(3,.x (.int .i64 ((l1:Nat):Int))),(4,.ptr 4 0),(8,.x (.bool wb)),(9,.x (.bool wp)),(10,.x (.int .i64 ((b1-a1:Nat):Int)))] [(4,[.x (.func (.func g) #[] gl),.x (.func (.func sf) #[] gs)]),(1004,ay dk)] (Sem.run hE ah A0a A02) ?_;by_cases h12:b1-a1<=12
 . have c1:decide (((b1-a1:Nat):Int)<=12)=true:=Zk A0c;have e1:=N7 (g:=g) (sf:=sf) (gl:=gl) (gs:=gs) (N:=N) a1 b1 dk x1 x2 hdk;rw[<-heq,Go.Sort.pdq_small h12];refine Sem.seq_out (Sem.run hE ah A0a ?_);simp +decide (maxDischargeDepth:=200) only[go_sem,X1,X2,X3,bg,c1,e1]
 have c1:decide (((b1-a1:Nat):Int)<=12)=false:=Zl A0c;refine Sem.seq [(1,.x (.int .i64 ((a1:Nat):Int))),(2,.x (.int .i64 ((b1:Nat):Int))),(3,.x (.int .i64 ((l1:Nat):Int))),(4,.ptr 4 0),(8,.x (.bool wb)),(9,.x (.bool wp)),(10,.x (.int .i64 ((b1-a1:Nat):Int)))] [(4,[.x (.func (.func g) #[] gl),.x (.func (.func sf) #[] gs)]),(1004,ay dk)] (Sem.run hE ah A0a A0I) ?_;by_cases hl0:l1=0
 . have c2:decide (((l1:Nat):Int)=0)=true:=Zk A0c;have e1:=K6 (g:=g) (sf:=sf) (gl:=gl) (gs:=gs) (N:=N) a1 b1 dk x1 x2 hdk;rw[<-heq,Go.Sort.pdq_heap h12 hl0];refine Sem.seq_out (Sem.run hE ah A0a ?_);simp +decide (maxDischargeDepth:=200) only[go_sem,X1,X2,X3,bg,c2,e1]
 have c2:decide (((l1:Nat):Int)=0)=false:=Zl A0c;refine Sem.seq [(1,.x (.int .i64 ((a1:Nat):Int))),(2,.x (.int .i64 ((b1:Nat):Int))),(3,.x (.int .i64 ((l1:Nat):Int))),(4,.ptr 4 0),(8,.x (.bool wb)),(9,.x (.bool wp)),(10,.x (.int .i64 ((b1-a1:Nat):Int)))] [(4,[.x (.func (.func g) #[] gl),.x (.func (.func sf) #[] gs)]),(1004,ay dk)] (Sem.run hE ah A0a A04) ?_;obtain⟨R,hR⟩:∃R,rd ab dk a1 b1 l1 wb wp=R:=⟨_,rfl⟩;obtain⟨s1,B1,hc1,s2,B2,hpv,s3,B3⟩:=Go.Sort.rd_facts (lt:=ab) (limit:=l1) (wb:=wb) (wp:=wp) fB Go.Sort.partialInsertionSort_holds Go.Sort.reverseRange_holds (show a1<b1 by omega) (show b1<=dk.size by omega) hBk;have hlm:=Go.Sort.rd_lim_le (lt:=ab) (d:=dk) (a:=a1) (b:=b1) (limit:=l1) (wb:=wb) (wp:=wp);rw[hR] at s1 B1 hc1 s2 B2 hpv s3 B3 hlm;refine Sem.seq [(1,.x (.int .i64 ((a1:Nat):Int))),(2,.x (.int .i64 ((b1:Nat):Int))),(3,.x (.int .i64 ((R.lim:Nat):Int))),(4,.ptr 4 0),(8,.x (.bool wb)),(9,.x (.bool wp)),(10,.x (.int .i64 ((b1-a1:Nat):Int)))] [(4,[.x (.func (.func g) #[] gl),.x (.func (.func sf) #[] gs)]),(1004,ay R.d1)] (Sem.run hE ah A0a ?_) ?_
 . cases wb with
   |true=>obtain⟨q1,q2⟩:=Go.Sort.rd_true (lt:=ab) (d:=dk) (a:=a1) (b:=b1) (limit:=l1) (wp:=wp);rw[hR] at q1 q2;rw[q1,q2];simp +decide (maxDischargeDepth:=200) only[go_sem,X1,X2,X3,bg]
   | false=>
     obtain⟨q1,q2⟩:=Go.Sort.rd_false (lt:=ab) (d:=dk) (a:=a1) (b:=b1) (limit:=l1) (wp:=wp);rw[hR] at q1 q2;have e1:=N8 (g:=g) (sf:=sf) (gl:=gl) (gs:=gs) (N:=N) a1 b1 dk x1 x2 hdk;have w2:aw .i64 ((l1:Int)-1)=((l1-1:Nat):Int):=by rw[aj A0j];omega
     rw[q1,q2];simp +decide (maxDischargeDepth:=200) only[go_sem,X1,X2,X3,bg,e1,w2]
 have ec:=Go.Sort.rd_c (lt:=ab) (d:=dk) (a:=a1) (b:=b1) (limit:=l1) (wb:=wb) (wp:=wp);rw[hR] at ec;have e2:=N9 (g:=g) (sf:=sf) (gl:=gl) (gs:=gs) (N:=N) a1 b1 R.d1 A0c x2 (s1.trans hdk);rw[<-ec] at e2;refine Sem.seq [(1,.x (.int .i64 ((a1:Nat):Int))),(2,.x (.int .i64 ((b1:Nat):Int))),(3,.x (.int .i64 ((R.lim:Nat):Int))),(4,.ptr 4 0),(8,.x (.bool wb)),(9,.x (.bool wp)),(10,.x (.int .i64 ((b1-a1:Nat):Int))),(11,.x (.int .i64 ((R.c.1:Nat):Int))),(12,.x (.int .i64 (Go.Sort.hintCode R.c.2)))] [(4,[.x (.func (.func g) #[] gl),.x (.func (.func sf) #[] gs)]),(1004,ay R.d1)] (Sem.run hE ah A0a (by simp +decide (maxDischargeDepth:=200) only[go_sem,X1,X2,X3,bg,e2])) ?_;refine Sem.seq [(1,.x (.int .i64 ((a1:Nat):Int))),(2,.x (.int .i64 ((b1:Nat):Int))),(3,.x (.int .i64 ((R.lim:Nat):Int))),(4,.ptr 4 0),(8,.x (.bool wb)),(9,.x (.bool wp)),(10,.x (.int .i64 ((b1-a1:Nat):Int))),(11,.x (.int .i64 ((R.pivot:Nat):Int))),(12,.x (.int .i64 (Go.Sort.hintCode R.hint)))] [(4,[.x (.func (.func g) #[] gl),.x (.func (.func sf) #[] gs)]),(1004,ay R.d2)] (Sem.run hE ah A0a ?_) ?_
 . by_cases hh:R.c.2= .decreasing
   . obtain⟨q1,q2,q3⟩:=Go.Sort.rd_dec (lt:=ab) (d:=dk) (a:=a1) (b:=b1) (limit:=l1) (wb:=wb) (wp:=wp) (by rw[hR];exact hh);rw[hR] at q1 q2 q3;have e3:=Oa (g:=g) (sf:=sf) (gl:=gl) (gs:=gs) (N:=N) a1 b1 R.d1 A0c x2 (s1.trans hdk);rw[<-q1] at e3;have c3:decide (Go.Sort.hintCode R.c.2=2)=true:=by rw[hh];rfl
     have c4:Go.Sort.hintCode R.hint=1:=by rw[q3];rfl
     have w2:aw .i64 ((b1:Int)-1)=((b1-1:Nat):Int):=by rw[aj A0j];omega
     have w3:aw .i64 (((R.c.1:Nat):Int)-(a1:Int))=((R.c.1-a1:Nat):Int):=by rw[aj A0j];omega
     have w4:aw .i64 (((b1-1:Nat):Int)-((R.c.1-a1:Nat):Int))=((R.pivot:Nat):Int):=by rw[aj A0j];omega
     rw[c4];simp +decide (maxDischargeDepth:=200) only[go_sem,X1,X2,X3,bg,c3,e3,w2,w3,w4]
   . obtain⟨q1,q2,q3⟩:=Go.Sort.rd_not (lt:=ab) (d:=dk) (a:=a1) (b:=b1) (limit:=l1) (wb:=wb) (wp:=wp) (by rw[hR];exact hh);rw[hR] at q1 q2 q3
     have c3:decide (Go.Sort.hintCode R.c.2=2)=false:=Zl (fun h=>hh (by generalize R.c.2=h0 at h;cases h0<;>first|rfl|(simp[Go.Sort.hintCode] at h)))
     rw[q1,q2,q3];simp +decide (maxDischargeDepth:=200) only[go_sem,X1,X2,X3,bg,c3]
 obtain⟨Q,hQ1,hQ2⟩:∃Q:Prop,(Q->R.pi.2=false)∧(R.pi.2=false->Q):=⟨_,id,id⟩;refine Sem.seqQ Q [(1,.x (.int .i64 ((a1:Nat):Int))),(2,.x (.int .i64 ((b1:Nat):Int))),(3,.x (.int .i64 ((R.lim:Nat):Int))),(4,.ptr 4 0),(8,.x (.bool wb)),(9,.x (.bool wp)),(10,.x (.int .i64 ((b1-a1:Nat):Int))),(11,.x (.int .i64 ((R.pivot:Nat):Int)))] [(4,[.x (.func (.func g) #[] gl),.x (.func (.func sf) #[] gs)]),(1004,ay R.pi.1)] (Sem.run hE ah A0a ?_) (fun hq=>?_)
 . by_cases hin:R.hint= .increasing
   . have c5:decide (Go.Sort.hintCode R.hint=1)=true:=by rw[hin];rfl
     cases hw:(wb&&wp) with
     | true=>
       rw[Zq] at hw;obtain⟨hwb,hwp⟩:=hw;have epi:=Go.Sort.rd_pi_yes (lt:=ab) (d:=dk) (a:=a1) (b:=b1) (limit:=l1) (wb:=wb) (wp:=wp) (by rw[hR,hin,hwb,hwp];rfl);rw[hR] at epi;have e4:=K7 (g:=g) (sf:=sf) (gl:=gl) (gs:=gs) (N:=N) a1 b1 R.d2 A0c x2 (s2.trans hdk);rw[<-epi] at e4;cases h2:R.pi.2 with
       |true=>rw[h2] at e4;have hf:=Go.Sort.pdq_done (lt:=ab) (wb:=wb) (wp:=wp) h12 hl0 (by rw[hR];exact h2);rw[hR,heq] at hf;rw[hf];simp +decide (maxDischargeDepth:=200) only[go_sem,X1,X2,X3,bg,hwb,hwp,c5,e4]
       |false=>rw[h2] at e4;have q:=hQ2 h2;simp +decide (maxDischargeDepth:=200) only[go_sem,X1,X2,X3,bg,hwb,hwp,c5,e4,q]
     | false=>
       have epi:=Go.Sort.rd_pi_no (lt:=ab) (d:=dk) (a:=a1) (b:=b1) (limit:=l1) (wb:=wb) (wp:=wp) (by rw[hw];rfl);rw[hR] at epi;have q:=hQ2 (by rw[epi]);rw[epi];cases wb with
       |false=>simp +decide (maxDischargeDepth:=200) only[go_sem,X1,X2,X3,bg,c5,q]
       | true=>
         have hwp:wp=false:=by simpa using hw
         simp +decide (maxDischargeDepth:=200) only[go_sem,X1,X2,X3,bg,hwp,c5,q]
   . have c5:decide (Go.Sort.hintCode R.hint=1)=false:=Zl (fun h=>hin (by generalize R.hint=h0 at h;cases h0<;>first|rfl|(simp[Go.Sort.hintCode] at h)))
     have epi:=Go.Sort.rd_pi_no (lt:=ab) (d:=dk) (a:=a1) (b:=b1) (limit:=l1) (wb:=wb) (wp:=wp) (by rw[hR,Zl hin,Bool.and_false]);rw[hR] at epi;have q:=hQ2 (by rw[epi]);rw[epi];cases wb with
     |false=>simp +decide (maxDischargeDepth:=200) only[go_sem,X1,X2,X3,bg,c5,q]
     | true=>cases wp with
       |false=>simp +decide (maxDischargeDepth:=200) only[go_sem,X1,X2,X3,bg,c5,q]
       |true=>simp +decide (maxDischargeDepth:=200) only[go_sem,X1,X2,X3,bg,c5,q]
 have hp2:=hQ1 hq;clear hQ1 hQ2 hq Q;obtain⟨D,hD⟩:∃D,R.pi.1=D:=⟨_,rfl⟩;rw[hD] at s3 B3⊢;have z3:D.size=N:=s3.trans hdk;cases h87:(decide (a1>0)&& !ab D[a1-1]! D[R.pivot]!) with
 | true=>
   have h87':=h87;simp only[Zq,ZV,aaP] at h87';obtain⟨mid,d4,hx⟩:∃mid d4,Go.Sort.partitionEqual ab D a1 b1 R.pivot=(mid,d4):=⟨_,_,rfl⟩;obtain⟨r1,r2,r3,r4,_⟩:=Go.Sort.round_eq fB (Go.Sort.partitionEqual_holds ab) h87'.1 hpv.1 hpv.2 (show b1<=D.size by omega) B3 h87'.2 hx;have e5:=G6 (g:=g) (sf:=sf) (gl:=gl) (gs:=gs) (N:=N) a1 b1 R.pivot D hpv.1 hpv.2 x2 z3;rw[hx] at e5;have hl:=cy (N:=N) (a1-1) R.pivot D A0c A0c z3;rw[h87'.2] at hl;have c6:decide ((0:Int)<((a1:Nat):Int))=true:=Zk A0c;have w5:aw .i64 ((a1:Int)-1)=((a1-1:Nat):Int):=by rw[aj A0j];omega
   have hf:=Go.Sort.pdq_eq (lt:=ab) (wb:=wb) (wp:=wp) h12 hl0 (by rw[hR];exact hp2) A1m A08;rw[hR,hD,hx,heq] at hf;simp only at hf;refine Sem.seq_out (Sem.run hE ah A0a ?_);simp +decide (maxDischargeDepth:=200) only[go_sem,X1,X2,X3,bg,c6,w5,hl,e5];refine⟨⟨(mid,b1,R.lim,wb,wp,d4),by simp only;omega,by simp only;omega,by simp only;omega,by simp only;omega,r3.trans z3,r4,hf.symm⟩,?_,?_,by simp only;omega⟩<;>simp +decide only[go_sem]<;>(repeat' first|rfl|constructor)
 | false=>
   refine Sem.seq [(1,.x (.int .i64 ((a1:Nat):Int))),(2,.x (.int .i64 ((b1:Nat):Int))),(3,.x (.int .i64 ((R.lim:Nat):Int))),(4,.ptr 4 0),(8,.x (.bool wb)),(9,.x (.bool wp)),(10,.x (.int .i64 ((b1-a1:Nat):Int))),(11,.x (.int .i64 ((R.pivot:Nat):Int)))] [(4,[.x (.func (.func g) #[] gl),.x (.func (.func sf) #[] gs)]),(1004,ay D)] (Sem.run hE ah A0a ?_) ?_
   . by_cases ha0:0<a1
     . have c6:decide ((0:Int)<((a1:Nat):Int))=true:=Zk A0c;have w5:aw .i64 ((a1:Int)-1)=((a1-1:Nat):Int):=by rw[aj A0j];omega
       have hl:=cy (N:=N) (a1-1) R.pivot D A0c A0c z3;rw[Zk (show a1>0 from ha0),aaY,Bool.not_eq_false'] at h87;rw[h87] at hl;simp +decide (maxDischargeDepth:=200) only[go_sem,X1,X2,X3,bg,c6,w5,hl]
     . have c6:decide ((0:Int)<((a1:Nat):Int))=false:=Zl A0c;simp +decide (maxDischargeDepth:=200) only[go_sem,X1,X2,X3,bg,c6]
   obtain⟨mid,ap,d4,hx⟩:∃mid ap d4,Go.Sort.partition ab D a1 b1 R.pivot=(mid,ap,d4):=⟨_,_,_,rfl⟩;obtain⟨r1,r2,r3,r4,r5,r6,r7⟩:=Go.Sort.round_part fB (Go.Sort.partition_holds ab) hpv.1 hpv.2 (show b1<=D.size by omega) B3 hx;have e5:=K8 (g:=g) (sf:=sf) (gl:=gl) (gs:=gs) (N:=N) a1 b1 R.pivot D hpv.1 hpv.2 x2 z3;rw[hx] at e5;have z4:d4.size=N:=r3.trans z3;have w6:aw .i64 (((mid:Nat):Int)-(a1:Int))=((mid-a1:Nat):Int):=by rw[aj A0j];omega
   have w7:aw .i64 ((b1:Int)-((mid:Nat):Int))=((b1-mid:Nat):Int):=by rw[aj A0j];omega
   have w8:aw .i64 (((mid:Nat):Int)+1)=((mid+1:Nat):Int):=by rw[aj A0j];omega
   have w9:aw .i64 (((b1-a1:Nat):Int).tdiv 8)=(((b1-a1)/8:Nat):Int):=by rw[ab4 A0c,aj A0j];omega
   refine Sem.seq [(1,.x (.int .i64 ((a1:Nat):Int))),(2,.x (.int .i64 ((b1:Nat):Int))),(3,.x (.int .i64 ((R.lim:Nat):Int))),(4,.ptr 4 0),(8,.x (.bool wb)),(9,.x (.bool wp)),(10,.x (.int .i64 ((b1-a1:Nat):Int))),(14,.x (.int .i64 ((mid:Nat):Int))),(15,.x (.bool ap))] [(4,[.x (.func (.func g) #[] gl),.x (.func (.func sf) #[] gs)]),(1004,ay d4)] (Sem.run hE ah A0a (by simp +decide (maxDischargeDepth:=200) only[go_sem,X1,X2,X3,bg,e5])) ?_;refine Sem.seq [(1,.x (.int .i64 ((a1:Nat):Int))),(2,.x (.int .i64 ((b1:Nat):Int))),(3,.x (.int .i64 ((R.lim:Nat):Int))),(4,.ptr 4 0),(8,.x (.bool wb)),(9,.x (.bool ap)),(10,.x (.int .i64 ((b1-a1:Nat):Int))),(14,.x (.int .i64 ((mid:Nat):Int)))] [(4,[.x (.func (.func g) #[] gl),.x (.func (.func sf) #[] gs)]),(1004,ay d4)] (Sem.run hE ah A0a A0o) ?_;refine Sem.seq [(1,.x (.int .i64 ((a1:Nat):Int))),(2,.x (.int .i64 ((b1:Nat):Int))),(3,.x (.int .i64 ((R.lim:Nat):Int))),(4,.ptr 4 0),(8,.x (.bool wb)),(9,.x (.bool ap)),(10,.x (.int .i64 ((b1-a1:Nat):Int))),(14,.x (.int .i64 ((mid:Nat):Int))),(16,.x (.int .i64 ((mid-a1:Nat):Int))),(17,.x (.int .i64 ((b1-mid:Nat):Int)))] [(4,[.x (.func (.func g) #[] gl),.x (.func (.func sf) #[] gs)]),(1004,ay d4)] (Sem.run hE ah A0a (by simp +decide (maxDischargeDepth:=200) only[go_sem,X1,X2,X3,bg,w6,w7])) ?_;refine Sem.seq [(1,.x (.int .i64 ((a1:Nat):Int))),(2,.x (.int .i64 ((b1:Nat):Int))),(3,.x (.int .i64 ((R.lim:Nat):Int))),(4,.ptr 4 0),(8,.x (.bool wb)),(9,.x (.bool ap)),(14,.x (.int .i64 ((mid:Nat):Int))),(16,.x (.int .i64 ((mid-a1:Nat):Int))),(17,.x (.int .i64 ((b1-mid:Nat):Int))),(18,.x (.int .i64 (((b1-a1)/8:Nat):Int)))] [(4,[.x (.func (.func g) #[] gl),.x (.func (.func sf) #[] gs)]),(1004,ay d4)] (Sem.run hE ah A0a (by simp +decide (maxDischargeDepth:=200) only[go_sem,X1,X2,X3,bg,w9])) ?_;by_cases h4:mid-a1<b1-mid
   . have c7:decide (((mid-a1:Nat):Int)<((b1-mid:Nat):Int))=true:=Zk A0c;have e8:decide ((((b1-a1)/8:Nat):Int)<=((mid-a1:Nat):Int))=decide (mid-a1≥(b1-a1)/8):=acq.2 ⟨fun h=>by omega,fun h=>by omega⟩;have e9:=rA (g:=g) (sf:=sf) (gl:=gl) (gs:=gs) (N:=N) n a1 mid R.lim d4 A0c r1 A0c A0c z4 r4;obtain⟨pL,sL⟩:=Go.Sort.pdq_sorts ab fB d4 a1 mid R.lim true true r1 A0c r4;have hf:=Go.Sort.pdq_left (lt:=ab) (wb:=wb) (wp:=wp) h12 hl0 (by rw[hR];exact hp2) A1m A08 (by rw[hR,hD,hx];exact h4);rw[hR,hD,hx,heq] at hf;simp only at hf;generalize hB8:decide (mid-a1≥(b1-a1)/8)=b8 at e8 hf;have z5:=pL.1.trans z4;have B5:=(r6 _ pL sL).1;generalize Go.Sort.pdq ab d4 a1 mid R.lim true true=d5 at e9 hf z5 B5;refine Sem.run hE ah A0a ?_;simp +decide (maxDischargeDepth:=200) only[go_sem,X1,X2,X3,bg,c7,e8,e9,w8];refine⟨⟨(mid+1,b1,R.lim,b8,ap,d5),by simp only;omega,by simp only;omega,by simp only;omega,by simp only;omega,z5,B5,hf.symm⟩,?_,?_,by simp only;omega⟩<;>simp +decide only[go_sem]<;>(repeat' first|rfl|constructor)
   . have c7:decide (((mid-a1:Nat):Int)<((b1-mid:Nat):Int))=false:=Zl A0c;have e8:decide ((((b1-a1)/8:Nat):Int)<=((b1-mid:Nat):Int))=decide (b1-mid≥(b1-a1)/8):=acq.2 ⟨fun h=>by omega,fun h=>by omega⟩;have e9:=rA (g:=g) (sf:=sf) (gl:=gl) (gs:=gs) (N:=N) n (mid+1) b1 R.lim d4 A0c A0c A0c A0c z4 r5;obtain⟨pL,sL⟩:=Go.Sort.pdq_sorts ab fB d4 (mid+1) b1 R.lim true true A0c A0c r5;have hf:=Go.Sort.pdq_right (lt:=ab) (wb:=wb) (wp:=wp) h12 hl0 (by rw[hR];exact hp2) A1m A08 (by rw[hR,hD,hx];exact h4);rw[hR,hD,hx,heq] at hf;simp only at hf;generalize hB8:decide (b1-mid≥(b1-a1)/8)=b8 at e8 hf;have z5:=pL.1.trans z4;have B5:=(r7 _ pL sL).1;generalize Go.Sort.pdq ab d4 (mid+1) b1 R.lim true true=d5 at e9 hf z5 B5;refine Sem.run hE ah A0a ?_;simp +decide (maxDischargeDepth:=200) only[go_sem,X1,X2,X3,bg,c7,e8,e9,w8];refine⟨⟨(a1,mid,R.lim,b8,ap,d5),by simp only;omega,by simp only;omega,by simp only;omega,by simp only;omega,z5,B5,hf.symm⟩,?_,?_,by simp only;omega⟩<;>simp +decide only[go_sem]<;>(repeat' first|rfl|constructor)
theorem Mp (hS:SoOK G bk N g sf gl gs) (hB:FunXV G bk 72 [] (FE (dS g sf gl gs) (yN N))) (n:Nat):FunXV G bk 49 [] (FE (fI g sf gl gs) (uN N n)):=by
 induction n with
 |zero=>intro m w vs us bs gs hs r outs hF;obtain⟨⟨a,b,l,d⟩,_,hG⟩:=bL hF;unfold uN at hG;obtain⟨⟨h,_⟩,_⟩:=AZ hG;exact absurd h (abv _)
 |succ n ih=>exact G7 hS hB n ih
open Go.Sort (putRowK HoldsK flatK)
def ci (p:C3):List Value:=[.string p.1,.int .i64 p.2.1,.int .i64 p.2.2]
theorem cH (d:Array C3):ay d=(d.toList.flatMap ci).map V.x:=by
 unfold ay;generalize d.toList=l
 induction l with
 |nil=>rfl
 |cons p l ih=>rw[aag,aag,ZY,ih];rfl
theorem mJ:∀(l:List C3) (t:Nat),(l.flatMap ci)[t]?=(l[t/3]?).map fun p=>(ci p)[t%3]!
 |[],t=>by simp
 | p ::l,t=>by
   rw[aag];rcases aac t 3 with h|h
   . rw[Zy (by show t<3;exact h),Nat.div_eq_of_lt h,abx h];have:t=0∨t=1∨t=2:=A0c
     rcases this with rfl|rfl|rfl<;>rfl
   . rw[ZQ (by show 3<=t;exact h)];show(l.flatMap ci)[t-3]?=_;obtain⟨u,rfl⟩:∃u,t=u+3:=⟨t-3,A0c⟩;rw[Nat.add_sub_cancel,mJ l u,show(u+3)/3=u/3+1 from by omega,show(u+3)%3=u%3 from by omega,aaS]
theorem A0 (d:Array C3):(flatK ci 3 d).toList=d.toList.flatMap ci:=by
 apply aaz;intro t;rw[mJ];unfold flatK;rw[ZG,Array.getElem?_map,ZG];rcases aac t (d.size*3) with h|h
 . have h3:t/3<d.size:=A0c
   rw[Array.getElem?_range,Zp h,ZJ h3];simp[h3]
 . rw[Array.getElem?_range,Zs A0c,abi A0c];rfl
theorem mi {m:Lim} {w:World}:∀{xs l:List Value},RdL m w xs (l.map V.x)->xs=l
 |[],[],_=>rfl
 |x::xs,y::l,h=>by have h1:Rd m w x (.x y):=h.1;cases h1;rw[mi h.2]
theorem jX {m:Lim} {w:World}:∀l:List Value,RdL m w l (l.map V.x)
 |[]=>trivial
 |_::l=>⟨.x _,jX l⟩
variable {m:Lim} {w:World} {d:Array C3}
theorem jm {blk:Nat} (h:BoxAt m w blk (ay d)):HoldsK ci 3 w blk 0 d:=by
 obtain⟨_,vals,ty,xs,rest,hh,hv,hr⟩:=h;rw[cH] at hr;have hx:=mi hr;subst hx;intro j hj;have hlen:(flatK ci 3 d).size=d.size*3:=by simp[flatK]
 have e:vals[j]?=(flatK ci 3 d)[j]?:=by rw[<-ZG,hv,<-A0,Zy A0v,ZG]
 have hjs:j<vals.size:=by have h1:=abo List.length hv;rw[<-A0] at h1;simp only[ZH,Zr] at h1;omega
 refine⟨?_,?_⟩
 . rw[Zm,Box.cell hh,e,ZJ hj];exact abo some (abX _ j hj).symm
 . have hok:=ty.ok;have hh':w.heap[blk]?=some (.cells vals ty.ty (ty.fz.1,ty.fz.2)):=hh;generalize ty.fz.1=f1 at hh' hok;generalize ty.fz.2=f2 at hh' hok;simp only[World.frozen?,hh',Bool.and_eq_false_iff,decide_eq_false_iff_not];rcases hok with h2|h2
   . right;omega
   . left;omega
variable {n:Nat} {os:Array Obj} {cur:Array Value} {ty:TypeId}
theorem yO {w1:World} {g:Nat} {d:Array Value} {fr:Nat×Nat} (hh:w1.heap[g]?=some (.cells cur ty fr)):
 (Go.Sort.grow (Go.Sort.putRow id (Go.Sort.ahead w1 n) g 0 d) os).heap[g]?=some (.cells (Go.Sort.putCells id 0 d cur) ty fr)∧∀k,k<w1.heap.size->k≠g->(Go.Sort.grow (Go.Sort.putRow id (Go.Sort.ahead w1 n) g 0 d) os).heap[k]?=w1.heap[k]?:=by
 have hsz:(Go.Sort.putRow id (Go.Sort.ahead w1 n) g 0 d).heap.size=w1.heap.size:=by simp[Go.Sort.putRow,Go.Sort.mapBlock,Go.Sort.ahead]
 refine⟨?_,fun k hk hn=>?_⟩
 . rw[Go.Sort.heap_grow_old _ _ (by rw[hsz];exact ae hh)];show(w1.heap.modify g (Go.Sort.onCells (Go.Sort.putCells id 0 d)))[g]?=_;rw[abA,Zp rfl,hh];rfl
 . rw[Go.Sort.heap_grow_old _ _ (by rw[hsz];exact hk)];show(w1.heap.modify g (Go.Sort.onCells (Go.Sort.putCells id 0 d)))[k]?=_;rw[abA,Zs (fun e=>hn e.symm)]
variable {d':Array C3}
theorem qc {blk:Nat} (h:BoxAt m w blk (ay d)) (hs:d'.size=d.size):
 BoxAt m (Go.Sort.grow (putRowK ci 3 (Go.Sort.ahead w n) blk 0 d') os) blk (ay d')∧Bel [blk] w (Go.Sort.grow (putRowK ci 3 (Go.Sort.ahead w n) blk 0 d') os)∧Ext m w m (Go.Sort.grow (putRowK ci 3 (Go.Sort.ahead w n) blk 0 d') os):=by
 obtain⟨hlim,vals,ty,xs,rest,hh,hv,hr⟩:=h;rw[cH] at hr;have hx:=mi hr;subst hx;have hfl:(flatK ci 3 d').size=d.size*3:=by simp[flatK,hs]
 have hvl:d.size*3<=vals.size:=by
  have h1:=abo List.length hv;rw[<-A0] at h1;have h2:(flatK ci 3 d).size=d.size*3:=by simp[flatK]
  simp only[ZH,Zr] at h1;omega
 have hsz:w.heap.size<=(Go.Sort.grow (putRowK ci 3 (Go.Sort.ahead w n) blk 0 d') os).heap.size:=by simp[putRowK,Go.Sort.putRow,Go.Sort.mapBlock,Go.Sort.grow,Go.Sort.ahead]
 obtain⟨r1,r2⟩:=yO (w1:=w) (n:=n) (d:=flatK ci 3 d') (os:=os) hh;have hbel:Bel [blk] w (Go.Sort.grow (putRowK ci 3 (Go.Sort.ahead w n) blk 0 d') os):=⟨rfl,rfl,rfl,hsz,fun k hk hn=>r2 k hk A0R ⟩;refine⟨⟨hlim,_,ty.to (by simp[Go.Sort.putCells]),(flatK ci 3 d').toList,vals.toList.drop (d.size*3),r1,?_,?_⟩,hbel,⟨hsz,fun b off v hb hm hc=>?_,fun b hb fr hf=>⟨fr,hf,Zt _⟩,fun b es c hm hc=>(r2 b (dF hc) (fun e=>by rw[e,hlim] at hm;cases hm)).trans hc⟩⟩
 . apply aaz;intro j;rw[ZG,Go.Sort.putCells,Array.getElem?_mapIdx];rcases aac j (d.size*3) with h|h
   . rw[Zy (by simpa[hfl] using h),ZJ A0c,ZG,ZJ A0c];simp[hfl,h]
   . rw[ZQ (by simpa[hfl] using h),aay];simp only[ZH,hfl];rw[show d.size*3+(j-d.size*3)=j from by omega,ZG];cases vals[j]? with
     |none=>rfl
     |some v=>simp only[aah];rw[Zs A0c]
 . rw[cH,A0];exact jX _
 . by_cases e:b=blk
   . subst e;exact absurd (hm 0 hlim) (abv _)
   . exact(aT (j:=off) (r2 b hb e)).trans hc
variable {vs:Array Value} {p:Value} {bs hs:List Nat} {a b c:V}
theorem yP {K:Nat} {gs:List Nat} (h:ArgsP m w K (vs.toList++[p]) [a,b,c] bs gs hs):∃v1 v2,vs= #[v1,v2]:=by
 have hl:=h.len;simp only[Zr,ZH,ZB,Z5] at hl;obtain⟨l⟩:=vs
 match l,hl with
 |[v1,v2],_=>exact⟨v1,v2,rfl⟩
theorem G8 {K:Nat} {gs:List Nat} {d:V} (h:ArgsP m w K (vs.toList++[p]) [a,b,c,d] bs gs hs):∃v1 v2 v3,vs= #[v1,v2,v3]:=by
 have hl:=h.len;simp only[Zr,ZH,ZB,Z5] at hl;obtain⟨l⟩:=vs
 match l,hl with
 |[v1,v2,v3],_=>exact⟨v1,v2,v3,rfl⟩
section
variable {G:Nat->V} {bk N:Nat} {g sf:FuncId} {gl gs:Array Value}
theorem G9 (hsw:SwapSwapsK Try.prog sf gs ci 3 bk 0 N):FunXV G bk sf gs.toList (FE en2 (GSwp N)):=by
 intro m w vs us bs gs' hs r outs hF hargs hnd hhnd hj hg;obtain⟨⟨i,j,d⟩,hus,hG⟩:=bL hF;subst hus;unfold GSwp at hG;obtain⟨⟨hi,hjj,hd⟩,hG⟩:=bP hG;simp only at hi hjj hd;cases hG;obtain⟨v1,v2,rfl⟩:=yP hargs;simp only[en2] at hargs;cases hargs with
 | dat hr1 hd1 h1=>
   cases h1 with
   | dat hr2 hd2 h2=>
     cases h2 with
     |dat hr3 hd3 h3=>cases hd3
     | bx hb hK h3=>
       cases h3;cases hr1;cases hr2;have hH:=jm hb;have hrun:=hsw w d hH hd i j hi hjj;have hw:w=(putRowK ci 3 (Go.Sort.ahead w 0) bk 0 d).drewN 0:=by rw[Go.Sort.ahead_zero,Go.Sort.putRowK_self ci 3 w bk 0 d hH];rfl
       have hsw2:=Go.Sort.swap_worldK ci 3 (fun _=>rfl) w 0 0 bk 0 d i j A0c A0c;rw[<-hw] at hsw2;rw[hsw2] at hrun;have hgr:putRowK ci 3 (Go.Sort.ahead w (0+0)) bk 0 (swp d i j)=Go.Sort.grow (putRowK ci 3 (Go.Sort.ahead w 0) bk 0 (swp d i j)) #[]:=by rw[Go.Sort.grow_empty]
       rw[hgr] at hrun;obtain⟨b1,b2,b3⟩:=qc (n:=0) (os:= #[]) hb (bu d i j);refine .inr ⟨_,_,hrun,m,.tup #[] [] rfl (fun i v u h=>by simp at h),b2,b3,fun _ _ _=>rfl,⟨[ay (swp d i j)],[],A0l,⟨b1,trivial⟩,trivial⟩,fun sz es k e=>by cases e⟩
theorem Mq (hN:N<=MX) (hsw:SwapSwapsK Try.prog sf gs ci 3 bk 0 N):FunXV G bk 72 [] (FE (dS g sf gl gs) (yN N)):=by
 intro m w vs us bs gs' hs r outs hF hargs hnd hhnd hj hg;obtain⟨⟨a,b,d⟩,hus,hG⟩:=bL hF;subst hus;unfold yN at hG;obtain⟨⟨hab,hbN,hd⟩,hG⟩:=bP hG;simp only at hab hbN hd;cases hG;obtain⟨v1,v2,v3,rfl⟩:=G8 hargs;simp only[dS] at hargs;cases hargs with
 | dat hr1 hd1 h1=>
   cases h1 with
   | dat hr2 hd2 h2=>
     cases h2 with
     | dat hr3 hd3 h3=>
       cases h3 with
       |dat hr4 hd4 h4=>cases hd4
       | bx hb hK h4=>
         cases h4;cases hr2;cases hr3;obtain⟨cs,rfl,hcs⟩:=Rd.agg_iff.1 hr1;have e:cs= #[.func (.func g) #[] gl,.func (.func sf) #[] gs]:=by apply aae.1;exact mi (l:=[.func (.func g) #[] gl,.func (.func sf) #[] gs]) hcs
         subst e;have hH:=jm hb;have hblk:bk<w.heap.size:=by obtain⟨_,_,_,_,_,hhb,_⟩:=hb;exact ae hhb
         have hc:=Any.breakPatterns_func_cells_w (P:=Try.prog) (ρ:=Try.laysGg14_ren) {Try.laysGg14 with} ci 3 (fun _=>rfl) (.func g) #[] gl sf gs bk 0 a b d w (by rw[hd];exact hsw) hH hblk hab A0c A1j;change Calls Try.prog 72 _ _ _ at hc;refine .inl ⟨Try.call72 _ _,?_⟩;rw[show(#[Value.agg #[.func (.func g) #[] gl,.func (.func sf) #[] gs],.int .i64 (a:Int),.int .i64 (b:Int)]++(⟨[]⟩:Array Value))= #[.agg #[.func (.func g) #[] gl,.func (.func sf) #[] gs],.int .i64 (a:Int),.int .i64 (b:Int)] from abT];refine hc.mono ?_;rintro e w' ⟨rfl,n,os,rfl⟩;obtain⟨b1,b2,b3⟩:=qc (n:=n) (os:=os) hb ((Go.Sort.breakPatterns_holds d a b hab A0c).1);exact⟨_,rfl,m,.tup #[] [] rfl (fun i v u h=>by simp at h),b2,b3,fun _ _ _=>rfl,⟨[ay (Go.Sort.breakPatterns d a b)],[],A0l,⟨b1,trivial⟩,trivial⟩,fun sz es k e=>by cases e⟩
end
def Mr:List V->Option V
 | [.x (.int .i64 i),.x (.int .i64 j),.ip [.sl false 3 es none]]=>match es[i.toNat]?,es[j.toNat]? with
   |some (.agg [.x (.string s),.x (.int .i64 c),.x (.int .i64 r)]),some (.agg [.x (.string s'),.x (.int .i64 c'),.x (.int .i64 r')])=>if 0<=i∧0<=j then some (.x (.bool (gC s c r s' c' r'))) else none
   |_,_=>none
 |_=>none
theorem Ha:dA 44 Mr:=by
 refine aV (E:=aF [(38,pV)]) (k:=3) (bO _ ⟨ul,trivial⟩) A0a Try.func44 rfl (fun a w=>Try.call44 a w) Try.ntmps44 A0a A0b A0b ?_;intro us r hF hdat;unfold Mr at hF;split at hF
 case h_2=>cases hF
 rename_i i j es;split at hF
 case h_2=>cases hF
 rename_i s c r s' c' r' hi hj;obtain⟨⟨h0,h1⟩,hF⟩:=bP hF;cases hF;refine⟨rfl,?_⟩;have e1:pV [.agg [.x (.string s),.x (.int .i64 c),.x (.int .i64 r)],.agg [.x (.string s'),.x (.int .i64 c'),.x (.int .i64 r')]]=some (.x (.bool (gC s c r s' c' r'))):=rfl;simp +decide (maxDischargeDepth:=200) only[go_sem,h0,h1,hi,hj,e1]
open Go.Sort (putRowK HoldsK flatK PermIn SortedIn)
theorem A2 (p q:C3):ab p q=gC p.1 p.2.1 p.2.2 q.1 q.2.1 q.2.2:=rfl
variable {Bk cap:Nat}
theorem A3 (hb:BoxAt m w bk (ay d)) (hd:d.size=N) (hcap:N<=cap) (hB:Rd m w (.pointer (some ⟨Bk,0,none⟩)) (.ip [.x (.slice (some ⟨bk,0,none⟩) N cap)])):Rd (fun _=>none) w (.pointer (some ⟨Bk,0,none⟩)) (.ip [.sl false 3 (d.toList.map aa) none]):=by
 have hH:=jm hb;have hblk:bk<w.heap.size:=by obtain⟨_,_,_,_,_,hhb,_⟩:=hb;exact ae hhb
 have hlen:(flatK ci 3 d).size=d.size*3:=by simp[flatK]
 have hl:(d.toList.map aa).length=N:=by simpa using hd
 have hsl:Rd (fun _=>none) w (.slice (some ⟨bk,0,none⟩) (d.toList.map aa).length cap) (.sl false 3 (d.toList.map aa) none):=by
  refine .sl bk 0 cap 3 _ none (fun k=>(flatK ci 3 d)[k]!) hblk A0c (fun i e he=>?_) (fun k hk=>?_) (fun fr hf=>by cases hf) (fun i e he j dd hj=>?_)
  . rw[Io] at he;obtain⟨p,_,rfl⟩:=Zu.1 he;rfl
  . exact(hH k (by rw[hlen];simp at hk;omega)).1
  . rw[Io] at he;obtain⟨p,hp,rfl⟩:=Zu.1 he;have hil:i<d.size:=by simpa using(tl.1 hp).1
    have hdi:d[i]! =p:=by rw[eq A1g] at hp;rw[abX d i hil];simpa using hp
    have hj3:j<3:=(tl.1 hj).1;have e:(flatK ci 3 d)[i*3+j]! =(ci p)[j]! :=by rw[Go.Sort.get_flatK _ _ _ _ A0c,show(i*3+j)/3=i from by omega,show(i*3+j)%3=j from by omega,hdi]
    show Rd _ w ((flatK ci 3 d)[i*3+j]!) dd;rw[e];have:j=0∨j=1∨j=2:=A0c
    rcases this with rfl|rfl|rfl<;>(cases hj;exact .x _)
 rw[hl] at hsl;cases hB with
 | ip blk off cs c hbB hc hm hr=>
   have h0:Rd m w (c 0) (.x (.slice (some ⟨bk,0,none⟩) N cap)):=hr 0 _ rfl;have hc0:=Rd.x_iff.1 h0;refine .ip Bk 0 _ c hbB (fun k hk=>hc k hk) (fun fr hf=>by cases hf) (fun k dd hk=>?_);cases k with
   |zero=>cases hk;rw[hc0];exact hsl
   |succ k=>simp at hk
section
variable {G:Nat->V} {bk Bk N cap:Nat}
theorem Ob (hcap:N<=cap) (hG:G Bk= .ip [.x (.slice (some ⟨bk,0,none⟩) N cap)]):FunXV G bk 44 [.pointer (some ⟨Bk,0,none⟩)] (FE en2 (GLess N)):=by
 intro m w vs us bs gs' hs r outs hF hargs hnd hhnd hj hg;obtain⟨⟨i,j,d⟩,hus,hGl⟩:=bL hF;subst hus;unfold GLess at hGl;obtain⟨⟨hi,hjj,hd⟩,hGl⟩:=bP hGl;simp only at hi hjj hd;cases hGl;obtain⟨v1,v2,rfl⟩:=yP hargs;simp only[en2] at hargs;cases hargs with
 | dat hr1 hd1 h1=>
   cases h1 with
   | dat hr2 hd2 h2=>
     cases h2 with
     |dat hr3 hd3 h3=>cases hd3
     | bx hb hK h3=>
       cases h3;cases hr1;cases hr2;have hB:Rd m w (.pointer (some ⟨Bk,0,none⟩)) (.ip [.x (.slice (some ⟨bk,0,none⟩) N cap)]):=by have:=hg Bk;have e:(dy G (fun _ _=>none) 0).G Bk= .ip [.x (.slice (some ⟨bk,0,none⟩) N cap)]:=hG;rw[e] at this;exact this
       have hip:=A3 hb hd hcap hB;obtain⟨p,hp⟩:∃p,d.toList[i]?=some p:=⟨_,eq (by simpa using(show i<d.size by omega))⟩;obtain⟨q,hq⟩:∃q,d.toList[j]?=some q:=⟨_,eq (by simpa using(show j<d.size by omega))⟩;have hat:∀(k:Nat) (p:C3),k<d.size->d.toList[k]?=some p->d[k]! =p:=fun k p hk h=>by rw[eq A05] at h;rw[abX d k hk];simpa using h
       have hpe:=hat i p A0c hp;have hqe:=hat j q A0c hq;have hFL:Mr [.x (.int .i64 (i:Int)),.x (.int .i64 (j:Int)),.ip [.sl false 3 (d.toList.map aa) none]]=some (.x (.bool (ab d[i]! d[j]!))):=by rw[hpe,hqe,A2];simp only[Mr,jj hp,jj hq,iU];rw[Zp ⟨A0c,A0c⟩]
       have hcalls:=Ha.2 (fun _=>none) w #[.int .i64 (i:Int),.int .i64 (j:Int),.pointer (some ⟨Bk,0,none⟩)] _ _ hFL rfl ⟨.x _,.x _,hip,trivial⟩ hj (fun g=> .undef _);refine .inl ⟨Ha.1 _ _,?_⟩;refine hcalls.mono ?_;rintro e w' ⟨v,m',rfl,hv,hbel,_⟩;cases hv;have hblk:bk<w.heap.size:=by obtain⟨_,_,_,_,_,hhb,_⟩:=hb;exact ae hhb
       have hbx:BoxAt m w' bk (ay d):=by obtain⟨hlim,vals,ty,xs,rest,hh,hv,hr⟩:=hb;rw[cH] at hr;have hx:=mi hr;subst hx;exact⟨hlim,vals,ty,_,rest,(hbel.block bk hblk).trans hh,hv,by rw[cH];exact jX _⟩
       exact⟨_,rfl,m,.x _,⟨hbel.os,hbel.tape,hbel.output,hbel.size,fun k hk _=>hbel.block k hk⟩,Ext.of_below hbel (fun _ _=>rfl),fun _ _ _=>rfl,⟨[ay d],[],A0l,⟨hbx,trivial⟩,trivial⟩,fun sz es k e=>by cases e⟩
end
noncomputable def eE:TypeInfo:=(Try.prog.info? 25).get A0a
noncomputable def fC:TypeInfo:=(Try.prog.info? 35).get A0a
theorem T7 (n:Nat) (h:2<=n):Lib.swapperK n eE 25=9:=by
 have a:eE.hasPointers=true:=A0a
 have b:eE.bytes=32:=A0a
 have c:(n==0)=false:=A0C
 have d:(n==1)=false:=A0C
 simp[Lib.swapperK,a,b,c,d]
variable {tyB:TypeId} {frB:Nat×Nat}
theorem S9 {blk:Nat} (hh:w.heap[blk]?=some (.cells cur ty (0,0))) (hcur:∃rest,cur.toList=d.toList.flatMap ci++rest) {vals:Array Value} (hB:w.heap[Bk]?=some (.cells vals tyB frB)) (hB0:vals[0]?=some (.slice (some ⟨blk,0,none⟩) d.size cap)) (hne:Bk≠blk) (hcap:d.size<=cap) (hN:d.size<=MX) (hK:fV<=blk) (hj:(aF []).J w):
 Calls Try.prog 36 #[.iface 35 (.slice (some ⟨blk,0,none⟩) d.size cap),.func (.func 44) #[] #[.pointer (some ⟨Bk,0,none⟩)]] w fun e w'=>e= .returned (.tuple #[])∧∃d':Array C3,PermIn 0 d.size d d'∧SortedIn ab 0 d.size d'∧Bel [blk] w w'∧∃m',BoxAt m' w' blk (ay d'):=by
 have hi:Try.prog.info? 35=some fC:=A0a
 have hdd:fC.desc= .slice 25:=A0a
 have hie:Try.prog.info? 25=some eE:=A0a
 have hke:∀w,(Extern.Rtype.kind 25).run Try.prog w= .ok 25 w:=fun _=>by kernel_rfl
 obtain⟨rest,hcur⟩:=hcur;have hN1:d.size<=1000000:=hN;let m:Lim:=fun b=>if b=blk then some 0 else none
 have hbx:∀w2:World,w2.heap[blk]?=w.heap[blk]?->BoxAt m w2 blk (ay d):=fun w2 e=>⟨Zp rfl,cur,.plain ty,_,rest,e.trans hh,hcur,by rw[cH];exact jX _⟩
 have hblk:=ae hh;have hBk:=ae hB;by_cases h2:2<=d.size
 . let G:Nat->V:=fun b=>if b=Bk then .ip [.x (.slice (some ⟨blk,0,none⟩) d.size cap)] else .undef
   have hG:G Bk= .ip [.x (.slice (some ⟨blk,0,none⟩) d.size cap)]:=Zp rfl;have hx:∀args W,(callFunc 67 args).run Try.prog W=((Extern.ReflectliteSwapper.swap false args).run Try.prog W).andThen fun v w'=> .ok (.value v) w':=fun args W=>run_callFunc_extern Try.func67 A0a A0a A0a (e:=Extern.ReflectliteSwapper.swap false) A0a args W
   have hsw:=swapSwapsK_of_literal (P:=Try.prog) false 67 hx 25 eE hie ci 3 (fun _=>rfl) A0a (fun _=>by kernel_rfl) (fun p v hv=>by simp only[ci,ZE,aa3,acl] at hv;rcases hv with rfl|rfl|rfl<;>rfl) blk 0 d.size cap
   have hS:SoOK G blk d.size 44 67 #[.pointer (some ⟨Bk,0,none⟩)] #[.slice (some ⟨blk,0,none⟩) d.size cap,typeHandle Try.prog 25]:=⟨A0l,A0l,A0b,hN,Ob hcap hG,G9 hsw⟩;have hP:=Mp hS (Mq hN hsw) (d.size+1);refine Any.sort_Slice_of_pdq (P:=Try.prog) (ρ:=Try.laysGg6_ren) Try.laysGg6 35 25 fC eE hi hdd A0a hie 25 hke (some ⟨blk,0,none⟩) d.size cap A1j 67 (by rw[T7 _ h2];kernel_rfl) (.func 44) #[] #[.pointer (some ⟨Bk,0,none⟩)] w _ ?_;have hsb:sliceBound Try.prog 25 eE 25 (some ⟨blk,0,none⟩) d.size cap= #[.slice (some ⟨blk,0,none⟩) d.size cap,typeHandle Try.prog 25]:=by unfold sliceBound;rw[T7 _ h2];rfl
   rw[hsb];generalize hW:sliceWorld Try.prog Try.laysGg6_ren 35 (some ⟨blk,0,none⟩) d.size cap w=W;have hbel:Below w.heap.size w W:=by rw[<-hW];unfold sliceWorld;exact((Below.refl _ w).alloc (Zt _) _).alloc A0l _
   have hjW:(aF []).J W:=Glob.low hj hbel.size ⟨hbel.os,hbel.tape,hbel.output,hbel.size,fun k hk=>hbel.block k (Z3 hk (Glob.high hj))⟩;have hb:=hbx W (hbel.block blk hblk);have hl62:Lib.bitLen d.size<=62:=Lib.bitLen_le d.size 62 A0c A0c;have hF:=rA (g:=44) (sf:=67) (gl:= #[.pointer (some ⟨Bk,0,none⟩)]) (gs:= #[.slice (some ⟨blk,0,none⟩) d.size cap,typeHandle Try.prog 25]) (N:=d.size) (d.size+1) 0 d.size (Lib.bitLen d.size) d A0c A0c (Zt _) A0c rfl (.inl rfl)
   have hargs:ArgsP m W fV [.agg #[.func (.func 44) #[] #[.pointer (some ⟨Bk,0,none⟩)],.func (.func 67) #[] #[.slice (some ⟨blk,0,none⟩) d.size cap,typeHandle Try.prog 25]],.int .i64 ((0:Nat):Int),.int .i64 (d.size:Int),.int .i64 (Lib.bitLen d.size:Int),.pointer (some ⟨blk,0,none⟩)] [dB 44 67 #[.pointer (some ⟨Bk,0,none⟩)] #[.slice (some ⟨blk,0,none⟩) d.size cap,typeHandle Try.prog 25],.x (.int .i64 ((0:Nat):Int)),.x (.int .i64 (d.size:Int)),.x (.int .i64 (Lib.bitLen d.size:Int)),.bx (ay d)] [blk] [] []:=
    .dat (Rd.agg_iff.2 ⟨_,rfl,.x _,.x _,trivial⟩) rfl (.dat (.x _) rfl (.dat (.x _) rfl (.dat (.x _) rfl (.bx hb hK .nil))))
   have hgl:∀g,Rd m W (.pointer (some ⟨g,0,none⟩)) (G g):=fun b=>by
    show Rd m W _ (if b=Bk then _ else _);split
    . rename_i e;subst e;have hBW:=(hbel.block b hBk).trans hB;refine .ip b 0 _ (fun _=> .slice (some ⟨blk,0,none⟩) d.size cap) (ae hBW) (fun k hk=>?_) (fun fr hf=>?_) (fun k dd hk=>?_)
      . have:k=0:=A05
        subst this;rw[Box.cell hBW];exact hB0
      . have:m b=none:=Zs hne;rw[this] at hf;cases hf
      . cases k with
        |zero=>cases hk;exact .x _
        |succ k=>simp at hk
    . exact .undef _
   rcases hP m W #[.agg #[.func (.func 44) #[] #[.pointer (some ⟨Bk,0,none⟩)],.func (.func 67) #[] #[.slice (some ⟨blk,0,none⟩) d.size cap,typeHandle Try.prog 25]],.int .i64 ((0:Nat):Int),.int .i64 (d.size:Int),.int .i64 (Lib.bitLen d.size:Int)] _ [blk] [] [] _ _ hF hargs A0l A0l hjW hgl with⟨_,hc⟩|⟨v,w',he,_⟩
   . rw[show ∀a:Array Value,a++(⟨[]⟩:Array Value)=a from fun a=>abT] at hc;refine hc.mono ?_;rintro e w' ⟨v,rfl,m',hv,hb2,_,_,⟨o1,o2,ho,hou,_⟩,_⟩;have hs:=Go.Sort.pdq_sorts ab fB d 0 d.size (Lib.bitLen d.size) true true (Z0 _) (Zt _) (.inl rfl);have hvt:v= .tuple #[]:=by obtain⟨cs,rfl,hcs⟩:=Rd.tup_iff.1 hv;have:=hcs.length;simp only[ZH,Z5] at this;rw[aaR this]
     subst hvt;refine⟨rfl,_,hs.1,hs.2,⟨hb2.os.trans hbel.os,hb2.tape.trans hbel.tape,hb2.output.trans hbel.output,ZL hbel.size hb2.size,fun k hk hn=>(hb2.block k (Z3 hk hbel.size) A0R).trans (hbel.block k hk)⟩,m',?_⟩;cases o1 with
     |nil=>exact hou.elim
     |cons c o1=>obtain⟨e,_⟩:=aaT (show[ay _]=c::(o1++o2) from ho);rw[e];exact hou.1
   . have he2:=(Try.call49 _ _).symm.trans he;cases he2
 . have hz:d.size=0∨d.size=1:=A0c
   have hf:∃f,Try.prog.funcs.findIdx? (·.name== "internal/reflectlite" ++ ".Swapper$" ++toString (Lib.swapperK d.size eE 25))=some f:=by
    rcases hz with e|e
    . exact⟨59,by rw[e];kernel_rfl⟩
    . exact⟨60,by rw[e];kernel_rfl⟩
   obtain⟨f,hf⟩:=hf;refine(Any.sort_Slice_tiny (P:=Try.prog) (ρ:=Try.laysGg6_ren) Try.laysGg6 35 25 fC eE hi hdd A0a hie 25 hke (some ⟨blk,0,none⟩) d.size cap A0c f hf (.func 44) #[] #[.pointer (some ⟨Bk,0,none⟩)] w).mono ?_;rintro e w' ⟨rfl,os,rfl⟩;refine⟨rfl,d,Go.Sort.permIn_refl d _ _,fun i j _ h1 h3=>by omega,⟨rfl,rfl,rfl,by simp[Go.Sort.grow],fun k hk _=>Go.Sort.heap_grow_old _ _ hk⟩,m,hbx _ (Go.Sort.heap_grow_old _ _ hblk)⟩
theorem Ta:Calls Try.prog 36 #[.iface 35 (.slice none 0 0),.func (.func 44) #[] #[.pointer (some ⟨Bk,0,none⟩)]] w fun e w'=>e= .returned (.tuple #[])∧∃os,w'=Go.Sort.grow w os:=by
 have hi:Try.prog.info? 35=some fC:=A0a
 have hdd:fC.desc= .slice 25:=A0a
 have hie:Try.prog.info? 25=some eE:=A0a
 have hke:∀w,(Extern.Rtype.kind 25).run Try.prog w= .ok 25 w:=fun _=>by kernel_rfl
 exact Any.sort_Slice_tiny (P:=Try.prog) (ρ:=Try.laysGg6_ren) Try.laysGg6 35 25 fC eE hi hdd A0a hie 25 hke none 0 0 A0c 59 A0a (.func 44) #[] #[.pointer (some ⟨Bk,0,none⟩)] w
theorem Hc {m0:Lim} (hb:BoxAt m0 w bk (ay d)) (hcap:d.size<=cap) (m:Lim) (hm:m bk=none):Rd m w (.slice (some ⟨bk,0,none⟩) d.size cap) (.sl false 3 (d.toList.map aa) none):=by
 have hH:=jm hb;have hblk:bk<w.heap.size:=by obtain⟨_,_,_,_,_,hhb,_⟩:=hb;exact ae hhb
 have hlen:(flatK ci 3 d).size=d.size*3:=by simp[flatK]
 have hl:(d.toList.map aa).length=d.size:=A0l
 have hsl:Rd m w (.slice (some ⟨bk,0,none⟩) (d.toList.map aa).length cap) (.sl false 3 (d.toList.map aa) none):=by
  refine .sl bk 0 cap 3 _ none (fun k=>(flatK ci 3 d)[k]!) hblk A0c (fun i e he=>?_) (fun k hk=>?_) (fun fr hf=>by rw[hm] at hf;cases hf) (fun i e he j dd hj=>?_)
  . rw[Io] at he;obtain⟨p,_,rfl⟩:=Zu.1 he;rfl
  . exact(hH k (by rw[hlen];simp at hk;omega)).1
  . rw[Io] at he;obtain⟨p,hp,rfl⟩:=Zu.1 he;have hil:i<d.size:=by simpa using(tl.1 hp).1
    have hdi:d[i]! =p:=by rw[eq A1g] at hp;rw[abX d i hil];simpa using hp
    have hj3:j<3:=(tl.1 hj).1;have e:(flatK ci 3 d)[i*3+j]! =(ci p)[j]! :=by rw[Go.Sort.get_flatK _ _ _ _ A0c,show(i*3+j)/3=i from by omega,show(i*3+j)%3=j from by omega,hdi]
    show Rd _ w ((flatK ci 3 d)[i*3+j]!) dd;rw[e];have:j=0∨j=1∨j=2:=A0c
    rcases this with rfl|rfl|rfl<;>(cases hj;exact .x _)
 rw[hl] at hsl;exact hsl
open Go.Sort (PermIn SortedIn)
def fJ:List V->R2
 |[.agg [.x (.string a),.x (.int _ b),.x (.int _ c),.x (.string d),.x (.int _ e),.x (.int _ f)]]=>((a,b,c),(d,e,f))
 |_=>((⟨#[]⟩,0,0),(⟨#[]⟩,0,0))
theorem rB (q:R2):fJ [rgV q]=q:=rfl
def eK (q:R2):List C3:=(dR q.1.1 q.1.2.1 q.1.2.2 q.2.1 q.2.2.1 q.2.2.2).getD []
def rD (S:List R2×List C3) (q:R2):List R2×List C3:=if inS S.1 q=true then S else (bA S.1 q,(eK q).foldl bA S.2)
def jo (pre:List (List V)):List R2×List C3:=pre.foldl (fun S x=>rD S (fJ x)) ([],[])
theorem He (pre:List (List V)) (q:R2):jo (pre++[[rgV q]])=rD (jo pre) q:=by simp[jo,rB]
variable {α:Type}
theorem n9 [DecidableEq α] (l:List α):∀(L:List α) (x:α),x∈l.foldl bA L↔x∈L∨x∈l:=by
 induction l with
 |nil=>intro L x;simp
 |cons y l ih=>intro L x;rw[aao,ih,n7,ZE,or_assoc]
theorem yQ [DecidableEq α] (l:List α):∀(L:List α),L.Nodup->(l.foldl bA L).Nodup:=by
 induction l with
 |nil=>exact fun L h=>h
 |cons y l ih=>exact fun L h=>ih _ (n8 h)
theorem Hf [DecidableEq α] (l:List α):∀(L:List α),(l.foldl bA L).length<=L.length+l.length:=by
 induction l with
 |nil=>intro L;simp
 |cons y l ih=>intro L;have h1:=ih (bA L y);have h2:=G1 L y;rw[aao,ZB];omega
theorem oa (q:R2):(eK q).length<=400:=by
 unfold eK dR;split
 . rename_i h;rw[aaE,dI];obtain⟨_,_,_,hc,hr⟩:=ku.1 h.1;have h2:=h.2;unfold cV at h2;obtain⟨x,hx⟩:=aaf (show 0<=q.2.2.1-q.1.2.1+1 by omega);obtain⟨y,hy⟩:=aaf (show 0<=q.2.2.2-q.1.2.2+1 by omega);rw[hx,hy] at h2⊢;rw[iO,iO,abW];omega
 . simp
theorem K9 (pre:List (List V)) (q:R2):q∈(jo pre).1↔∃x∈pre,fJ x=q:=by
 have key:∀(l:List (List V)) (S:List R2×List C3),q∈(l.foldl (fun S x=>rD S (fJ x)) S).1↔q∈S.1∨∃x∈l,fJ x=q:=by
  intro l
  induction l with
  |nil=>intro S;simp
  | cons x l ih=>
    intro S;have h1:q∈(rD S (fJ x)).1↔q∈S.1∨fJ x=q:=by
     unfold rD;split
     . rename_i h;exact⟨.inl,fun e=>e.elim id (fun e=>e▸rz.1 h)⟩
     . exact n7.trans (or_congr acj eq_comm)
    rw[aao,ih,h1];simp only[ZE,exists_eq_or_imp,or_assoc]
 rw[jo,key];simp
theorem La (pre:List (List V)) (p:C3):p∈(jo pre).2↔∃x∈pre,p∈eK (fJ x):=by
 have key:∀(l:List (List V)) (S:List R2×List C3),(∀q∈S.1,∀p∈eK q,p∈S.2)->(p∈(l.foldl (fun S x=>rD S (fJ x)) S).2↔p∈S.2∨∃x∈l,p∈eK (fJ x)):=by
  intro l
  induction l with
  |nil=>intro S _;simp
  | cons x l ih=>
    intro S hS;have h1:p∈(rD S (fJ x)).2↔p∈S.2∨p∈eK (fJ x):=by
     unfold rD;split
     . rename_i h;exact⟨.inl,fun e=>e.elim id (hS _ (rz.1 h) p)⟩
     . exact n9 _ _ _
    have h2:∀q∈(rD S (fJ x)).1,∀p∈eK q,p∈(rD S (fJ x)).2:=by
     unfold rD;split
     . exact hS
     . intro q hq p hp;rcases n7.1 hq with hq|hq
       . exact(n9 _ _ _).2 (.inl (hS q hq p hp))
       . exact(n9 _ _ _).2 (.inr (hq▸hp))
    rw[aao,ih _ h2,h1];simp only[ZE,exists_eq_or_imp,or_assoc]
 rw[jo,key _ _ (fun q hq=>by cases hq)];simp
theorem uO (pre:List (List V)):(jo pre).1.Nodup∧(jo pre).2.Nodup:=by
 have key:∀(l:List (List V)) (S:List R2×List C3),S.1.Nodup->S.2.Nodup->(l.foldl (fun S x=>rD S (fJ x)) S).1.Nodup∧(l.foldl (fun S x=>rD S (fJ x)) S).2.Nodup:=by
  intro l
  induction l with
  |nil=>exact fun S h1 h2=>⟨h1,h2⟩
  | cons x l ih=>
    intro S h1 h2;rw[aao];refine ih _ ?_ ?_
    . unfold rD;split
      . exact h1
      . exact n8 h1
    . unfold rD;split
      . exact h2
      . exact yQ _ _ h2
 exact key pre _ Z8 Z8
theorem Lb (pre:List (List V)):(jo pre).2.length<=400*(jo pre).1.length:=by
 have key:∀(l:List (List V)) (S:List R2×List C3),S.2.length<=400*S.1.length->(l.foldl (fun S x=>rD S (fJ x)) S).2.length<=400*(l.foldl (fun S x=>rD S (fJ x)) S).1.length:=by
  intro l
  induction l with
  |nil=>exact fun S h=>h
  | cons x l ih=>
    intro S h;rw[aao];refine ih _ ?_;unfold rD;split
    . exact h
    . rename_i hn;have h1:=Hf (eK (fJ x)) S.2;have h2:=oa (fJ x);have h3:(bA S.1 (fJ x)).length=S.1.length+1:=by
       have hn2: ¬fJ x∈S.1:=fun h=>hn (rz.2 h)
       unfold bA;rw[Zs hn2];simp
      simp only[h3];omega
 exact key pre _ A0l
variable {nd:Nd} {xs:List (List V)}
theorem Dr (h:NU nd xs) (q:R2) (hq:q∈(jo xs).1):q∈allN nd:=by obtain⟨x,hx,rfl⟩:=(K9 xs q).1 hq;obtain⟨q',hq',rfl⟩:=h x hx;exact hq'
theorem Od (h:NU nd xs) (h4:rq nd<=400):(jo xs).1.length<=400∧(jo xs).2.length<=160000:=by have h1:=d8 (l':=allN nd) (uO xs).1 (fun q hq=>Dr h q hq);have h2:=uK nd;have h3:=Lb xs;omega
theorem Oe (h:GG nd xs) (p:C3):p∈(jo xs).2↔∃q∈allN nd,EC p q=true:=by
 rw[La];constructor
 . rintro⟨x,hx,hp⟩;obtain⟨q,hq,rfl⟩:=h.1 x hx;rw[rB] at hp;exact⟨q,hq,((lr p).1 hp).2⟩
 . rintro⟨q,hq,hi⟩;refine⟨_,h.2 q hq,?_⟩;rw[rB];exact(lr p).2 ⟨GL nd q hq,hi⟩
theorem Hg (hp:PermIn 0 d.size d d') (hs:SortedIn ab 0 d.size d') (hn:d.toList.Nodup):iF ab d'.toList∧d'.toList.Perm d.toList:=by
 obtain⟨hsz,_,hperm⟩:=hp;have e1:d'.extract 0 d.size=d':=by rw[<-hsz];exact Array.extract_size
 rw[e1,Array.extract_size] at hperm;refine⟨?_,hperm⟩;have hnd:d'.toList.Nodup:=hperm.nodup_iff.2 hn;rw[iF,aa7];intro i j hi hj hij;have hi':i<d'.size:=A0m
 have hj':j<d'.size:=A0v
 have h1:=hs i j (Z0 _) hij A0c;rw[abX d' i hi',abX d' j hj'] at h1;have hne:d'.toList[i]≠d'.toList[j]:=(aa7.1 hnd) i j hi hj hij;rw[Array.getElem_toList,Array.getElem_toList] at hne⊢;cases h2:ab d'[i] d'[j] with
 |true=>rfl
 |false=>exact absurd (bQ.tri _ _ h2 h1) hne
theorem Ds {q:R2} (h:nR q=true):dR q.1.1 q.1.2.1 q.1.2.2 q.2.1 q.2.2.1 q.2.2.2=some (eK q):=by unfold eK dR;unfold nR at h;rw[Zq,ZV] at h;rw[Zp h];rfl
def OneG (E:Env) (n:Nat) (B:Bs) (st:St) (a:Act) (w:World) (g:Nat) (ob:Obj) (lg:Option Nat):Prop:=
 ∃m O,Now E n B.D O m st a w∧(∀k,O k->B.Os k∨B.ws.heap.size<=k)∧Step B.Os B.ms B.ws m w∧Marks B.D O B.ws.heap.size w∧B.Kn.P m w∧KeepT B.W B.t0 a.tmps∧ ¬O g∧w.heap[g]?=some ob∧m g=lg
section
variable {E:Env} {n:Nat} {B:Bs} {m:Lim} {w:World} {st:St} {a:Act} {O:Nat->Prop} {r:Option Nat} {g:Nat} {ob:Obj} {lg:Option Nat}
variable {st':St}
theorem OneG.le (h:OneG E n B st a w g ob lg) (hl:Le st' st):OneG E n B st' a w g ob lg:=by obtain⟨m,O,h1,h2⟩:=h;exact⟨m,O,h1.le hl,h2⟩
theorem OneG.one (h:OneG E n B st a w g ob lg):One E n B st a w:=by obtain⟨m,O,h1,h2,h3,h4,h5,h6,_⟩:=h;exact⟨m,O,h1,h2,h3,h4,h5,h6⟩
variable {m':Lim} {w':World}
theorem OneG.grown {a':Act} (h2:∀k,O k->B.Os k∨B.ws.heap.size<=k) (h3:Step B.Os B.ms B.ws m w) (h4:Marks B.D O B.ws.heap.size w) (h5:B.Kn.P m w) (hkt:KeepT B.W B.t0 a'.tmps) (h7: ¬O g) (h8:w.heap[g]?=some ob) (h9:m g=lg)
 (hn:Now E n B.D (o8 O w w') m' st' a' w') (hs:Step O m w m' w'):OneG E n B st' a' w' g ob lg:=by
 obtain⟨m2,O2,q1,q2,q3,q4,q5,q6⟩:=One.grown h2 h3 h4 h5 hkt hn hs;have hg:=hs.same g (ae h8) h7;refine⟨m',o8 O w w',hn,fun k hg=>?_,h3.next hs (fun i hi ho=>(h2 i ho).resolve_right (abh.2 hi)),⟨h4.nd,fun d hd=>?_⟩,B.Kn.mono _ _ _ _ h5 hs.ext,hkt,fun hgr=>?_,hg.1.trans h8,hg.2.trans h9⟩
 . rcases hg.2 with hg|hg
   . exact h2 k hg
   . exact .inr (ZL h3.ext.size hg)
 . obtain⟨b,rfl,q1,q2,q3⟩:=h4.is d hd;refine⟨b,rfl,q1,(hs.same b (ae q2) q3).1.trans q2,fun hg=>?_⟩;rcases hg.2 with hg|hg
   . exact q3 hg
   . exact absurd (ae q2) (Z4.2 hg)
 . rcases hgr.2 with hg|hg
   . exact h7 hg
   . exact absurd (ae h8) (Z4.2 hg)
theorem uP (hE:EnvOK E) {ops:List Oper} {Q:Exit->Act->World->Prop} (ts:List (Nat×V)) (bs:List (Nat×List V)) (rest:List Nat):∀(l:List Oper) (is:List Nat) (st:St) (a:Act) (w:World),(is.map fun i=>ops[i]?)=l.map some->bl n l=true->mE B.W l=true->mE B.W ops=true->
 OneG E n B st a w g ob lg->(bw E ⟨ops⟩ l st fun st'=>fH st' ts∧fX st' bs)->(∀a' w',OneG E n B (am ts bs) a' w' g ob lg->wpOpsIn (aX r) 0 E.P ⟨ops⟩ Q rest a' w')->wpOpsIn (aX r) 0 E.P ⟨ops⟩ Q (is++rest) a w
 |[],[],st,a,w,_,_,_,_,h,hr,hK=>hK a w (h.le (aG hr.1 hr.2))
 |[],i::is,st,a,w,hi,_,_,_,h,hr,hK=>by simp at hi
 |o::l,[],st,a,w,hi,_,_,_,h,hr,hK=>by simp at hi
 | o ::l,i::is,st,a,w,hi,hd,hW,hWo,h,hr,hK=>by
   rw[aan,wpOpsIn_cons];simp only[ZN,Z2] at hi;obtain⟨st',hs,hl,hb⟩:=cF _ _ hr;unfold dY at hs;split at hs
   . rename_i st1 h1;obtain⟨m,O,q1,q2,q3,q4,q5,q6,q7,q8,q9⟩:=h;have hlt:=q1.lt;obtain⟨b,β,hrel⟩:=q1.rel;have hi1:(⟨ops⟩:Array Oper)[i]?=some o:=by simpa using hi.1
     have hwp:wpOpIn (aX r) 0 E.P ⟨ops⟩ Q i (fun a' w'=>OneG E n B st1 a' w' g ob lg∨(∃m' β',Rel E n ⟨lst O w.heap.size,b,lst O w.heap.size,B.D⟩ m w m' β' st1 a' w')) a w:=dh (hE.x (.inr (fun _ h=>h))) hrel hi1 (c8 hd A0l) h1 (fun a' w' m' β' hr'=> .inr ⟨m',β',hr'⟩);have hkeep:=ex (W:=B.W) (t:=B.t0) (by simpa using hWo) q6 (K':=fun a' w'=>OneG E n B st1 a' w' g ob lg) (fun a' w' hK' hkt=>by
      rcases hK' with hK'|⟨m',β',hr'⟩
      . exact hK'
      . obtain⟨hn,hst⟩:=Now.of_rel hE hlt hr';exact OneG.grown q2 q3 q4 q5 hkt q7 q8 q9 hn hst) hwp
     have hWl:mE B.W l=true:=by simp only[mE,aap,Zq] at hW;exact hW.2
     have hdl:bl n l=true:=by simp only[bl,aap,Zq] at hd;exact hd.2
     exact iR (fun a' w' h'=>uP hE ts bs rest l is st1 a' w' hi.2 hdl hWl hWo h' (gw _ _ hs ⟨hl,hb⟩) hK) (fun e a' w' h'=>h'.1) hkeep
   . cases hs
theorem fZ (hE:EnvOK E) {ops:List Oper} {Q:Exit->Act->World->Prop} (k j:Nat) (ts:List (Nat×V)) (bs:List (Nat×List V)) (rest:List Nat) (hl:k+j<=ops.length) (hd:bl n ((ops.drop k).take j)=true) (hW:mE B.W ops=true)
 (h:OneG E n B st a w g ob lg) (hr:bw E ⟨ops⟩ ((ops.drop k).take j) st fun st'=>fH st' ts∧fX st' bs) (hK:∀a' w',OneG E n B (am ts bs) a' w' g ob lg->wpOpsIn (aX r) 0 E.P ⟨ops⟩ Q rest a' w'):wpOpsIn (aX r) 0 E.P ⟨ops⟩ Q (List.range' k j++rest) a w:=
 uP hE ts bs rest _ _ st a w (jh ops k j hl) hd (Zw.2 (fun o ho=>Zw.1 hW o (List.mem_of_mem_drop (List.mem_of_mem_take ho)))) hW h hr hK
variable {ops:List Oper} {Q:Exit->Act->World->Prop} {rest:List Nat} {o:Oper}
theorem iW {i:Nat} {d:Tmp} (hi:ops[i]?=some o) (hdef:∀c,o.op≠ .defer c) (hd:o.dst=some d) (hdn:d<n) (hWd:B.W d=true) (hg:o.guard=none) (h:OneG E n B st a w g ob lg) (v:Value) (hrun:(execOp a.eval o).run E.P w= .ok (.value v) w)
 (hK:∀a',OneG E n B (st.put (some d) (.x v)) a' w g ob lg->a'=a.put (some d) v->wpOpsIn (aX none) 0 E.P ⟨ops⟩ Q rest a' w):wpOpsIn (aX none) 0 E.P ⟨ops⟩ Q (i::rest) a w:=by
 obtain⟨m,O,q1,q2,q3,q4,q5,q6,q7,q8,q9⟩:=h;rw[wpOpsIn_cons];unfold wpOpIn;have hi':(⟨ops⟩:Array Oper)[i]?=some o:=A0m
 rw[hi'];simp only;rw[Zp A0u];refine⟨fun _ _=>trivial,?_⟩;rw[Oper.semAt_eq _ _ _ hdef,hrun];show wpOpsIn (aX none) 0 E.P ⟨ops⟩ Q rest (a.put o.dst v) w;rw[hd];have hp:=q1.put hdn (v:=v) (u:= .x v) (.x _);rw[cM] at hp;exact hK _ ⟨m,O,hp,q2,q3,q4,q5,q6.put (fun k e=>by cases e;exact hWd),q7,q8,q9⟩ rfl
theorem rE {i:Nat} {d:Tmp} (hi:ops[i]?=some o) (hdef:∀c,o.op≠ .defer c) (hd:o.dst=some d) (hdn:d<n) (hWd:B.W d=true) (hg:o.guard=none) (h:One E n B st a w) (v:Value) (hrun:(execOp a.eval o).run E.P w= .ok (.value v) w)
 (hK:∀a',One E n B (st.put (some d) (.x v)) a' w->a'=a.put (some d) v->wpOpsIn (aX none) 0 E.P ⟨ops⟩ Q rest a' w):wpOpsIn (aX none) 0 E.P ⟨ops⟩ Q (i::rest) a w:=by
 obtain⟨m,O,q1,q2,q3,q4,q5,q6⟩:=h;rw[wpOpsIn_cons];unfold wpOpIn;have hi':(⟨ops⟩:Array Oper)[i]?=some o:=A0m
 rw[hi'];simp only;rw[Zp A0u];refine⟨fun _ _=>trivial,?_⟩;rw[Oper.semAt_eq _ _ _ hdef,hrun];show wpOpsIn (aX none) 0 E.P ⟨ops⟩ Q rest (a.put o.dst v) w;rw[hd];have hp:=q1.put hdn (v:=v) (u:= .x v) (.x _);rw[cM] at hp;exact hK _ ⟨m,O,hp,q2,q3,q4,q5,q6.put (fun k e=>by cases e;exact hWd)⟩ rfl
theorem One.putU {d:Tmp} (hd:d<n) (hWd:B.W d=true) (h:One E n B st a w) (v:Value):One E n B (st.put (some d) .undef) (a.put (some d) v) w:=by obtain⟨m,O,q1,q2,q3,q4,q5,q6⟩:=h;have hp:=q1.put hd (v:=v) (u:= .undef) (.undef _);rw[dZ] at hp;exact⟨m,O,hp,q2,q3,q4,q5,q6.put (fun k e=>by cases e;exact hWd)⟩
theorem Now.box_at {D:List Deferred} (h:Now E n D O m st a w) {i s:Nat} {v:Value} (hi:st.t i= .ptr s 0) (hb:st.b s=some [.x v]):∃b vals ty fr,a.tmps.getD i Go.undef= .pointer (some ⟨b,0,none⟩)∧w.heap[b]?=some (.cells vals ty fr)∧vals[0]?=some v∧O b:=by
 obtain⟨⟨c,β,hr⟩,hlt⟩:=h;have ht:=hr.tmps i;rw[hi] at ht;obtain⟨⟨_,vals,ty,xs,rest,hh,hv,hrd⟩,hge⟩:=hr.boxes s _ hb;refine⟨β s,vals,ty.ty,ty.fz,ht.ptr,hh,?_,?_⟩
 . have hx:xs=[v]:=mi (l:=[v]) hrd;rw[<-ZG,hv,hx];rfl
 . rcases hge with hge|hge
   . exact absurd (ae hh) (Z4.2 hge)
   . exact(bj.1 hge).2
theorem OneG.after {Kn':Kno} {d:Tmp} (hd:d<n) {v:Value} (h1:Now E n B.D O m st a w) (h2:∀k,O k->B.Os k∨B.ws.heap.size<=k) (h3:Step B.Os B.ms B.ws m w) (h4:Marks B.D O B.ws.heap.size w) (h6:KeepT B.W B.t0 a.tmps) (hWd:B.W d=true) (hs:Step (fun _=>False) m w m' w') (hJ:E.J w') (hk:Kn'.P (upd m' g (some 0)) w') (hg:w.heap.size<=g) (hh:w'.heap[g]?=some ob):
 OneG E n {B with Kn:=Kn'} (st.put (some d) (.x v)) (a.put (some d) v) w' g ob (some 0):=by
 have hs':Step (fun _=>False) m w (upd m' g (some 0)) w':=⟨hs.os,hs.tape,hs.output,⟨hs.ext.size,hs.ext.cell,fun b hb fr' hf=>by rw[ag _ _ A0c] at hf;exact hs.ext.lim b hb fr' hf,hs.ext.map⟩,fun k hk hn=>⟨(hs.same k hk hn).1,by rw[ag _ _ A0c];exact(hs.same k hk hn).2⟩⟩
 have hp:=(h1.other hs' (fun _ _ h=>h) hJ).put hd (v:=v) (u:= .x v) (.x _);rw[cM] at hp;refine⟨_,O,hp,h2,h3.next hs' (fun _ _ h=>h.elim),⟨h4.nd,fun x hx=>?_⟩,hk,h6.put (fun k e=>by cases e;exact hWd),fun ho=>absurd (h1.lt g ho) A0c,hh,ai _ _ _⟩;obtain⟨b,rfl,q1,q2,q3⟩:=h4.is x hx;exact⟨b,rfl,q1,(hs.same b (ae q2) (fun h=>h)).1.trans q2,q3⟩
variable {l:List C3}
theorem Hh {es:List V} {tok:Option Nat} {len:Nat} (hes:es=l.map aa) (h:Rd m w (.slice (some ⟨g,0,none⟩) len cap) (.sl false 3 es tok)) (hh:w.heap[g]?=some (.cells cur ty (0,0))):∃rest,cur.toList=l.flatMap ci++rest:=by
 cases h with
 | emp a cap sz=>
   cases l with
   |nil=>exact⟨cur.toList,rfl⟩
   |cons p l=>cases hes
 | sl blk off cap sz es tok c hb hcap hsz hc hm hr=>
   subst hes;rw[io] at hc;refine⟨cur.toList.drop (l.length*3),?_⟩;have e:cur.toList.take (l.length*3)=l.flatMap ci:=by
    apply aaz;intro t;rw[mJ,Z9];by_cases ht:t<l.length*3
    . rw[Zp ht,ZG];have h1:=hc t ht;rw[Zm,Box.cell hh] at h1;have hl:t/3<l.length:=A0c
      have h2:=hr (t/3) (aa l[t/3]) (by rw[Io,eq hl];rfl) (t%3);rw[show t/3*3+t%3=t from by omega] at h2;rw[h1,eq hl,aah];have h3:t%3=0∨t%3=1∨t%3=2:=A0c
      rcases h3 with h3|h3|h3<;>
      . rw[h3] at h2⊢;have h4:=h2 _ rfl;rw[Rd.x_iff.1 h4];rfl
    . rw[Zs ht,ZM A0c];rfl
   rw[<-e,abC]
theorem OneG.done (hE:EnvOK E) {w':World} {v:Value} {u:V} (h:OneG E n B st a w g (ob) (some 0)) (hcell:∃vals ty fr,ob= .cells vals ty fr) (hgs:B.ws.heap.size<=g) (hK:E.K<=g) (hb:Bel [g] w w') (hv:∀m,m g=none->Rd m w' v u):One E n {B with Kn:=Kno.rd v u} st a w':=by
 obtain⟨m,O,q1,q2,q3,q4,q5,q6,q7,q8,q9⟩:=h;have hs:Step (fun k=>k=g) m w (upd m g none) w':=by
  refine⟨hb.os,hb.tape,hb.output,⟨hb.size,fun b off v hlt hm hc=>?_,fun b hlt fr' hf=>?_,fun b es c hm hc=>(hb.block b (dF hc) (by intro e;rw[Zn.1 e,q9] at hm;cases hm)).trans hc⟩,fun k hk hn=>⟨hb.block k hk A0R,ag _ _ hn⟩⟩
  . by_cases e:b=g
    . subst e;exact absurd (hm 0 q9) (abv _)
    . rw[aT (hb.block b hlt (by simpa using e))];exact hc
  . by_cases e:b=g
    . rw[e,ai] at hf;cases hf
    . rw[ag _ _ e] at hf;exact⟨fr',hf,Zt _⟩
 have hJ:E.J w':=hE.keep [g] _ _ (fun x hx=>by rw[Zn.1 hx];exact hK) q1.J hb;refine⟨_,O,q1.other hs (fun k hk e=>q7 (e▸hk)) hJ,q2,q3.next hs (fun i hi e=>absurd hi (Z4.2 (e▸hgs))),⟨q4.nd,fun x hx=>?_⟩,hv _ (ai _ _ _),q6⟩;obtain⟨b,rfl,r1,r2,r3⟩:=q4.is x hx;have hne:b≠g:=fun e=>by subst e;obtain⟨vals,ty,fr,rfl⟩:=hcell;rw[r2] at q8;cases q8
 exact⟨b,rfl,r1,(hs.same b (ae r2) hne).1.trans r2,r3⟩
theorem One.know {d:Tmp} {v:Value} {u:V} (hd:d<n) (h:One E n {B with Kn:=Kno.rd v u} st a w) (hv:a.tmps.getD d Go.undef=v) (hu:u.bare=u):One E n {B with Kn:=Kno.rd v u} (st.put (some d) u) a w:=by
 obtain⟨m,O,q1,q2,q3,q4,q5,q6⟩:=h;have hr:Rd m w (a.tmps.getD d Go.undef) u:=by rw[hv];exact q5
 have hp:=q1.put hd hr;rw[nJ,hu] at hp;exact⟨m,O,hp,q2,q3,q4,q5,q6⟩
end
theorem rF (n:Nd):∃N:List V,av n= .agg N∧N.length=13∧N.take 13=N:=⟨ib n.hd (nL n),be n,rfl,rfl⟩
variable {l:List C3}
theorem uQ {s:ByteArray} {c r:Int} {s':ByteArray} {c' r':Int} (h:dR s c r s' c' r'=some l):fw [.agg [.x (.string s),.x (.int .i64 c),.x (.int .i64 r),.x (.string s'),.x (.int .i64 c'),.x (.int .i64 r')]]=some (.sl false 3 (l.map aa) none):=by show(match dR s c r s' c' r' with|some l=>some (V.sl false 3 (l.map aa) none)|none=>some (V.sl true 0 [] none))=_;rw[h]
theorem yR:dA 28 (FE eD nQ):=by
 have hE:EnvOK (aF [(41,fw)]):=bO _ ⟨Df,trivial⟩;have hm:(aF [(41,fw)]).P.follows .mixedOrders=true:=A0a
 refine nH (E:=aF [(41,fw)]) (n:=45) (k:=1) hE Try.func28 rfl (fun a w=>Try.call28 a w) Try.ntmps28 A0b A0b ?_;intro us r m w a hF hdat h0;obtain⟨nd,hus,hG⟩:=bL hF;clear hF;subst hus;unfold nQ at hG;obtain⟨h400,hG⟩:=bP hG;cases hG;obtain⟨N,hf,l13,t13⟩:=rF nd;replace h0:=h0 rfl;refine⟨rfl,?_⟩;simp only[eD] at h0;rw[hf] at h0;refine wpIn_seq (t8 hE hm [(1,.ptr 1 0)] [(1,N)] A0a h0 A0f ?_);clear h0 a;intro a w1 h1;refine wpIn_seq (wpIn_region ?_);refine AH hE 0 2 [(1,.ptr 1 0),(3,.ptr 3 0),(11,.mp 11 [] [])] [(1,N),(3,[.x (.map none)])] [2] A0b A0a h1 A0f ?_;clear h1 a w1;intro a w1 h1;obtain⟨g1,hg1⟩:=h1.map_ptr (i:=11) (s:=11) (ks:=[]) (vs:=[]) A0g;have hst:gc (aF [(41,fw)]) (am [(1,.ptr 1 0),(3,.ptr 3 0),(11,.mp 11 [] [])] [(1,N),(3,[.x (.map none)])]) 91 (.ptr 3 0) (.x (.map (some g1)))=some ⟨(am [(1,.ptr 1 0),(3,.ptr 3 0),(11,.mp 11 [] [])] [(1,N),(3,[.x (.map none)])]).t,upd (am [(1,.ptr 1 0),(3,.ptr 3 0),(11,.mp 11 [] [])] [(1,N),(3,[.x (.map none)])]).b 3 (some [.x (.map (some g1))])⟩:=by simp +decide (maxDischargeDepth:=200) only[go_sem,Nat.reduceBEq,l13,t13,gc]
 refine jG (i:=2) (rest:=[]) hE rfl rfl rfl rfl h1 A0g hg1 hst ?_;intro w2 h2;replace h2:=(h2.le (aG (ts:=[(1,.ptr 1 0),(3,.ptr 3 0),(11,.mp 11 [] [])]) (bs:=[(1,N),(3,[.x (.map (some g1))])]) A0f A0f)).frame (fun i=> !(i==11));clear h1 hst w1;refine wpIn_seq (wpIn_region ?_);refine eI hE 0 2 [(1,.ptr 1 0),(3,.ptr 3 0),(4,.ptr 4 0),(11,.mp 11 [] []),(12,.mp 12 [] [])] [(1,N),(3,[.x (.map (some g1))]),(4,[.x (.map none)])] [2] A0b A0a A0a h2 A0f ?_;intro a1 w1 h1;have hk11:=h1.kept (i:=11) rfl;simp only at hk11;rw[hg1] at hk11;clear h2 w2 hg1;obtain⟨g2,hg2⟩:=h1.map_ptr (i:=12) (s:=12) (ks:=[]) (vs:=[]) A0g;have hst:gc (aF [(41,fw)]) (am [(1,.ptr 1 0),(3,.ptr 3 0),(4,.ptr 4 0),(11,.mp 11 [] []),(12,.mp 12 [] [])] [(1,N),(3,[.x (.map (some g1))]),(4,[.x (.map none)])]) 92 (.ptr 4 0) (.x (.map (some g2)))=some ⟨(am [(1,.ptr 1 0),(3,.ptr 3 0),(4,.ptr 4 0),(11,.mp 11 [] []),(12,.mp 12 [] [])] [(1,N),(3,[.x (.map (some g1))]),(4,[.x (.map none)])]).t,upd (am [(1,.ptr 1 0),(3,.ptr 3 0),(4,.ptr 4 0),(11,.mp 11 [] []),(12,.mp 12 [] [])] [(1,N),(3,[.x (.map (some g1))]),(4,[.x (.map none)])]).b 4 (some [.x (.map (some g2))])⟩:=by simp +decide (maxDischargeDepth:=200) only[go_sem,Nat.reduceBEq,l13,t13,gc]
 refine jG (i:=2) (rest:=[]) hE rfl rfl rfl rfl h1 A0g hg2 hst ?_;intro w2 h2;replace h2:=(h2.le (aG (ts:=[(1,.ptr 1 0),(3,.ptr 3 0),(4,.ptr 4 0),(11,.mp 11 [] []),(12,.mp 12 [] [])]) (bs:=[(1,N),(3,[.x (.map (some g1))]),(4,[.x (.map (some g2))])]) A0f A0f)).frame (fun i=> !(i==11||i==12));clear h1 hst w1;refine wpIn_seq (wpIn_seq (wpIn_region ?_));refine eI hE 0 1 [(1,.ptr 1 0),(3,.ptr 3 0),(4,.ptr 4 0),(11,.mp 11 [] []),(12,.mp 12 [] []),(13,.agg N)] [(1,N),(3,[.x (.map (some g1))]),(4,[.x (.map (some g2))])] [1] A0b A0a A0a h2 A0f ?_;intro a3 w1 h1;have ha:=h1.kept (i:=11) rfl;have hb:=h1.kept (i:=12) rfl;simp only at ha hb;rw[hk11] at ha;rw[hg2] at hb;clear h2 w2 hk11;refine nF (n:=45) (d:=14) (f:=40) (Kno.rd (.pointer (some ⟨w1.heap.size,0,none⟩)) (.ip N)) rfl rfl rfl A0b rfl (fun a w=>Try.call40 a w) h1 (R:=fun e w'=>e= .returned (.func (.func 54) #[] #[.pointer (some ⟨w1.heap.size,0,none⟩)])∧w'=w1.alloc (.cells (a3.eval (.tmp 13)).cells 30)) (fun m1 O1 hn1 _=>?call) ?_
 case call=>have hrd:=dJ hn1 13 (u:= .agg N) A0g rfl;obtain⟨cs1,hcs,_⟩:=Rd.agg_iff.1 hrd;have e6:a3.eval (.tmp 13)= .agg cs1:=hcs;rw[show Array.map a3.eval #[.tmp 13]= #[a3.eval (.tmp 13)] from by simp,e6];exact ur cs1 w1
 intro m1 O1 hn1 _ e w2 he;obtain⟨rfl,rfl⟩:=he;have hrd:=dJ hn1 13 (u:= .agg N) A0g rfl;obtain⟨hs2,hr2⟩:=yC (ty:=30) hrd;refine⟨_,_,.undef,rfl,hs2,hE.keep [] _ _ (fun x hx=>by cases hx) hn1.J (hs2.bel (fun k _ h=>h.elim)),.undef _,hr2,fun h2=>?_⟩;have hfn:(a3.put (some 14) (.func (.func 54) #[] #[.pointer (some ⟨w1.heap.size,0,none⟩)])).eval (.tmp 14)= .func (.func 54) #[] #[.pointer (some ⟨w1.heap.size,0,none⟩)]:=by
  have hz:a3.tmps.size=45:=by obtain⟨_,_,hr⟩:=hn1.rel;exact hr.size
  show((a3.put (some 14) _).tmps.getD 14 Go.undef)=_;simp[Act.put,ZF,hz]
 have ha2:(a3.put (some 14) (.func (.func 54) #[] #[.pointer (some ⟨w1.heap.size,0,none⟩)])).tmps.getD 11 Go.undef= .map (some g1):=by rw[<-ha];show(a3.tmps.setIfInBounds 14 _).getD 11 Go.undef=_;simp[ZF]
 have hb2:(a3.put (some 14) (.func (.func 54) #[] #[.pointer (some ⟨w1.heap.size,0,none⟩)])).tmps.getD 12 Go.undef= .map (some g2):=by rw[<-hb];show(a3.tmps.setIfInBounds 14 _).getD 12 Go.undef=_;simp[ZF]
 generalize (a3.put (some 14) (.func (.func 54) #[] #[.pointer (some ⟨w1.heap.size,0,none⟩)]))=a2 at h2 hfn ha2 hb2;generalize w1.alloc _=w2 at h2;refine wpIn_block ?_
 refine nG hE h2 (fun i=>i==5||(i==6||(i==7||(i==9||(i==15||(i==16||(i==17||(i==18||(i==19||(i==20||(i==21||(i==22||(i==23||(i==24||(i==25||(i==26||(i==27||(i==28||(i==29||(i==30||(i==31||(i==32||(i==33||(i==34||(i==35||(i==36)))))))))))))))))))))))))) hfn (fun a w=>Try.call54 a w) (Ok:=NU nd) (Done:=GG nd) (G:=fun _=>False) (fun _ h=>h.elim) ?hit ?hps ?hlen
  (fun _=>True) (fun pre=>am [(3,.ptr 3 0),(4,.ptr 4 0),(11,.mp 11 (((jo pre).1).map rgV) (uL ((jo pre).1))),(12,.mp 12 (((jo pre).2).map aa) (uL ((jo pre).2)))] [(3,[.x (.map (some g1))]),(4,[.x (.map (some g2))])]) (fun pre x=>am [(3,.ptr 3 0),(4,.ptr 4 0),(5,.ptr 5 0),(11,.mp 11 (((jo pre).1).map rgV) (uL ((jo pre).1))),(12,.mp 12 (((jo pre).2).map aa) (uL ((jo pre).2)))] [(3,[.x (.map (some g1))]),(4,[.x (.map (some g2))]),(5,x.flatMap V.cells)]) (fun _ _ _=>False) trivial ?h0 ?assign ?body ?done ?stop
 case hit=>intro m3 O3 hn3 hkn _ m4 w4 hs4 hj4;exact uq nd h400 hf ⟨hkn.mono hs4.ext,trivial⟩
 case hps=>intro p hp;simp at hp;subst hp;exact⟨rfl,A0b⟩
 case hlen=>intro pre x hok;obtain⟨q,_,rfl⟩:=hok x A0l;rfl
 case h0=>exact aG A0f A0f
 case assign=>intro pre x lp B' a3 w3 hok hinv _ _ hW' ht0 ho;obtain⟨q,hq,rfl⟩:=hok x A0l;refine d7 hE hm [(3,.ptr 3 0),(4,.ptr 4 0),(5,.ptr 5 0),(11,.mp 11 (((jo pre).1).map rgV) (uL ((jo pre).1))),(12,.mp 12 (((jo pre).2).map aa) (uL ((jo pre).2)))] [(3,[.x (.map (some g1))]),(4,[.x (.map (some g2))]),(5,[.x (.string q.1.1),.x (.int .i64 q.1.2.1),.x (.int .i64 q.1.2.2),.x (.string q.2.1),.x (.int .i64 q.2.2.1),.x (.int .i64 q.2.2.2)])] A0a A0x ho A0K (fun a4 w4 h4=>⟨rfl,h4⟩)
 case body=>
  intro pre x lp B' a3 w3 hok hinv _ _ hW' ht0 ho;obtain⟨q,hq,rfl⟩:=hok x A0l;have hqo:=GL nd q hq;have kept11:∀{a4:Act} {w4:World} {st4:St},One (aF [(41,fw)]) 45 B' st4 a4 w4->a4.tmps.getD 11 Go.undef= .map (some g1):=fun h4=>by rw[h4.kept (i:=11) (by rw[hW'];rfl),ht0,ha2]
  have kept12:∀{a4:Act} {w4:World} {st4:St},One (aF [(41,fw)]) 45 B' st4 a4 w4->a4.tmps.getD 12 Go.undef= .map (some g2):=fun h4=>by rw[h4.kept (i:=12) (by rw[hW'];rfl),ht0,hb2]
  obtain⟨S1,hS1⟩:∃S1,(jo pre).1=S1:=⟨_,rfl⟩;obtain⟨S2,hS2⟩:∃S2,(jo pre).2=S2:=⟨_,rfl⟩;have hsn:=He pre q;unfold rD at hsn;rw[hS1,hS2] at ho hsn;refine wpIn_block (wpIn_seq (wpIn_seq (wpIn_region ?_)));refine eI hE 0 2 [(3,.ptr 3 0),(4,.ptr 4 0),(5,.ptr 5 0),(17,.x (.map (some g1))),(18,.agg [.x (.string q.1.1),.x (.int .i64 q.1.2.1),.x (.int .i64 q.1.2.2),.x (.string q.2.1),.x (.int .i64 q.2.2.1),.x (.int .i64 q.2.2.2)]),(11,.mp 11 ((S1).map rgV) (uL (S1))),(12,.mp 12 ((S2).map aa) (uL (S2)))] [(3,[.x (.map (some g1))]),(4,[.x (.map (some g2))]),(5,[.x (.string q.1.1),.x (.int .i64 q.1.2.1),.x (.int .i64 q.1.2.2),.x (.string q.2.1),.x (.int .i64 q.2.2.1),.x (.int .i64 q.2.2.2)])] [2,3,4,5,6,7,8] A0b A0a A0x ho A0K ?_;intro a4 w4 h4;have h17:a4.tmps.getD 17 Go.undef= .map (some g1):=by obtain⟨m5,O5,hn5,_⟩:=h4;exact hn5.read_x 17 A0g
  have h5:=h4.alias (i:=11) (d:=17) (s:=11) (ks:=S1.map rgV) (vs:=uL S1) A0g A0b (h17.trans (kept11 h4).symm);have hlook:fM Try.prog 91 (.mp 11 (S1.map rgV) (uL S1)) (.agg [.x (.string q.1.1),.x (.int .i64 q.1.2.1),.x (.int .i64 q.1.2.2),.x (.string q.2.1),.x (.int .i64 q.2.2.1),.x (.int .i64 q.2.2.2)]) true=some (.tup [.agg [],.x (.bool (inS S1 q))]):=G4 11 S1 q;refine eI hE 2 7 [(3,.ptr 3 0),(4,.ptr 4 0),(5,.ptr 5 0),(7,.x (.bool (inS S1 q))),(11,.mp 11 ((S1).map rgV) (uL (S1))),(12,.mp 12 ((S2).map aa) (uL (S2)))] [(3,[.x (.map (some g1))]),(4,[.x (.map (some g2))]),(5,[.x (.string q.1.1),.x (.int .i64 q.1.2.1),.x (.int .i64 q.1.2.2),.x (.string q.2.1),.x (.int .i64 q.2.2.1),.x (.int .i64 q.2.2.2)])] [] A0b A0a A0x h5 (by simp +decide (maxDischargeDepth:=200) only[go_sem,Nat.reduceBEq,l13,t13,hlook]<;>(repeat' first|rfl|constructor)) ?_;clear h4 h5 h17 hlook ho;intro a5 w5 h5;cases hin:inS S1 q with
  |true=>rw[hin] at h5 hsn;simp only[ZD] at hsn;refine Gv hE hm 1 [(3,.ptr 3 0),(4,.ptr 4 0),(11,.mp 11 ((S1).map rgV) (uL (S1))),(12,.mp 12 ((S2).map aa) (uL (S2)))] [(3,[.x (.map (some g1))]),(4,[.x (.map (some g2))])] A0a A0x h5 A0f ?_;intro a6 w6 h6;rw[hsn];exact⟨_,h6,trivial,aG (by simp +decide (maxDischargeDepth:=200) only[go_sem,Nat.reduceBEq,l13,t13,hS1,hS2]<;>(repeat' first|rfl|constructor)) A0f ⟩
  | false=>
    rw[hin] at h5 hsn;simp only[ZK,Zz] at hsn;refine d7 hE hm [(3,.ptr 3 0),(4,.ptr 4 0),(5,.ptr 5 0),(11,.mp 11 ((S1).map rgV) (uL (S1))),(12,.mp 12 ((S2).map aa) (uL (S2)))] [(3,[.x (.map (some g1))]),(4,[.x (.map (some g2))]),(5,[.x (.string q.1.1),.x (.int .i64 q.1.2.1),.x (.int .i64 q.1.2.2),.x (.string q.2.1),.x (.int .i64 q.2.2.1),.x (.int .i64 q.2.2.2)])] A0a A0x h5 A0f ?_;clear h5 a5 w5;intro a5 w5 h5;refine wpIn_seq (wpIn_region ?_);refine eI hE 0 3 [(3,.ptr 3 0),(4,.ptr 4 0),(5,.ptr 5 0),(23,.x (.map (some g1))),(24,.agg [.x (.string q.1.1),.x (.int .i64 q.1.2.1),.x (.int .i64 q.1.2.2),.x (.string q.2.1),.x (.int .i64 q.2.2.1),.x (.int .i64 q.2.2.2)]),(25,.agg []),(11,.mp 11 ((S1).map rgV) (uL (S1))),(12,.mp 12 ((S2).map aa) (uL (S2)))] [(3,[.x (.map (some g1))]),(4,[.x (.map (some g2))]),(5,[.x (.string q.1.1),.x (.int .i64 q.1.2.1),.x (.int .i64 q.1.2.2),.x (.string q.2.1),.x (.int .i64 q.2.2.1),.x (.int .i64 q.2.2.2)])] [3] A0b A0a A0x h5 A0f ?_;clear h5 a5 w5;intro a5 w5 h5;have h23:a5.tmps.getD 23 Go.undef= .map (some g1):=by obtain⟨m5,O5,hn5,_⟩:=h5;exact hn5.read_x 23 A0g
    have h6:=h5.alias (i:=11) (d:=23) (s:=11) (ks:=S1.map rgV) (vs:=uL S1) A0g A0b (h23.trans (kept11 h5).symm);have hput:kQ Try.prog 91 (S1.map rgV) (uL S1) (.agg [.x (.string q.1.1),.x (.int .i64 q.1.2.1),.x (.int .i64 q.1.2.2),.x (.string q.2.1),.x (.int .i64 q.2.2.1),.x (.int .i64 q.2.2.2)]) (.agg [])=some ((bA S1 q).map rgV,uL (bA S1 q)):=K5 S1 q;refine eI hE 3 1 [(3,.ptr 3 0),(4,.ptr 4 0),(5,.ptr 5 0),(11,.mp 11 ((bA S1 q).map rgV) (uL (bA S1 q))),(12,.mp 12 ((S2).map aa) (uL (S2)))] [(3,[.x (.map (some g1))]),(4,[.x (.map (some g2))]),(5,[.x (.string q.1.1),.x (.int .i64 q.1.2.1),.x (.int .i64 q.1.2.2),.x (.string q.2.1),.x (.int .i64 q.2.2.1),.x (.int .i64 q.2.2.2)])] [] A0b A0a A0x h6 A0P ?_;clear h5 h6 h23 hput a5 w5;intro a5 w5 h5;have hcl:=Ds hqo;have hfc:=uQ hcl;obtain⟨l,hll⟩:∃l,eK q=l:=⟨_,rfl⟩;have hlen:=oa q;rw[hll] at hfc hsn hlen;refine wpIn_seq (d7 hE hm [(3,.ptr 3 0),(4,.ptr 4 0),(27,.sl false 3 (l.map aa) none),(28,.x (.int .i64 ((l.length:Nat):Int))),(29,.x (.int .i64 0)),(11,.mp 11 ((bA S1 q).map rgV) (uL (bA S1 q))),(12,.mp 12 ((S2).map aa) (uL (S2)))] [(3,[.x (.map (some g1))]),(4,[.x (.map (some g2))])] A0a A0x h5 (by simp +decide (maxDischargeDepth:=200) only[go_sem,Nat.reduceBEq,l13,t13,hfc,io]<;>(repeat' first|rfl|constructor)) ?_);clear h5 a5 w5;intro a5 w5 h5;refine wpIn_block (cm (X:={i:Nat//i<=l.length}) (fun i a w=>One (aF [(41,fw)]) 45 B' (am [(3,.ptr 3 0),(4,.ptr 4 0),(27,.sl false 3 (l.map aa) none),(28,.x (.int .i64 ((l.length:Nat):Int))),(29,.x (.int .i64 ((i.1:Nat):Int))),(11,.mp 11 ((bA S1 q).map rgV) (uL (bA S1 q))),(12,.mp 12 (((l.take i.1).foldl bA S2).map aa) (uL ((l.take i.1).foldl bA S2)))] [(3,[.x (.map (some g1))]),(4,[.x (.map (some g2))])]) a w) (fun i=>l.length-i.1) ⟨0,Z0 _⟩ h5 ?_);clear h5 a5 w5;rintro⟨i,hi0⟩ a5 w5 h5;simp only at h5;by_cases hi:i<l.length
    . have c1:decide (((i:Nat):Int)<((l.length:Nat):Int))=true:=Zk A0c;have c2:(0:Int)<=((i:Nat):Int):=A0c
      have c4:=aQ (i:=i) A0c;obtain⟨p,hp⟩:∃p,l[i]?=some p:=⟨l[i],eq hi⟩;have c5:(l.map aa)[((i:Nat):Int).toNat]?=some (.agg [.x (.string p.1),.x (.int .i64 p.2.1),.x (.int .i64 p.2.2)]):=jj hp;have htk:(l.take (i+1)).foldl bA S2=bA ((l.take i).foldl bA S2) p:=by rw[ack,hp,Option.toList_some,abb];rfl
      obtain⟨S3,hS3⟩:∃S3,(l.take i).foldl bA S2=S3:=⟨_,rfl⟩;rw[hS3] at h5 htk;refine wpIn_seq (d7 hE hm [(3,.ptr 3 0),(4,.ptr 4 0),(27,.sl false 3 (l.map aa) none),(28,.x (.int .i64 ((l.length:Nat):Int))),(29,.x (.int .i64 ((i:Nat):Int))),(30,.x (.bool true)),(11,.mp 11 ((bA S1 q).map rgV) (uL (bA S1 q))),(12,.mp 12 ((S3).map aa) (uL (S3)))] [(3,[.x (.map (some g1))]),(4,[.x (.map (some g2))])] A0a A0x h5 A0S ?_);clear h5 a5 w5;intro a5 w5 h5;refine wpIn_seq (d7 hE hm [(3,.ptr 3 0),(4,.ptr 4 0),(27,.sl false 3 (l.map aa) none),(28,.x (.int .i64 ((l.length:Nat):Int))),(29,.x (.int .i64 ((i:Nat):Int))),(11,.mp 11 ((bA S1 q).map rgV) (uL (bA S1 q))),(12,.mp 12 ((S3).map aa) (uL (S3)))] [(3,[.x (.map (some g1))]),(4,[.x (.map (some g2))])] A0a A0x h5 A0f ?_);clear h5 a5 w5;intro a5 w5 h5;refine wpIn_seq (wpIn_block (wpIn_seq (d7 hE hm [(3,.ptr 3 0),(4,.ptr 4 0),(9,.ptr 9 0),(27,.sl false 3 (l.map aa) none),(28,.x (.int .i64 ((l.length:Nat):Int))),(29,.x (.int .i64 ((i:Nat):Int))),(11,.mp 11 ((bA S1 q).map rgV) (uL (bA S1 q))),(12,.mp 12 ((S3).map aa) (uL (S3)))] [(3,[.x (.map (some g1))]),(4,[.x (.map (some g2))]),(9,[.x (.string p.1),.x (.int .i64 p.2.1),.x (.int .i64 p.2.2)])] A0a A0x h5 (by simp +decide (maxDischargeDepth:=200) only[go_sem,Nat.reduceBEq,l13,t13,c2,c5]<;>(repeat' first|rfl|constructor)) ?_)));clear h5 a5 w5;intro a5 w5 h5;refine wpIn_region ?_;refine eI hE 0 3 [(3,.ptr 3 0),(4,.ptr 4 0),(27,.sl false 3 (l.map aa) none),(28,.x (.int .i64 ((l.length:Nat):Int))),(29,.x (.int .i64 ((i:Nat):Int))),(33,.x (.map (some g2))),(34,.agg [.x (.string p.1),.x (.int .i64 p.2.1),.x (.int .i64 p.2.2)]),(35,.agg []),(11,.mp 11 ((bA S1 q).map rgV) (uL (bA S1 q))),(12,.mp 12 ((S3).map aa) (uL (S3)))] [(3,[.x (.map (some g1))]),(4,[.x (.map (some g2))])] [3] A0b A0a A0x h5 A0f ?_;clear h5 a5 w5;intro a5 w5 h5;have h33:a5.tmps.getD 33 Go.undef= .map (some g2):=by obtain⟨m5,O5,hn5,_⟩:=h5;exact hn5.read_x 33 A0g
      have h6:=h5.alias (i:=12) (d:=33) (s:=12) (ks:=S3.map aa) (vs:=uL S3) A0g A0b (h33.trans (kept12 h5).symm);have hput:kQ Try.prog 92 (S3.map aa) (uL S3) (.agg [.x (.string p.1),.x (.int .i64 p.2.1),.x (.int .i64 p.2.2)]) (.agg [])=some ((bA S3 p).map aa,uL (bA S3 p)):=G3 S3 p;refine eI hE 3 1 [(3,.ptr 3 0),(4,.ptr 4 0),(27,.sl false 3 (l.map aa) none),(28,.x (.int .i64 ((l.length:Nat):Int))),(29,.x (.int .i64 ((i:Nat):Int))),(11,.mp 11 ((bA S1 q).map rgV) (uL (bA S1 q))),(12,.mp 12 ((bA S3 p).map aa) (uL (bA S3 p)))] [(3,[.x (.map (some g1))]),(4,[.x (.map (some g2))])] [] A0b A0a A0x h6 A0P ?_;clear h5 h6 h33 hput a5 w5;intro a5 w5 h5;refine d7 hE hm [(3,.ptr 3 0),(4,.ptr 4 0),(27,.sl false 3 (l.map aa) none),(28,.x (.int .i64 ((l.length:Nat):Int))),(29,.x (.int .i64 ((i+1:Nat):Int))),(11,.mp 11 ((bA S1 q).map rgV) (uL (bA S1 q))),(12,.mp 12 ((bA S3 p).map aa) (uL (bA S3 p)))] [(3,[.x (.map (some g1))]),(4,[.x (.map (some g2))])] A0a A0x h5 (by simp +decide (maxDischargeDepth:=200) only[go_sem,Nat.reduceBEq,l13,t13,c4]<;>(repeat' first|rfl|constructor)) ?_;clear h5 a5 w5;intro a5 w5 h5;exact⟨⟨i+1,A0c⟩,by simp only;rw[htk];exact h5,by simp only;omega⟩
    . have c1:decide (((i:Nat):Int)<((l.length:Nat):Int))=false:=Zl A0c;have hli:l.take i=l:=ZX A0c;rw[hli] at h5;refine wpIn_seq (d7 hE hm [(3,.ptr 3 0),(4,.ptr 4 0),(30,.x (.bool false)),(11,.mp 11 ((bA S1 q).map rgV) (uL (bA S1 q))),(12,.mp 12 ((l.foldl bA S2).map aa) (uL (l.foldl bA S2)))] [(3,[.x (.map (some g1))]),(4,[.x (.map (some g2))])] A0a A0x h5 A0S ?_);clear h5 a5 w5;intro a5 w5 h5;refine wpIn_seq (Gv hE hm 2 [(3,.ptr 3 0),(4,.ptr 4 0),(11,.mp 11 ((bA S1 q).map rgV) (uL (bA S1 q))),(12,.mp 12 ((l.foldl bA S2).map aa) (uL (l.foldl bA S2)))] [(3,[.x (.map (some g1))]),(4,[.x (.map (some g2))])] A0a A0x h5 A0f ?_);clear h5 a5 w5;intro a5 w5 h5;rw[hsn];exact⟨_,h5,trivial,aG A0f A0f ⟩
 case stop=>intro _ _ _ _ _ _ h;exact h.elim
 case done=>
  intro xs b a' w' hd hinv hta h3;refine wpIn_seq (wpIn_region ?_);refine eI hE 0 1 [(12,.mp 12 ((jo xs).2.map aa) (uL (jo xs).2)),(37,.x (.map (some g2)))] [] [1,2,3,4] A0b A0a A0a h3 A0f ?_;clear h3 hta;intro a4 w4 h4;have h37:a4.tmps.getD 37 Go.undef= .map (some g2):=by obtain⟨m5,O5,hn5,_⟩:=h4;exact hn5.read_x 37 A0g
  refine nF (n:=45) (d:=38) (f:=43) (Kno.rd (.pointer (some ⟨w4.heap.size,0,none⟩)) (.ip [.x (.map (some g2))])) rfl rfl rfl A0b rfl (fun a w=>Try.call43 a w) h4 (R:=fun e w'=>e= .returned (.func (.func 58) #[] #[.pointer (some ⟨w4.heap.size,0,none⟩)])∧w'=w4.alloc (.cells #[.map (some g2)] 92)) (fun m1 O1 hn1 _=>?keys) ?_
  case keys=>have e1:a4.eval (.tmp 37)= .map (some g2):=h37;rw[show Array.map a4.eval #[.tmp 37]= #[a4.eval (.tmp 37)] from by simp,e1];exact yM g2 w4
  intro m7 O7 hn7 _ e w5 he;obtain⟨rfl,rfl⟩:=he;obtain⟨hs5,hr5⟩:=S8 (m:=m7) (w:=w4) (v:= .map (some g2)) (ty:=92) rfl;refine⟨_,_,.undef,rfl,hs5,hE.keep [] _ _ (fun x hx=>by cases hx) hn7.J (hs5.bel (fun k _ h=>h.elim)),.undef _,hr5,fun h5=>?_⟩;have hf38:(a4.put (some 38) (.func (.func 58) #[] #[.pointer (some ⟨w4.heap.size,0,none⟩)])).eval (.tmp 38)= .func (.func 58) #[] #[.pointer (some ⟨w4.heap.size,0,none⟩)]:=by
   have hz:a4.tmps.size=45:=by obtain⟨_,_,hr⟩:=hn7.rel;exact hr.size
   show((a4.put (some 38) _).tmps.getD 38 Go.undef)=_;simp[Act.put,ZF,hz]
  clear hn7 hs5 hr5 h4;generalize (a4.put (some 38) (.func (.func 58) #[] #[.pointer (some ⟨w4.heap.size,0,none⟩)]))=a5 at h5 hf38;generalize w4.alloc _=w5 at h5;obtain⟨m5,O5,q1,q2,q3,q4,q5,q6⟩:=h5;have hk5:a5.tmps.getD 12 Go.undef= .map (some g2):=(q6 12 rfl).trans hg2;obtain⟨hmp,hO⟩:=q1.map_at (i:=12) (s:=12) (ks:=(jo xs).2.map aa) (vs:=uL (jo xs).2) A0g hk5;have hsl:=(Od hd.1 h400).2;have hks:∀k∈(jo xs).2.map aa,∃p:C3,k=aa p:=by intro k hk;obtain⟨p,_,rfl⟩:=ZA.1 hk;exact⟨p,rfl⟩
  have hC:=G5 hks A0z hmp q5 (q1.K g2 hO) q1.J;refine lw (i:=2) (rest:=[3,4]) rfl rfl rfl rfl (fun a w=>Try.call42 a w) (by rw[show Array.map a5.eval #[.tmp 38]= #[a5.eval (.tmp 38)] from by simp,hf38];exact hC) ?_;rintro e w6 ⟨v,m6,r,rfl,⟨lv,hperm,rfl⟩,hrd,hrow,hst6,hj6⟩;obtain⟨l,rfl⟩:∃l:List C3,lv=l.map aa:=by
   have key:∀l:List V,(∀k∈l,∃p:C3,k=aa p)->∃ss:List C3,l=ss.map aa:=by
    intro l
    induction l with
    |nil=>exact fun _=>⟨[],rfl⟩
    |cons x l ih=>intro h;obtain⟨ss,rfl⟩:=ih (fun k hk=>h k (ZI _ hk));obtain⟨s,rfl⟩:=h x (ZP ..);exact⟨s::ss,rfl⟩
   exact key lv (fun k hk=>hks k (hperm.mem_iff.1 hk))
  have hmem:∀p:C3,p∈l↔∃q∈allN nd,EC p q=true:=fun p=>by
   have h1:=hperm.mem_iff (a:=aa p);rw[<-Oe hd p];constructor
   . intro hp;obtain⟨p',hp',e⟩:=ZA.1 (h1.1 (ZA.2 ⟨p,hp,rfl⟩));exact jk _ _ e▸hp'
   . intro hp;obtain⟨p',hp',e⟩:=ZA.1 (h1.2 (ZA.2 ⟨p,hp,rfl⟩));exact jk _ _ e▸hp'
  have hnd:l.Nodup:=dP aa (hperm.nodup_iff.2 (List.Pairwise.map aa (fun a b hab e=>hab (jk _ _ e)) (uO xs).2));have hll:l.length<=160000:=by have:=hperm.length_eq;rw[io,io] at this;omega
  clear hperm hmp hk5 hf38 hfn h2 hC hks;refine⟨v,rfl,?_⟩;have hz5:a5.tmps.size=45:=by obtain⟨_,_,hr⟩:=q1.rel;exact hr.size
  by_cases hl0:l=[]
  . subst hl0;have hv:v= .slice none 0 0:=by cases hrd;rfl
    subst hv;have hrn:aJ nd=[]:=(ux (a:=nd) (l:=[]) List.Pairwise.nil hmem).symm;rw[hrn];have h6:=One.after (Kn':=Kno.top) (d:=39) A0b (v:= .slice none 0 0) (u:= .x (.slice none 0 0)) q1 q2 q3 q4 q6 rfl hst6 hj6 (.x _) trivial;rw[cM] at h6;refine eI hE 3 2 [(10,.ptr 10 0)] [(10,[.x (.slice none 0 0)])] [] A0b A0a A0a h6 A0f ?_;clear h6;intro a7 w7 h7;refine wpIn_seq (wpIn_region ?_);refine eI hE 0 1 [(10,.ptr 10 0),(40,.x (.slice none 0 0))] [(10,[.x (.slice none 0 0)])] [1,2,3] A0b A0a A0a h7 A0f ?_;clear h7 a7 w7;intro a7 w7 h7;have e40:a7.eval (.tmp 40)= .slice none 0 0:=by obtain⟨m5,O5,hn5,_⟩:=h7;exact hn5.read_x 40 A0g
    refine rE (i:=1) (rest:=[2,3]) (d:=41) rfl (fun c e=>by cases e) rfl A0b rfl rfl h7 (.iface 35 (.slice none 0 0)) ?_ ?_
    . have hmi:(Instr.makeInterface 35 (.slice none 0 0)).run Try.prog w7= .ok (.iface 35 (.slice none 0 0)) w7:=run_makeInterface _ _ _ A0a;simp only[execOp,Sem.run_bind,e40,fW,hmi,Result.andThen_ok,Sem.run_pure]
    intro a8 h8 ha8;obtain⟨Bk,e10⟩:∃Bk,a8.tmps.getD 10 Go.undef= .pointer (some ⟨Bk,0,none⟩):=by obtain⟨m5,O5,hn5,_⟩:=h8;obtain⟨b,vals,ty,fr,e,_⟩:=hn5.box_at (i:=10) (s:=10) (v:= .slice none 0 0) A0i A0U;exact⟨b,e⟩
    refine rE (i:=2) (rest:=[3]) (d:=42) rfl (fun c e=>by cases e) rfl A0b rfl rfl h8 (.func (.func 44) #[] #[.pointer (some ⟨Bk,0,none⟩)]) ?_ ?_
    . have e10':a8.eval (.tmp 10)= .pointer (some ⟨Bk,0,none⟩):=e10;simp only[execOp,Sem.run_bind,Instr.makeFunc,Sem.run_pure,Result.andThen_ok];simp[e10']
    intro a9 h9 ha9;have e41:a9.tmps.getD 41 Go.undef= .iface 35 (.slice none 0 0):=by obtain⟨m5,O5,hn5,_⟩:=h9;exact hn5.read_x 41 A0i
    have e42:a9.tmps.getD 42 Go.undef= .func (.func 44) #[] #[.pointer (some ⟨Bk,0,none⟩)]:=by obtain⟨m5,O5,hn5,_⟩:=h9;exact hn5.read_x 42 A0i
    refine nF (n:=45) (d:=43) (f:=36) Kno.top rfl rfl rfl A0b rfl (fun a w=>Try.call36 a w) h9 (R:=fun e w'=>e= .returned (.tuple #[])∧∃os,w'=Go.Sort.grow w7 os) (fun m1 O1 hn1 _=>?_) ?_
    . rw[show Array.map a9.eval #[.tmp 41,.tmp 42]= #[a9.tmps.getD 41 Go.undef,a9.tmps.getD 42 Go.undef] from by simp[Act.eval],e41,e42];exact Ta
    rintro m8 O8 hn8 _ e w8 ⟨rfl,os,rfl⟩;have hbel:Below w7.heap.size w7 (Go.Sort.grow w7 os):=⟨rfl,rfl,rfl,by simp[Go.Sort.grow],fun k hk=>Go.Sort.heap_grow_old _ _ hk⟩;refine⟨_,m8,.undef,rfl,Step.of_below hbel (fun _ _=>rfl),hE.keep [] _ _ (fun x hx=>by cases hx) hn8.J ⟨hbel.os,hbel.tape,hbel.output,hbel.size,fun k hk _=>hbel.block k hk⟩,.undef _,trivial,fun h10=>?_⟩;show Exit.then _ _ Exit.normal _ _;generalize a9.put (some 43) _=a10 at h10;generalize Go.Sort.grow w7 os=w10 at h10;refine wpIn_seq (d7 hE hm [(2,.x (.slice none 0 0))] [] A0a A0a h10 (by simp +decide (maxDischargeDepth:=200) only[go_sem,Nat.reduceBEq,l13,t13,St.put,dZ]<;>(repeat' first|rfl|constructor)) ?_);intro a11 w11 h11;have e2:a11.tmps.getD 2 Go.undef= .slice none 0 0:=by obtain⟨m5,O5,hn5,_⟩:=h11;exact hn5.read_x 2 A0g
    obtain⟨m9,O9,r1,r2,r3,r4,r5,r6⟩:=h11;have h12:=One.know (n:=45) (d:=2) (v:= .slice none 0 0) (u:= .sl true 0 [] none) A0b ⟨m9,O9,r1,r2,r3,r4,.nil _ _,r6⟩ e2 (dq _ _ _ _);exact wpIn_ret ⟨.inr rfl,_,_,_,_,_,h12,by simp +decide (maxDischargeDepth:=200) only[go_sem];rfl⟩
  . have hemp:(l.map aa).isEmpty=false:=by
     cases l with
     |nil=>exact absurd rfl hl0
     |cons x l=>rfl
    have hlen:(l.map aa).length=l.toArray.size:=A0l
    rw[hemp] at hrd hrow;obtain⟨g,⟨lim,cap,cur,ty,hv,hh6,hle,hsz⟩,hge⟩:=hrow _ _ _ rfl;rw[hlen] at hv hle;subst hv;have hcur:=Hh rfl hrd hh6;have hKg:fV<=g:=ZL (hE.high _ q1.J) hge;have hsz0:l.toArray.size=l.length:=A0l
    have h6:=OneG.after (Kn':=Kno.top) (d:=39) A0b (v:=(.slice (some ⟨g,0,none⟩) l.toArray.size cap)) q1 q2 q3 q4 q6 rfl hst6 hj6 trivial hge hh6;refine fZ hE 3 2 [(10,.ptr 10 0)] [(10,[.x (.slice (some ⟨g,0,none⟩) l.toArray.size cap)])] [] A0b A0a A0a h6 A0f ?_;clear h6 hrow hrd;intro a7 w7 h7;refine wpIn_seq (wpIn_region ?_);refine fZ hE 0 1 [(10,.ptr 10 0),(40,.x (.slice (some ⟨g,0,none⟩) l.toArray.size cap))] [(10,[.x (.slice (some ⟨g,0,none⟩) l.toArray.size cap)])] [1,2,3] A0b A0a A0a h7 A0f ?_;clear h7 a7 w7;intro a7 w7 h7;have e40:a7.eval (.tmp 40)=(.slice (some ⟨g,0,none⟩) l.toArray.size cap):=by obtain⟨m5,O5,hn5,_⟩:=h7;exact hn5.read_x 40 A0g
    refine iW (i:=1) (rest:=[2,3]) (d:=41) rfl (fun c e=>by cases e) rfl A0b rfl rfl h7 (.iface 35 (.slice (some ⟨g,0,none⟩) l.toArray.size cap)) ?_ ?_
    . have hmi:(Instr.makeInterface 35 (.slice (some ⟨g,0,none⟩) l.toArray.size cap)).run Try.prog w7= .ok (.iface 35 (.slice (some ⟨g,0,none⟩) l.toArray.size cap)) w7:=run_makeInterface _ _ _ A0a;simp only[execOp,Sem.run_bind,e40,fW,hmi,Result.andThen_ok,Sem.run_pure]
    intro a8 h8 ha8;obtain⟨Bk,vals,tyB,frB,e10,hB,hB0,hne⟩:∃Bk vals tyB frB,a8.tmps.getD 10 Go.undef= .pointer (some ⟨Bk,0,none⟩)∧w7.heap[Bk]?=some (.cells vals tyB frB)∧vals[0]?=some (.slice (some ⟨g,0,none⟩) l.toArray.size cap)∧Bk≠g:=by obtain⟨m5,O5,hn5,_,_,_,_,_,hng,_⟩:=h8;obtain⟨b,vals,ty,fr,e,e2,e3,e4⟩:=hn5.box_at (i:=10) (s:=10) (v:=(.slice (some ⟨g,0,none⟩) l.toArray.size cap)) A0i A0U;exact⟨b,vals,ty,fr,e,e2,e3,fun e=>hng (e▸e4)⟩
    refine iW (i:=2) (rest:=[3]) (d:=42) rfl (fun c e=>by cases e) rfl A0b rfl rfl h8 (.func (.func 44) #[] #[.pointer (some ⟨Bk,0,none⟩)]) ?_ ?_
    . have e10':a8.eval (.tmp 10)= .pointer (some ⟨Bk,0,none⟩):=e10;simp only[execOp,Sem.run_bind,Instr.makeFunc,Sem.run_pure,Result.andThen_ok];simp[e10']
    intro a9 h9 ha9;have e41:a9.tmps.getD 41 Go.undef= .iface 35 (.slice (some ⟨g,0,none⟩) l.toArray.size cap):=by obtain⟨m5,O5,hn5,_⟩:=h9;exact hn5.read_x 41 A0i
    have e42:a9.tmps.getD 42 Go.undef= .func (.func 44) #[] #[.pointer (some ⟨Bk,0,none⟩)]:=by obtain⟨m5,O5,hn5,_⟩:=h9;exact hn5.read_x 42 A0i
    have hgs:w.heap.size<=g:=ZL q3.ext.size hge;obtain⟨hj9,hh9⟩:(aF []).J w7∧w7.heap[g]?=some (.cells cur ty (0,0)):=by obtain⟨m5,O5,hn5,_,_,_,_,_,_,hh9,_⟩:=h9;exact⟨hn5.J,hh9⟩
    have hS:=S9 (blk:=g) (Bk:=Bk) (cap:=cap) (d:=l.toArray) hh9 (by simpa using hcur) hB hB0 hne hle (by unfold MX;omega) hKg hj9;refine lw (i:=3) (rest:=[]) rfl rfl rfl rfl (fun a w=>Try.call36 a w) (by rw[show Array.map a9.eval #[.tmp 41,.tmp 42]= #[a9.tmps.getD 41 Go.undef,a9.tmps.getD 42 Go.undef] from by simp[Act.eval],e41,e42];exact hS) ?_;rintro e w8 ⟨rfl,d',hp,hs8,hb8,m8,hbx⟩;refine⟨_,rfl,?_⟩;obtain⟨hsrt,hpm⟩:=Hg hp hs8 (by simpa using hnd);have hrn:d'.toList=aJ nd:=ux hsrt (fun p=>(hpm.mem_iff).trans (by simpa using hmem p));have hds:d'.size=l.toArray.size:=hp.1;have h10:=OneG.done (v:=(.slice (some ⟨g,0,none⟩) l.toArray.size cap)) (u:= .sl false 3 ((aJ nd).map aa) none) hE h9 ⟨_,_,_,rfl⟩ hgs hKg hb8 (fun m hm=>by have:=Hc hbx (by rw[hds];exact hle) m hm;rw[hds,hrn] at this;exact this)
    have h11:=h10.putU (d:=43) A0b rfl (.tuple #[]);show Exit.then _ _ Exit.normal _ _;generalize a9.put (some 43) _=a10 at h11;refine wpIn_seq (d7 hE hm [(2,.x (.slice (some ⟨g,0,none⟩) l.toArray.size cap))] [] A0a A0a h11 (by simp +decide (maxDischargeDepth:=200) only[go_sem,Nat.reduceBEq,l13,t13,St.put]<;>(repeat' first|rfl|constructor)) ?_);intro a11 w11 h12;have e2:a11.tmps.getD 2 Go.undef=(.slice (some ⟨g,0,none⟩) l.toArray.size cap):=by obtain⟨m5,O5,hn5,_⟩:=h12;exact hn5.read_x 2 A0g
    have h13:=One.know (n:=45) (d:=2) A0b h12 e2 (dq _ _ _ _);have hne2:(aJ nd).isEmpty=false:=by
     cases hc:aJ nd with
     | nil=>
       rw[hc] at hrn;have h0:l.toArray.size=0:=by rw[<-hds,<-ZH,hrn];rfl
       exact absurd (List.eq_nil_of_length_eq_zero A0c) hl0
     |cons x r=>rfl
    have hsz3:Mm (aJ nd)=3:=by
     cases hc:aJ nd with
     |nil=>rw[hc] at hne2;cases hne2
     |cons x r=>rfl
    exact wpIn_ret ⟨.inr rfl,_,_,_,_,_,h13,by rw[hne2,hsz3];simp +decide (maxDischargeDepth:=200) only[go_sem]⟩
set_option maxHeartbeats 8000000
theorem A4:dA 37 Mr:=by
 refine aV (E:=aF [(38,pV)]) (k:=3) (bO _ ⟨ul,trivial⟩) A0a Try.func37 rfl (fun a w=>Try.call37 a w) Try.ntmps37 A0a A0b A0b ?_;intro us r hF hdat;unfold Mr at hF;split at hF
 case h_2=>cases hF
 rename_i i j es;split at hF
 case h_2=>cases hF
 rename_i s c r s' c' r' hi hj;obtain⟨⟨h0,h1⟩,hF⟩:=bP hF;cases hF;refine⟨rfl,?_⟩;have e1:pV [.agg [.x (.string s),.x (.int .i64 c),.x (.int .i64 r)],.agg [.x (.string s'),.x (.int .i64 c'),.x (.int .i64 r')]]=some (.x (.bool (gC s c r s' c' r'))):=rfl;simp +decide (maxDischargeDepth:=200) only[go_sem,h0,h1,hi,hj,e1]
section
variable {G:Nat->V} {bk Bk N cap:Nat}
theorem Lc (hcap:N<=cap) (hG:G Bk= .ip [.x (.slice (some ⟨bk,0,none⟩) N cap)]):FunXV G bk 37 [.pointer (some ⟨Bk,0,none⟩)] (FE en2 (GLess N)):=by
 intro m w vs us bs gs' hs r outs hF hargs hnd hhnd hj hg;obtain⟨⟨i,j,d⟩,hus,hGl⟩:=bL hF;subst hus;unfold GLess at hGl;obtain⟨⟨hi,hjj,hd⟩,hGl⟩:=bP hGl;simp only at hi hjj hd;cases hGl;obtain⟨v1,v2,rfl⟩:=yP hargs;simp only[en2] at hargs;cases hargs with
 | dat hr1 hd1 h1=>
   cases h1 with
   | dat hr2 hd2 h2=>
     cases h2 with
     |dat hr3 hd3 h3=>cases hd3
     | bx hb hK h3=>
       cases h3;cases hr1;cases hr2;have hB:Rd m w (.pointer (some ⟨Bk,0,none⟩)) (.ip [.x (.slice (some ⟨bk,0,none⟩) N cap)]):=by have:=hg Bk;have e:(dy G (fun _ _=>none) 0).G Bk= .ip [.x (.slice (some ⟨bk,0,none⟩) N cap)]:=hG;rw[e] at this;exact this
       have hip:=A3 hb hd hcap hB;obtain⟨p,hp⟩:∃p,d.toList[i]?=some p:=⟨_,eq (by simpa using(show i<d.size by omega))⟩;obtain⟨q,hq⟩:∃q,d.toList[j]?=some q:=⟨_,eq (by simpa using(show j<d.size by omega))⟩;have hat:∀(k:Nat) (p:C3),k<d.size->d.toList[k]?=some p->d[k]! =p:=fun k p hk h=>by rw[eq A05] at h;rw[abX d k hk];simpa using h
       have hpe:=hat i p A0c hp;have hqe:=hat j q A0c hq;have hFL:Mr [.x (.int .i64 (i:Int)),.x (.int .i64 (j:Int)),.ip [.sl false 3 (d.toList.map aa) none]]=some (.x (.bool (ab d[i]! d[j]!))):=by rw[hpe,hqe,A2];simp only[Mr,jj hp,jj hq,iU];rw[Zp ⟨A0c,A0c⟩]
       have hcalls:=A4.2 (fun _=>none) w #[.int .i64 (i:Int),.int .i64 (j:Int),.pointer (some ⟨Bk,0,none⟩)] _ _ hFL rfl ⟨.x _,.x _,hip,trivial⟩ hj (fun g=> .undef _);refine .inl ⟨A4.1 _ _,?_⟩;refine hcalls.mono ?_;rintro e w' ⟨v,m',rfl,hv,hbel,_⟩;cases hv;have hblk:bk<w.heap.size:=by obtain⟨_,_,_,_,_,hhb,_⟩:=hb;exact ae hhb
       have hbx:BoxAt m w' bk (ay d):=by obtain⟨hlim,vals,ty,xs,rest,hh,hv,hr⟩:=hb;rw[cH] at hr;have hx:=mi hr;subst hx;exact⟨hlim,vals,ty,_,rest,(hbel.block bk hblk).trans hh,hv,by rw[cH];exact jX _⟩
       exact⟨_,rfl,m,.x _,⟨hbel.os,hbel.tape,hbel.output,hbel.size,fun k hk _=>hbel.block k hk⟩,Ext.of_below hbel (fun _ _=>rfl),fun _ _ _=>rfl,⟨[ay d],[],A0l,⟨hbx,trivial⟩,trivial⟩,fun sz es k e=>by cases e⟩
end
theorem Og {blk:Nat} (hh:w.heap[blk]?=some (.cells cur ty (0,0))) (hcur:∃rest,cur.toList=d.toList.flatMap ci++rest) {vals:Array Value} (hB:w.heap[Bk]?=some (.cells vals tyB frB)) (hB0:vals[0]?=some (.slice (some ⟨blk,0,none⟩) d.size cap)) (hne:Bk≠blk) (hcap:d.size<=cap) (hN:d.size<=MX) (hK:fV<=blk) (hj:(aF []).J w):
 Calls Try.prog 36 #[.iface 35 (.slice (some ⟨blk,0,none⟩) d.size cap),.func (.func 37) #[] #[.pointer (some ⟨Bk,0,none⟩)]] w fun e w'=>e= .returned (.tuple #[])∧∃d':Array C3,PermIn 0 d.size d d'∧SortedIn ab 0 d.size d'∧Bel [blk] w w'∧∃m',BoxAt m' w' blk (ay d'):=by
 have hi:Try.prog.info? 35=some fC:=A0a
 have hdd:fC.desc= .slice 25:=A0a
 have hie:Try.prog.info? 25=some eE:=A0a
 have hke:∀w,(Extern.Rtype.kind 25).run Try.prog w= .ok 25 w:=fun _=>by kernel_rfl
 obtain⟨rest,hcur⟩:=hcur;have hN1:d.size<=1000000:=hN;let m:Lim:=fun b=>if b=blk then some 0 else none
 have hbx:∀w2:World,w2.heap[blk]?=w.heap[blk]?->BoxAt m w2 blk (ay d):=fun w2 e=>⟨Zp rfl,cur,.plain ty,_,rest,e.trans hh,hcur,by rw[cH];exact jX _⟩
 have hblk:=ae hh;have hBk:=ae hB;by_cases h2:2<=d.size
 . let G:Nat->V:=fun b=>if b=Bk then .ip [.x (.slice (some ⟨blk,0,none⟩) d.size cap)] else .undef
   have hG:G Bk= .ip [.x (.slice (some ⟨blk,0,none⟩) d.size cap)]:=Zp rfl;have hx:∀args W,(callFunc 67 args).run Try.prog W=((Extern.ReflectliteSwapper.swap false args).run Try.prog W).andThen fun v w'=> .ok (.value v) w':=fun args W=>run_callFunc_extern Try.func67 A0a A0a A0a (e:=Extern.ReflectliteSwapper.swap false) A0a args W
   have hsw:=swapSwapsK_of_literal (P:=Try.prog) false 67 hx 25 eE hie ci 3 (fun _=>rfl) A0a (fun _=>by kernel_rfl) (fun p v hv=>by simp only[ci,ZE,aa3,acl] at hv;rcases hv with rfl|rfl|rfl<;>rfl) blk 0 d.size cap
   have hS:SoOK G blk d.size 37 67 #[.pointer (some ⟨Bk,0,none⟩)] #[.slice (some ⟨blk,0,none⟩) d.size cap,typeHandle Try.prog 25]:=⟨A0l,A0l,A0b,hN,Lc hcap hG,G9 hsw⟩;have hP:=Mp hS (Mq hN hsw) (d.size+1);refine Any.sort_Slice_of_pdq (P:=Try.prog) (ρ:=Try.laysGg6_ren) Try.laysGg6 35 25 fC eE hi hdd A0a hie 25 hke (some ⟨blk,0,none⟩) d.size cap A1j 67 (by rw[T7 _ h2];kernel_rfl) (.func 37) #[] #[.pointer (some ⟨Bk,0,none⟩)] w _ ?_;have hsb:sliceBound Try.prog 25 eE 25 (some ⟨blk,0,none⟩) d.size cap= #[.slice (some ⟨blk,0,none⟩) d.size cap,typeHandle Try.prog 25]:=by unfold sliceBound;rw[T7 _ h2];rfl
   rw[hsb];generalize hW:sliceWorld Try.prog Try.laysGg6_ren 35 (some ⟨blk,0,none⟩) d.size cap w=W;have hbel:Below w.heap.size w W:=by rw[<-hW];unfold sliceWorld;exact((Below.refl _ w).alloc (Zt _) _).alloc A0l _
   have hjW:(aF []).J W:=Glob.low hj hbel.size ⟨hbel.os,hbel.tape,hbel.output,hbel.size,fun k hk=>hbel.block k (Z3 hk (Glob.high hj))⟩;have hb:=hbx W (hbel.block blk hblk);have hl62:Lib.bitLen d.size<=62:=Lib.bitLen_le d.size 62 A0c A0c;have hF:=rA (g:=37) (sf:=67) (gl:= #[.pointer (some ⟨Bk,0,none⟩)]) (gs:= #[.slice (some ⟨blk,0,none⟩) d.size cap,typeHandle Try.prog 25]) (N:=d.size) (d.size+1) 0 d.size (Lib.bitLen d.size) d A0c A0c (Zt _) A0c rfl (.inl rfl)
   have hargs:ArgsP m W fV [.agg #[.func (.func 37) #[] #[.pointer (some ⟨Bk,0,none⟩)],.func (.func 67) #[] #[.slice (some ⟨blk,0,none⟩) d.size cap,typeHandle Try.prog 25]],.int .i64 ((0:Nat):Int),.int .i64 (d.size:Int),.int .i64 (Lib.bitLen d.size:Int),.pointer (some ⟨blk,0,none⟩)] [dB 37 67 #[.pointer (some ⟨Bk,0,none⟩)] #[.slice (some ⟨blk,0,none⟩) d.size cap,typeHandle Try.prog 25],.x (.int .i64 ((0:Nat):Int)),.x (.int .i64 (d.size:Int)),.x (.int .i64 (Lib.bitLen d.size:Int)),.bx (ay d)] [blk] [] []:=
    .dat (Rd.agg_iff.2 ⟨_,rfl,.x _,.x _,trivial⟩) rfl (.dat (.x _) rfl (.dat (.x _) rfl (.dat (.x _) rfl (.bx hb hK .nil))))
   have hgl:∀g,Rd m W (.pointer (some ⟨g,0,none⟩)) (G g):=fun b=>by
    show Rd m W _ (if b=Bk then _ else _);split
    . rename_i e;subst e;have hBW:=(hbel.block b hBk).trans hB;refine .ip b 0 _ (fun _=> .slice (some ⟨blk,0,none⟩) d.size cap) (ae hBW) (fun k hk=>?_) (fun fr hf=>?_) (fun k dd hk=>?_)
      . have:k=0:=A05
        subst this;rw[Box.cell hBW];exact hB0
      . have:m b=none:=Zs hne;rw[this] at hf;cases hf
      . cases k with
        |zero=>cases hk;exact .x _
        |succ k=>simp at hk
    . exact .undef _
   rcases hP m W #[.agg #[.func (.func 37) #[] #[.pointer (some ⟨Bk,0,none⟩)],.func (.func 67) #[] #[.slice (some ⟨blk,0,none⟩) d.size cap,typeHandle Try.prog 25]],.int .i64 ((0:Nat):Int),.int .i64 (d.size:Int),.int .i64 (Lib.bitLen d.size:Int)] _ [blk] [] [] _ _ hF hargs A0l A0l hjW hgl with⟨_,hc⟩|⟨v,w',he,_⟩
   . rw[show ∀a:Array Value,a++(⟨[]⟩:Array Value)=a from fun a=>abT] at hc;refine hc.mono ?_;rintro e w' ⟨v,rfl,m',hv,hb2,_,_,⟨o1,o2,ho,hou,_⟩,_⟩;have hs:=Go.Sort.pdq_sorts ab fB d 0 d.size (Lib.bitLen d.size) true true (Z0 _) (Zt _) (.inl rfl);have hvt:v= .tuple #[]:=by obtain⟨cs,rfl,hcs⟩:=Rd.tup_iff.1 hv;have:=hcs.length;simp only[ZH,Z5] at this;rw[aaR this]
     subst hvt;refine⟨rfl,_,hs.1,hs.2,⟨hb2.os.trans hbel.os,hb2.tape.trans hbel.tape,hb2.output.trans hbel.output,ZL hbel.size hb2.size,fun k hk hn=>(hb2.block k (Z3 hk hbel.size) A0R).trans (hbel.block k hk)⟩,m',?_⟩;cases o1 with
     |nil=>exact hou.elim
     |cons c o1=>obtain⟨e,_⟩:=aaT (show[ay _]=c::(o1++o2) from ho);rw[e];exact hou.1
   . have he2:=(Try.call49 _ _).symm.trans he;cases he2
 . have hz:d.size=0∨d.size=1:=A0c
   have hf:∃f,Try.prog.funcs.findIdx? (·.name== "internal/reflectlite" ++ ".Swapper$" ++toString (Lib.swapperK d.size eE 25))=some f:=by
    rcases hz with e|e
    . exact⟨59,by rw[e];kernel_rfl⟩
    . exact⟨60,by rw[e];kernel_rfl⟩
   obtain⟨f,hf⟩:=hf;refine(Any.sort_Slice_tiny (P:=Try.prog) (ρ:=Try.laysGg6_ren) Try.laysGg6 35 25 fC eE hi hdd A0a hie 25 hke (some ⟨blk,0,none⟩) d.size cap A0c f hf (.func 37) #[] #[.pointer (some ⟨Bk,0,none⟩)] w).mono ?_;rintro e w' ⟨rfl,os,rfl⟩;refine⟨rfl,d,Go.Sort.permIn_refl d _ _,fun i j _ h1 h3=>by omega,⟨rfl,rfl,rfl,by simp[Go.Sort.grow],fun k hk _=>Go.Sort.heap_grow_old _ _ hk⟩,m,hbx _ (Go.Sort.heap_grow_old _ _ hblk)⟩
end Go.Proofs.Ytmfojhkjbkombaa
