/- Sorting by a function value: all of it. -/
import Derived.Sort.Walk13a
import Derived.Sort.LotD3
import Derived.Test.YtalkmhjanlljhaaGreatMS
import Derived.Shelf.SlSortFuncK.BreakPatternsK
import Derived.Sort.Grow
import Derived.Test.YtalkmhjanlljhaaGreatShelf
import Derived.Test.YtalkmhjanlljhaaGreatML
import Derived.Shelf.GgSortFunc.Tiny
import Derived.Shelf.GgSortFunc.Slice
import Derived.Shelf.GgSortFunc.SmallK
import Derived.Test.YtalkmhjanlljhaaGreatMJ
namespace Go.Proofs.YtalkmhjanlljhaaGreat
set_option linter.unusedSimpArgs false
set_option maxHeartbeats 16000000
set_option maxRecDepth 100000
open Go Go.RowKit
open Go.Sort (swp)
attribute [go_sem] Tryz.results28 Tryz.results49 Tryz.results56 Tryz.results74
theorem zl {ρ:Type} {p:Prop} {_inst:Decidable p} {o:Option ρ} {r:ρ} (h:(if p then o else none)=some r):p∧o=some r:=by
 by_cases hp:p
 . rw[Va hp] at h;exact⟨hp,h⟩
 . rw[Vh hp] at h;cases h
open Go.Sort (SWO Below rd PermIn SortedIn)
theorem fP:SWO ac:=by
 refine⟨bH.irr,bH.trans,fun x y z h1 h2=>?_⟩;cases h3:ac x z with
 |false=>rfl
 | true=>
   cases h4:ac y x with
   |true=>rw[bH.trans _ _ _ h4 h3] at h2;cases h2
   |false=>have:=bH.tri _ _ h1 h4;subst this;rw[h3] at h2;cases h2
def xv (N:Nat) (x:Nat×Nat×Array C3):Option (V×List (List V)):=if x.1<=x.2.1∧x.2.1<=N∧x.2.2.size=N then some (.tup [],[az (Go.Sort.breakPatterns x.2.2 x.1 x.2.1)]) else none
open Classical in
noncomputable def ul (N n:Nat) (x:Nat×Nat×Nat×Array C3):Option (V×List (List V)):=if x.2.1-x.1<n∧x.1<=x.2.1∧x.2.1<=N∧x.2.2.1<=100∧x.2.2.2.size=N∧Below ac x.1 x.2.1 x.2.2.2 then some (.tup [],[az (Go.Sort.pdq ac x.2.2.2 x.1 x.2.1 x.2.2.1 true true)]) else none
section
variable {g sf:FuncId} {gl gs:Array Value} {N:Nat}
theorem K7 (a b:Nat) (d:Array C3) (h1:a<=b) (h2:b<=N) (h3:d.size=N):FE (eo g sf gl gs) (EY N) [dJ g sf gl gs,.x (.int .i64 (a:Int)),.x (.int .i64 (b:Int)),.bx (az d)]=some (.tup [],[az (Go.Sort.insertionSort ac d a b)]):=
 (bC gM (EY N) (a,b,d)).trans (Va ⟨h1,h2,h3⟩)
theorem Il (a b:Nat) (d:Array C3) (h1:a<=b) (h2:b<=N) (h3:d.size=N):FE (eo g sf gl gs) (uc N) [dJ g sf gl gs,.x (.int .i64 (a:Int)),.x (.int .i64 (b:Int)),.bx (az d)]=some (.tup [],[az (Go.Sort.heapSort ac d a b)]):=
 (bC gM (uc N) (a,b,d)).trans (Va ⟨h1,h2,h3⟩)
theorem K8 (a b:Nat) (d:Array C3) (h1:a<=b) (h2:b<=N) (h3:d.size=N):FE (eo g sf gl gs) (xv N) [dJ g sf gl gs,.x (.int .i64 (a:Int)),.x (.int .i64 (b:Int)),.bx (az d)]=some (.tup [],[az (Go.Sort.breakPatterns d a b)]):=
 (bC gM (xv N) (a,b,d)).trans (Va ⟨h1,h2,h3⟩)
theorem K9 (a b:Nat) (d:Array C3) (h1:a<b) (h2:b<=N) (h3:d.size=N):FE (eo g sf gl gs) (E3 N) [dJ g sf gl gs,.x (.int .i64 (a:Int)),.x (.int .i64 (b:Int)),.bx (az d)]=some (.tup [.x (.int .i64 ((Go.Sort.choosePivot ac d a b).1:Int)),.x (.int .i64 (Go.Sort.hintCode (Go.Sort.choosePivot ac d a b).2))],[az d]):=
 (bC gM (E3 N) (a,b,d)).trans (Va ⟨h1,h2,h3⟩)
theorem La (a b:Nat) (d:Array C3) (h1:a<b) (h2:b<=N) (h3:d.size=N):FE (eo g sf gl gs) (E1 N) [dJ g sf gl gs,.x (.int .i64 (a:Int)),.x (.int .i64 (b:Int)),.bx (az d)]=some (.tup [],[az (Go.Sort.reverseRange d a b)]):=
 (bC gM (E1 N) (a,b,d)).trans (Va ⟨h1,h2,h3⟩)
theorem Im (a b:Nat) (d:Array C3) (h1:a<b) (h2:b<=N) (h3:d.size=N):FE (eo g sf gl gs) (uf N) [dJ g sf gl gs,.x (.int .i64 (a:Int)),.x (.int .i64 (b:Int)),.bx (az d)]=some (.x (.bool (Go.Sort.partialInsertionSort ac d a b).2),[az (Go.Sort.partialInsertionSort ac d a b).1]):=
 (bC gM (uf N) (a,b,d)).trans (Va ⟨h1,h2,h3⟩)
theorem Ip (a b pv:Nat) (d:Array C3) (h1:a<=pv) (h0:pv<b) (h2:b<=N) (h3:d.size=N):FE (fW g sf gl gs) (ud N) [dJ g sf gl gs,.x (.int .i64 (a:Int)),.x (.int .i64 (b:Int)),.x (.int .i64 (pv:Int)),.bx (az d)]=some (.tup [.x (.int .i64 ((Go.Sort.partition ac d a b pv).1:Int)),.x (.bool (Go.Sort.partition ac d a b pv).2.1)],[az (Go.Sort.partition ac d a b pv).2.2]):=
 (bC kY (ud N) (a,b,pv,d)).trans (Va ⟨h1,h0,h2,h3⟩)
theorem Fa (a b pv:Nat) (d:Array C3) (h1:a<=pv) (h0:pv<b) (h2:b<=N) (h3:d.size=N):FE (fW g sf gl gs) (oh N) [dJ g sf gl gs,.x (.int .i64 (a:Int)),.x (.int .i64 (b:Int)),.x (.int .i64 (pv:Int)),.bx (az d)]=some (.x (.int .i64 ((Go.Sort.partitionEqual ac d a b pv).1:Int)),[az (Go.Sort.partitionEqual ac d a b pv).2]):=
 (bC kY (oh N) (a,b,pv,d)).trans (Va ⟨h1,h0,h2,h3⟩)
theorem qY (n a b lim:Nat) (d:Array C3) (h0:b-a<n) (h1:a<=b) (h2:b<=N) (h3:lim<=100) (h4:d.size=N) (h5:Below ac a b d):FE (fW g sf gl gs) (ul N n) [dJ g sf gl gs,.x (.int .i64 (a:Int)),.x (.int .i64 (b:Int)),.x (.int .i64 (lim:Int)),.bx (az d)]=some (.tup [],[az (Go.Sort.pdq ac d a b lim true true)]):=
 (bC kY (ul N n) (a,b,lim,d)).trans (Va ⟨h0,h1,h2,h3,h4,h5⟩)
end
variable {G:Nat->V} {bk N:Nat} {g sf:FuncId} {gl gs:Array Value}
theorem Fb (hS:SoOK G bk N g sf gl gs) (hB:FunXV G bk 105 [] (FE (eo g sf gl gs) (xv N))) (n:Nat) (ih:FunXV G bk 74 [] (FE (fW g sf gl gs) (ul N n))):FunXV G bk 74 [] (FE (fW g sf gl gs) (ul N (n+1))):=by
 obtain⟨X,hX,X1,X2,X3⟩:=iB hS [(103,FE (eo g sf gl gs) (EY N)),(104,FE (eo g sf gl gs) (uc N)),(105,FE (eo g sf gl gs) (xv N)),(106,FE (eo g sf gl gs) (E3 N)),(107,FE (eo g sf gl gs) (E1 N)),(108,FE (eo g sf gl gs) (uf N)),(109,FE (fW g sf gl gs) (oh N)),(110,FE (fW g sf gl gs) (ud N)),(74,FE (fW g sf gl gs) (ul N n))] ⟨Qf hS,K3 hS,hB,Qm hS,Qj hS,K5 hS,Ij hS,K4 hS,ih,trivial⟩;have hN:=hS.N1;unfold MX at hN;refine cm (k:=4) hX Tryz.func74 rfl (fun a w=>Tryz.call74 a w) Tryz.ntmps74 (by decide) (by decide) ?_;clear hX;intro us r outs hF;obtain⟨⟨a,b,lim,d⟩,hus,hG⟩:=aZ hF;clear hF;subst hus;unfold ul at hG;obtain⟨⟨hn,hab,hbN,hlim,hd,hBel⟩,hG⟩:=zl hG;simp only at hn hab hbN hlim hd hBel;cases hG;refine⟨_,rfl,rfl,fun pm m0 w0 hE=>?_⟩;simp only[fW];obtain⟨P,hP⟩:∃P,Go.Sort.pdq ac d a b lim true true=P:=⟨_,rfl⟩;rw[hP];refine Sem.seq [(1,.x (.int .i64 (a:Int))),(2,.x (.int .i64 (b:Int))),(3,.x (.int .i64 (lim:Int))),(4,.ptr 4 0)] [(4,[.x (.func (.func g) #[] gl),.x (.func (.func sf) #[] gs)]),(1004,az d)] (Sem.run hE ag (by kernel_rfl) (by simp +decide (maxDischargeDepth:=200) only[go_sem,X1,X2,X3,bo])) ?_;refine Sem.seq [(1,.x (.int .i64 (a:Int))),(2,.x (.int .i64 (b:Int))),(3,.x (.int .i64 (lim:Int))),(4,.ptr 4 0),(8,.x (.bool true))] [(4,[.x (.func (.func g) #[] gl),.x (.func (.func sf) #[] gs)]),(1004,az d)] (Sem.run hE ag (by kernel_rfl) (by simp +decide (maxDischargeDepth:=200) only[go_sem,X1,X2,X3,bo])) ?_;refine Sem.seq [(1,.x (.int .i64 ((a:Nat):Int))),(2,.x (.int .i64 ((b:Nat):Int))),(3,.x (.int .i64 ((lim:Nat):Int))),(4,.ptr 4 0),(8,.x (.bool true)),(9,.x (.bool true))] [(4,[.x (.func (.func g) #[] gl),.x (.func (.func sf) #[] gs)]),(1004,az d)] (Sem.run hE ag (by kernel_rfl) (by simp +decide (maxDischargeDepth:=200) only[go_sem,X1,X2,X3,bo])) ?_;refine Sem.block (Sem.loop (X:={x:Nat×Nat×Nat×Bool×Bool×Array C3//x.1<=x.2.1∧x.2.1<=N∧x.2.1-x.1<=b-a∧x.2.2.1<=lim∧x.2.2.2.2.2.size=N∧Below ac x.1 x.2.1 x.2.2.2.2.2∧Go.Sort.pdq ac x.2.2.2.2.2 x.1 x.2.1 x.2.2.1 x.2.2.2.1 x.2.2.2.2.1=P}) (fun x=>[(1,.x (.int .i64 ((x.1.1:Nat):Int))),(2,.x (.int .i64 ((x.1.2.1:Nat):Int))),(3,.x (.int .i64 ((x.1.2.2.1:Nat):Int))),(4,.ptr 4 0),(8,.x (.bool x.1.2.2.2.1)),(9,.x (.bool x.1.2.2.2.2.1))]) (fun x=>[(4,[.x (.func (.func g) #[] gl),.x (.func (.func sf) #[] gs)]),(1004,az x.1.2.2.2.2.2)]) (fun x=>x.1.2.1-x.1.1) ⟨(a,b,lim,true,true,d),hab,hbN,Vb _,Vb _,hd,hBel,hP⟩ (by simp +decide only[go_sem]<;>(repeat' first|rfl|constructor)) (by simp +decide only[go_sem]<;>(repeat' first|rfl|constructor)) (fun⟨⟨a1,b1,l1,wb,wp,dk⟩,x1,x2,x3,x4,hdk,hBk,heq⟩=>Sem.block ?_));simp only at x1 x2 x3 x4 hdk hBk heq⊢;have w1:ax .i64 ((b1:Int)-(a1:Int))=((b1-a1:Nat):Int):=by rw[ak (by unfold co;omega)];omega
 refine Sem.seq [(1,.x (.int .i64 ((a1:Nat):Int))),(2,.x (.int .i64 ((b1:Nat):Int))),(3,.x (.int .i64 ((l1:Nat):Int))),(4,.ptr 4 0),(8,.x (.bool wb)),(9,.x (.bool wp)),(10,.x (.int .i64 ((b1-a1:Nat):Int)))] [(4,[.x (.func (.func g) #[] gl),.x (.func (.func sf) #[] gs)]),(1004,az dk)] (Sem.run hE ag (by kernel_rfl) (by simp +decide (maxDischargeDepth:=200) only[go_sem,X1,X2,X3,bo,w1])) ?_;by_cases h12:b1-a1<=12
 . have c1:decide (((b1-a1:Nat):Int)<=12)=true:=iO (by omega);have e1:=K7 (g:=g) (sf:=sf) (gl:=gl) (gs:=gs) (N:=N) a1 b1 dk x1 x2 hdk;rw[<-heq,Go.Sort.pdq_small h12];refine Sem.seq_out (Sem.run hE ag (by kernel_rfl) ?_);simp +decide (maxDischargeDepth:=200) only[go_sem,X1,X2,X3,bo,c1,e1]
 have c1:decide (((b1-a1:Nat):Int)<=12)=false:=tl (by omega);refine Sem.seq [(1,.x (.int .i64 ((a1:Nat):Int))),(2,.x (.int .i64 ((b1:Nat):Int))),(3,.x (.int .i64 ((l1:Nat):Int))),(4,.ptr 4 0),(8,.x (.bool wb)),(9,.x (.bool wp)),(10,.x (.int .i64 ((b1-a1:Nat):Int)))] [(4,[.x (.func (.func g) #[] gl),.x (.func (.func sf) #[] gs)]),(1004,az dk)] (Sem.run hE ag (by kernel_rfl) (by simp +decide (maxDischargeDepth:=200) only[go_sem,X1,X2,X3,bo,c1])) ?_;by_cases hl0:l1=0
 . have c2:decide (((l1:Nat):Int)=0)=true:=iO (by omega);have e1:=Il (g:=g) (sf:=sf) (gl:=gl) (gs:=gs) (N:=N) a1 b1 dk x1 x2 hdk;rw[<-heq,Go.Sort.pdq_heap h12 hl0];refine Sem.seq_out (Sem.run hE ag (by kernel_rfl) ?_);simp +decide (maxDischargeDepth:=200) only[go_sem,X1,X2,X3,bo,c2,e1]
 have c2:decide (((l1:Nat):Int)=0)=false:=tl (by omega);refine Sem.seq [(1,.x (.int .i64 ((a1:Nat):Int))),(2,.x (.int .i64 ((b1:Nat):Int))),(3,.x (.int .i64 ((l1:Nat):Int))),(4,.ptr 4 0),(8,.x (.bool wb)),(9,.x (.bool wp)),(10,.x (.int .i64 ((b1-a1:Nat):Int)))] [(4,[.x (.func (.func g) #[] gl),.x (.func (.func sf) #[] gs)]),(1004,az dk)] (Sem.run hE ag (by kernel_rfl) (by simp +decide (maxDischargeDepth:=200) only[go_sem,X1,X2,X3,bo,c2])) ?_;obtain⟨R,hR⟩:∃R,rd ac dk a1 b1 l1 wb wp=R:=⟨_,rfl⟩;obtain⟨s1,B1,hc1,s2,B2,hpv,s3,B3⟩:=Go.Sort.rd_facts (lt:=ac) (limit:=l1) (wb:=wb) (wp:=wp) fP Go.Sort.partialInsertionSort_holds Go.Sort.reverseRange_holds (show a1<b1 by omega) (show b1<=dk.size by omega) hBk;have hlm:=Go.Sort.rd_lim_le (lt:=ac) (d:=dk) (a:=a1) (b:=b1) (limit:=l1) (wb:=wb) (wp:=wp);rw[hR] at s1 B1 hc1 s2 B2 hpv s3 B3 hlm;refine Sem.seq [(1,.x (.int .i64 ((a1:Nat):Int))),(2,.x (.int .i64 ((b1:Nat):Int))),(3,.x (.int .i64 ((R.lim:Nat):Int))),(4,.ptr 4 0),(8,.x (.bool wb)),(9,.x (.bool wp)),(10,.x (.int .i64 ((b1-a1:Nat):Int)))] [(4,[.x (.func (.func g) #[] gl),.x (.func (.func sf) #[] gs)]),(1004,az R.d1)] (Sem.run hE ag (by kernel_rfl) ?_) ?_
 . cases wb with
   |true=>obtain⟨q1,q2⟩:=Go.Sort.rd_true (lt:=ac) (d:=dk) (a:=a1) (b:=b1) (limit:=l1) (wp:=wp);rw[hR] at q1 q2;rw[q1,q2];simp +decide (maxDischargeDepth:=200) only[go_sem,X1,X2,X3,bo]
   | false=>
     obtain⟨q1,q2⟩:=Go.Sort.rd_false (lt:=ac) (d:=dk) (a:=a1) (b:=b1) (limit:=l1) (wp:=wp);rw[hR] at q1 q2;have e1:=K8 (g:=g) (sf:=sf) (gl:=gl) (gs:=gs) (N:=N) a1 b1 dk x1 x2 hdk;have w2:ax .i64 ((l1:Int)-1)=((l1-1:Nat):Int):=by rw[ak (by unfold co;omega)];omega
     rw[q1,q2];simp +decide (maxDischargeDepth:=200) only[go_sem,X1,X2,X3,bo,e1,w2]
 have ec:=Go.Sort.rd_c (lt:=ac) (d:=dk) (a:=a1) (b:=b1) (limit:=l1) (wb:=wb) (wp:=wp);rw[hR] at ec;have e2:=K9 (g:=g) (sf:=sf) (gl:=gl) (gs:=gs) (N:=N) a1 b1 R.d1 (by omega) x2 (s1.trans hdk);rw[<-ec] at e2;refine Sem.seq [(1,.x (.int .i64 ((a1:Nat):Int))),(2,.x (.int .i64 ((b1:Nat):Int))),(3,.x (.int .i64 ((R.lim:Nat):Int))),(4,.ptr 4 0),(8,.x (.bool wb)),(9,.x (.bool wp)),(10,.x (.int .i64 ((b1-a1:Nat):Int))),(11,.x (.int .i64 ((R.c.1:Nat):Int))),(12,.x (.int .i64 (Go.Sort.hintCode R.c.2)))] [(4,[.x (.func (.func g) #[] gl),.x (.func (.func sf) #[] gs)]),(1004,az R.d1)] (Sem.run hE ag (by kernel_rfl) (by simp +decide (maxDischargeDepth:=200) only[go_sem,X1,X2,X3,bo,e2])) ?_;refine Sem.seq [(1,.x (.int .i64 ((a1:Nat):Int))),(2,.x (.int .i64 ((b1:Nat):Int))),(3,.x (.int .i64 ((R.lim:Nat):Int))),(4,.ptr 4 0),(8,.x (.bool wb)),(9,.x (.bool wp)),(10,.x (.int .i64 ((b1-a1:Nat):Int))),(11,.x (.int .i64 ((R.pivot:Nat):Int))),(12,.x (.int .i64 (Go.Sort.hintCode R.hint)))] [(4,[.x (.func (.func g) #[] gl),.x (.func (.func sf) #[] gs)]),(1004,az R.d2)] (Sem.run hE ag (by kernel_rfl) ?_) ?_
 . by_cases hh:R.c.2= .decreasing
   . obtain⟨q1,q2,q3⟩:=Go.Sort.rd_dec (lt:=ac) (d:=dk) (a:=a1) (b:=b1) (limit:=l1) (wb:=wb) (wp:=wp) (by rw[hR];exact hh);rw[hR] at q1 q2 q3;have e3:=La (g:=g) (sf:=sf) (gl:=gl) (gs:=gs) (N:=N) a1 b1 R.d1 (by omega) x2 (s1.trans hdk);rw[<-q1] at e3;have c3:decide (Go.Sort.hintCode R.c.2=2)=true:=by rw[hh];rfl
     have c4:Go.Sort.hintCode R.hint=1:=by rw[q3];rfl
     have w2:ax .i64 ((b1:Int)-1)=((b1-1:Nat):Int):=by rw[ak (by unfold co;omega)];omega
     have w3:ax .i64 (((R.c.1:Nat):Int)-(a1:Int))=((R.c.1-a1:Nat):Int):=by rw[ak (by unfold co;omega)];omega
     have w4:ax .i64 (((b1-1:Nat):Int)-((R.c.1-a1:Nat):Int))=((R.pivot:Nat):Int):=by rw[ak (by unfold co;omega)];omega
     rw[c4];simp +decide (maxDischargeDepth:=200) only[go_sem,X1,X2,X3,bo,c3,e3,w2,w3,w4]
   . obtain⟨q1,q2,q3⟩:=Go.Sort.rd_not (lt:=ac) (d:=dk) (a:=a1) (b:=b1) (limit:=l1) (wb:=wb) (wp:=wp) (by rw[hR];exact hh);rw[hR] at q1 q2 q3
     have c3:decide (Go.Sort.hintCode R.c.2=2)=false:=tl (fun h=>hh (by generalize R.c.2=h0 at h;cases h0<;>first|rfl|(simp[Go.Sort.hintCode] at h)))
     rw[q1,q2,q3];simp +decide (maxDischargeDepth:=200) only[go_sem,X1,X2,X3,bo,c3]
 obtain⟨Q,hQ1,hQ2⟩:∃Q:Prop,(Q->R.pi.2=false)∧(R.pi.2=false->Q):=⟨_,id,id⟩;refine Sem.seqQ Q [(1,.x (.int .i64 ((a1:Nat):Int))),(2,.x (.int .i64 ((b1:Nat):Int))),(3,.x (.int .i64 ((R.lim:Nat):Int))),(4,.ptr 4 0),(8,.x (.bool wb)),(9,.x (.bool wp)),(10,.x (.int .i64 ((b1-a1:Nat):Int))),(11,.x (.int .i64 ((R.pivot:Nat):Int)))] [(4,[.x (.func (.func g) #[] gl),.x (.func (.func sf) #[] gs)]),(1004,az R.pi.1)] (Sem.run hE ag (by kernel_rfl) ?_) (fun hq=>?_)
 . by_cases hin:R.hint= .increasing
   . have c5:decide (Go.Sort.hintCode R.hint=1)=true:=by rw[hin];rfl
     cases hw:(wb&&wp) with
     | true=>
       rw[U6] at hw;obtain⟨hwb,hwp⟩:=hw;have epi:=Go.Sort.rd_pi_yes (lt:=ac) (d:=dk) (a:=a1) (b:=b1) (limit:=l1) (wb:=wb) (wp:=wp) (by rw[hR,hin,hwb,hwp];rfl);rw[hR] at epi;have e4:=Im (g:=g) (sf:=sf) (gl:=gl) (gs:=gs) (N:=N) a1 b1 R.d2 (by omega) x2 (s2.trans hdk);rw[<-epi] at e4;cases h2:R.pi.2 with
       |true=>rw[h2] at e4;have hf:=Go.Sort.pdq_done (lt:=ac) (wb:=wb) (wp:=wp) h12 hl0 (by rw[hR];exact h2);rw[hR,heq] at hf;rw[hf];simp +decide (maxDischargeDepth:=200) only[go_sem,X1,X2,X3,bo,hwb,hwp,c5,e4]
       |false=>rw[h2] at e4;have q:=hQ2 h2;simp +decide (maxDischargeDepth:=200) only[go_sem,X1,X2,X3,bo,hwb,hwp,c5,e4,q]
     | false=>
       have epi:=Go.Sort.rd_pi_no (lt:=ac) (d:=dk) (a:=a1) (b:=b1) (limit:=l1) (wb:=wb) (wp:=wp) (by rw[hw];rfl);rw[hR] at epi;have q:=hQ2 (by rw[epi]);rw[epi];cases wb with
       |false=>simp +decide (maxDischargeDepth:=200) only[go_sem,X1,X2,X3,bo,c5,q]
       | true=>
         have hwp:wp=false:=by simpa using hw
         simp +decide (maxDischargeDepth:=200) only[go_sem,X1,X2,X3,bo,hwp,c5,q]
   . have c5:decide (Go.Sort.hintCode R.hint=1)=false:=tl (fun h=>hin (by generalize R.hint=h0 at h;cases h0<;>first|rfl|(simp[Go.Sort.hintCode] at h)))
     have epi:=Go.Sort.rd_pi_no (lt:=ac) (d:=dk) (a:=a1) (b:=b1) (limit:=l1) (wb:=wb) (wp:=wp) (by rw[hR,tl hin,Bool.and_false]);rw[hR] at epi;have q:=hQ2 (by rw[epi]);rw[epi];cases wb with
     |false=>simp +decide (maxDischargeDepth:=200) only[go_sem,X1,X2,X3,bo,c5,q]
     | true=>cases wp with
       |false=>simp +decide (maxDischargeDepth:=200) only[go_sem,X1,X2,X3,bo,c5,q]
       |true=>simp +decide (maxDischargeDepth:=200) only[go_sem,X1,X2,X3,bo,c5,q]
 have hp2:=hQ1 hq;clear hQ1 hQ2 hq Q;obtain⟨D,hD⟩:∃D,R.pi.1=D:=⟨_,rfl⟩;rw[hD] at s3 B3⊢;have z3:D.size=N:=s3.trans hdk;cases h87:(decide (a1>0)&& !ac D[a1-1]! D[R.pivot]!) with
 | true=>
   have h87':=h87;simp only[U6,Vz,Ws] at h87';obtain⟨mid,d4,hx⟩:∃mid d4,Go.Sort.partitionEqual ac D a1 b1 R.pivot=(mid,d4):=⟨_,_,rfl⟩;obtain⟨r1,r2,r3,r4,_⟩:=Go.Sort.round_eq fP (Go.Sort.partitionEqual_holds ac) h87'.1 hpv.1 hpv.2 (show b1<=D.size by omega) B3 h87'.2 hx;have e5:=Fa (g:=g) (sf:=sf) (gl:=gl) (gs:=gs) (N:=N) a1 b1 R.pivot D hpv.1 hpv.2 x2 z3;rw[hx] at e5;have hl:=cH (N:=N) (a1-1) R.pivot D (by omega) (by omega) z3;rw[h87'.2] at hl;have c6:decide ((0:Int)<((a1:Nat):Int))=true:=iO (by omega);have w5:ax .i64 ((a1:Int)-1)=((a1-1:Nat):Int):=by rw[ak (by unfold co;omega)];omega
   have hf:=Go.Sort.pdq_eq (lt:=ac) (wb:=wb) (wp:=wp) h12 hl0 (by rw[hR];exact hp2) (by rw[hR,hD];exact h87) (by rw[hR,hD,hx];exact⟨r1,r2⟩);rw[hR,hD,hx,heq] at hf;simp only at hf;refine Sem.seq_out (Sem.run hE ag (by kernel_rfl) ?_);simp +decide (maxDischargeDepth:=200) only[go_sem,X1,X2,X3,bo,c6,w5,hl,e5];refine⟨⟨(mid,b1,R.lim,wb,wp,d4),by simp only;omega,by simp only;omega,by simp only;omega,by simp only;omega,r3.trans z3,r4,hf.symm⟩,?_,?_,by simp only;omega⟩<;>simp +decide only[go_sem]<;>(repeat' first|rfl|constructor)
 | false=>
   refine Sem.seq [(1,.x (.int .i64 ((a1:Nat):Int))),(2,.x (.int .i64 ((b1:Nat):Int))),(3,.x (.int .i64 ((R.lim:Nat):Int))),(4,.ptr 4 0),(8,.x (.bool wb)),(9,.x (.bool wp)),(10,.x (.int .i64 ((b1-a1:Nat):Int))),(11,.x (.int .i64 ((R.pivot:Nat):Int)))] [(4,[.x (.func (.func g) #[] gl),.x (.func (.func sf) #[] gs)]),(1004,az D)] (Sem.run hE ag (by kernel_rfl) ?_) ?_
   . by_cases ha0:0<a1
     . have c6:decide ((0:Int)<((a1:Nat):Int))=true:=iO (by omega);have w5:ax .i64 ((a1:Int)-1)=((a1-1:Nat):Int):=by rw[ak (by unfold co;omega)];omega
       have hl:=cH (N:=N) (a1-1) R.pivot D (by omega) (by omega) z3;rw[iO (show a1>0 from ha0),Wo,Bool.not_eq_false'] at h87;rw[h87] at hl;simp +decide (maxDischargeDepth:=200) only[go_sem,X1,X2,X3,bo,c6,w5,hl]
     . have c6:decide ((0:Int)<((a1:Nat):Int))=false:=tl (by omega);simp +decide (maxDischargeDepth:=200) only[go_sem,X1,X2,X3,bo,c6]
   obtain⟨mid,ap,d4,hx⟩:∃mid ap d4,Go.Sort.partition ac D a1 b1 R.pivot=(mid,ap,d4):=⟨_,_,_,rfl⟩;obtain⟨r1,r2,r3,r4,r5,r6,r7⟩:=Go.Sort.round_part fP (Go.Sort.partition_holds ac) hpv.1 hpv.2 (show b1<=D.size by omega) B3 hx;have e5:=Ip (g:=g) (sf:=sf) (gl:=gl) (gs:=gs) (N:=N) a1 b1 R.pivot D hpv.1 hpv.2 x2 z3;rw[hx] at e5;have z4:d4.size=N:=r3.trans z3;have w6:ax .i64 (((mid:Nat):Int)-(a1:Int))=((mid-a1:Nat):Int):=by rw[ak (by unfold co;omega)];omega
   have w7:ax .i64 ((b1:Int)-((mid:Nat):Int))=((b1-mid:Nat):Int):=by rw[ak (by unfold co;omega)];omega
   have w8:ax .i64 (((mid:Nat):Int)+1)=((mid+1:Nat):Int):=by rw[ak (by unfold co;omega)];omega
   have w9:ax .i64 (((b1-a1:Nat):Int).tdiv 8)=(((b1-a1)/8:Nat):Int):=by rw[XB (by omega),ak (by unfold co;omega)];omega
   refine Sem.seq [(1,.x (.int .i64 ((a1:Nat):Int))),(2,.x (.int .i64 ((b1:Nat):Int))),(3,.x (.int .i64 ((R.lim:Nat):Int))),(4,.ptr 4 0),(8,.x (.bool wb)),(9,.x (.bool wp)),(10,.x (.int .i64 ((b1-a1:Nat):Int))),(14,.x (.int .i64 ((mid:Nat):Int))),(15,.x (.bool ap))] [(4,[.x (.func (.func g) #[] gl),.x (.func (.func sf) #[] gs)]),(1004,az d4)] (Sem.run hE ag (by kernel_rfl) (by simp +decide (maxDischargeDepth:=200) only[go_sem,X1,X2,X3,bo,e5])) ?_;refine Sem.seq [(1,.x (.int .i64 ((a1:Nat):Int))),(2,.x (.int .i64 ((b1:Nat):Int))),(3,.x (.int .i64 ((R.lim:Nat):Int))),(4,.ptr 4 0),(8,.x (.bool wb)),(9,.x (.bool ap)),(10,.x (.int .i64 ((b1-a1:Nat):Int))),(14,.x (.int .i64 ((mid:Nat):Int)))] [(4,[.x (.func (.func g) #[] gl),.x (.func (.func sf) #[] gs)]),(1004,az d4)] (Sem.run hE ag (by kernel_rfl) (by simp +decide (maxDischargeDepth:=200) only[go_sem,X1,X2,X3,bo])) ?_;refine Sem.seq [(1,.x (.int .i64 ((a1:Nat):Int))),(2,.x (.int .i64 ((b1:Nat):Int))),(3,.x (.int .i64 ((R.lim:Nat):Int))),(4,.ptr 4 0),(8,.x (.bool wb)),(9,.x (.bool ap)),(10,.x (.int .i64 ((b1-a1:Nat):Int))),(14,.x (.int .i64 ((mid:Nat):Int))),(16,.x (.int .i64 ((mid-a1:Nat):Int))),(17,.x (.int .i64 ((b1-mid:Nat):Int)))] [(4,[.x (.func (.func g) #[] gl),.x (.func (.func sf) #[] gs)]),(1004,az d4)] (Sem.run hE ag (by kernel_rfl) (by simp +decide (maxDischargeDepth:=200) only[go_sem,X1,X2,X3,bo,w6,w7])) ?_;refine Sem.seq [(1,.x (.int .i64 ((a1:Nat):Int))),(2,.x (.int .i64 ((b1:Nat):Int))),(3,.x (.int .i64 ((R.lim:Nat):Int))),(4,.ptr 4 0),(8,.x (.bool wb)),(9,.x (.bool ap)),(14,.x (.int .i64 ((mid:Nat):Int))),(16,.x (.int .i64 ((mid-a1:Nat):Int))),(17,.x (.int .i64 ((b1-mid:Nat):Int))),(18,.x (.int .i64 (((b1-a1)/8:Nat):Int)))] [(4,[.x (.func (.func g) #[] gl),.x (.func (.func sf) #[] gs)]),(1004,az d4)] (Sem.run hE ag (by kernel_rfl) (by simp +decide (maxDischargeDepth:=200) only[go_sem,X1,X2,X3,bo,w9])) ?_;by_cases h4:mid-a1<b1-mid
   . have c7:decide (((mid-a1:Nat):Int)<((b1-mid:Nat):Int))=true:=iO (by omega);have e8:decide ((((b1-a1)/8:Nat):Int)<=((mid-a1:Nat):Int))=decide (mid-a1≥(b1-a1)/8):=XU.2 ⟨fun h=>by omega,fun h=>by omega⟩;have e9:=qY (g:=g) (sf:=sf) (gl:=gl) (gs:=gs) (N:=N) n a1 mid R.lim d4 (by omega) r1 (by omega) (by omega) z4 r4;obtain⟨pL,sL⟩:=Go.Sort.pdq_sorts ac fP d4 a1 mid R.lim true true r1 (by omega) r4;have hf:=Go.Sort.pdq_left (lt:=ac) (wb:=wb) (wp:=wp) h12 hl0 (by rw[hR];exact hp2) (by rw[hR,hD];exact h87) (by rw[hR,hD,hx];exact⟨r1,r2⟩) (by rw[hR,hD,hx];exact h4);rw[hR,hD,hx,heq] at hf;simp only at hf;generalize hB8:decide (mid-a1≥(b1-a1)/8)=b8 at e8 hf;have z5:=pL.1.trans z4;have B5:=(r6 _ pL sL).1;generalize Go.Sort.pdq ac d4 a1 mid R.lim true true=d5 at e9 hf z5 B5;refine Sem.run hE ag (by kernel_rfl) ?_;simp +decide (maxDischargeDepth:=200) only[go_sem,X1,X2,X3,bo,c7,e8,e9,w8];refine⟨⟨(mid+1,b1,R.lim,b8,ap,d5),by simp only;omega,by simp only;omega,by simp only;omega,by simp only;omega,z5,B5,hf.symm⟩,?_,?_,by simp only;omega⟩<;>simp +decide only[go_sem]<;>(repeat' first|rfl|constructor)
   . have c7:decide (((mid-a1:Nat):Int)<((b1-mid:Nat):Int))=false:=tl (by omega);have e8:decide ((((b1-a1)/8:Nat):Int)<=((b1-mid:Nat):Int))=decide (b1-mid≥(b1-a1)/8):=XU.2 ⟨fun h=>by omega,fun h=>by omega⟩;have e9:=qY (g:=g) (sf:=sf) (gl:=gl) (gs:=gs) (N:=N) n (mid+1) b1 R.lim d4 (by omega) (by omega) (by omega) (by omega) z4 r5;obtain⟨pL,sL⟩:=Go.Sort.pdq_sorts ac fP d4 (mid+1) b1 R.lim true true (by omega) (by omega) r5;have hf:=Go.Sort.pdq_right (lt:=ac) (wb:=wb) (wp:=wp) h12 hl0 (by rw[hR];exact hp2) (by rw[hR,hD];exact h87) (by rw[hR,hD,hx];exact⟨r1,r2⟩) (by rw[hR,hD,hx];exact h4);rw[hR,hD,hx,heq] at hf;simp only at hf;generalize hB8:decide (b1-mid≥(b1-a1)/8)=b8 at e8 hf;have z5:=pL.1.trans z4;have B5:=(r7 _ pL sL).1;generalize Go.Sort.pdq ac d4 (mid+1) b1 R.lim true true=d5 at e9 hf z5 B5;refine Sem.run hE ag (by kernel_rfl) ?_;simp +decide (maxDischargeDepth:=200) only[go_sem,X1,X2,X3,bo,c7,e8,e9,w8];refine⟨⟨(a1,mid,R.lim,b8,ap,d5),by simp only;omega,by simp only;omega,by simp only;omega,by simp only;omega,z5,B5,hf.symm⟩,?_,?_,by simp only;omega⟩<;>simp +decide only[go_sem]<;>(repeat' first|rfl|constructor)
theorem Jl (hS:SoOK G bk N g sf gl gs) (hB:FunXV G bk 105 [] (FE (eo g sf gl gs) (xv N))) (n:Nat):FunXV G bk 74 [] (FE (fW g sf gl gs) (ul N n)):=by
 induction n with
 |zero=>intro m w vs us bs gs hs r outs hF;obtain⟨⟨a,b,l,d⟩,_,hG⟩:=aZ hF;unfold ul at hG;obtain⟨⟨h,_⟩,_⟩:=zl hG;exact absurd h (Xi _)
 |succ n ih=>exact Fb hS hB n ih
open Go.Sort (putRowK HoldsK flatK)
def cu (p:C3):List Value:=[.string p.1,.int .i64 p.2.1,.int .i64 p.2.2]
theorem cM (d:Array C3):az d=(d.toList.flatMap cu).map V.x:=by
 unfold az;generalize d.toList=l
 induction l with
 |nil=>rfl
 |cons p l ih=>rw[VS,VS,Vy,ih];rfl
theorem mM:∀(l:List C3) (t:Nat),(l.flatMap cu)[t]?=(l[t/3]?).map fun p=>(cu p)[t%3]!
 |[],t=>by simp
 | p ::l,t=>by
   rw[VS];rcases VX t 3 with h|h
   . rw[Vg (by show t<3;exact h),Nat.div_eq_of_lt h,XS h];have:t=0∨t=1∨t=2:=by omega
     rcases this with rfl|rfl|rfl<;>rfl
   . rw[Vs (by show 3<=t;exact h)];show(l.flatMap cu)[t-3]?=_;obtain⟨u,rfl⟩:∃u,t=u+3:=⟨t-3,by omega⟩;rw[Nat.add_sub_cancel,mM l u,show(u+3)/3=u/3+1 from by omega,show(u+3)%3=u%3 from by omega,Wu]
theorem zm (d:Array C3):(flatK cu 3 d).toList=d.toList.flatMap cu:=by
 apply Wb;intro t;rw[mM];unfold flatK;rw[Vm,Array.getElem?_map,Vm];rcases VX t (d.size*3) with h|h
 . have h3:t/3<d.size:=by omega
   rw[Array.getElem?_range,Va h,Vn h3];simp[h3]
 . rw[Array.getElem?_range,Vh (by omega),WV (by omega)];rfl
theorem mo {m:Lim} {w:World}:∀{xs l:List Value},RdL m w xs (l.map V.x)->xs=l
 |[],[],_=>rfl
 |x::xs,y::l,h=>by have h1:Rd m w x (.x y):=h.1;cases h1;rw[mo h.2]
theorem kj {m:Lim} {w:World}:∀l:List Value,RdL m w l (l.map V.x)
 |[]=>trivial
 |_::l=>⟨.x _,kj l⟩
variable {m:Lim} {w:World} {d:Array C3}
theorem jA {blk:Nat} (h:BoxAt m w blk (az d)):HoldsK cu 3 w blk 0 d:=by
 obtain⟨_,vals,ty,xs,rest,hh,hv,hr⟩:=h;rw[cM] at hr;have hx:=mo hr;subst hx;intro j hj;have hlen:(flatK cu 3 d).size=d.size*3:=by simp[flatK]
 have e:vals[j]?=(flatK cu 3 d)[j]?:=by rw[<-Vm,hv,<-zm,Vg (by simpa using hj),Vm]
 have hjs:j<vals.size:=by have h1:=WP List.length hv;rw[<-zm] at h1;simp only[Vk,U4] at h1;omega
 refine⟨?_,?_⟩
 . rw[Vt,Box.cell hh,e,Vn hj];exact WP some (Xw _ j hj).symm
 . have hok:=ty.ok;have hh':w.heap[blk]?=some (.cells vals ty.ty (ty.fz.1,ty.fz.2)):=hh;generalize ty.fz.1=f1 at hh' hok;generalize ty.fz.2=f2 at hh' hok;simp only[World.frozen?,hh',Bool.and_eq_false_iff,decide_eq_false_iff_not];rcases hok with h2|h2
   . right;omega
   . left;omega
variable {n:Nat} {os:Array Obj} {cur:Array Value} {ty:TypeId}
theorem xw {w1:World} {g:Nat} {d:Array Value} {fr:Nat×Nat} (hh:w1.heap[g]?=some (.cells cur ty fr)):
 (Go.Sort.grow (Go.Sort.putRow id (Go.Sort.ahead w1 n) g 0 d) os).heap[g]?=some (.cells (Go.Sort.putCells id 0 d cur) ty fr)∧∀k,k<w1.heap.size->k≠g->(Go.Sort.grow (Go.Sort.putRow id (Go.Sort.ahead w1 n) g 0 d) os).heap[k]?=w1.heap[k]?:=by
 have hsz:(Go.Sort.putRow id (Go.Sort.ahead w1 n) g 0 d).heap.size=w1.heap.size:=by simp[Go.Sort.putRow,Go.Sort.mapBlock,Go.Sort.ahead]
 refine⟨?_,fun k hk hn=>?_⟩
 . rw[Go.Sort.heap_grow_old _ _ (by rw[hsz];exact ae hh)];show(w1.heap.modify g (Go.Sort.onCells (Go.Sort.putCells id 0 d)))[g]?=_;rw[WO,Va rfl,hh];rfl
 . rw[Go.Sort.heap_grow_old _ _ (by rw[hsz];exact hk)];show(w1.heap.modify g (Go.Sort.onCells (Go.Sort.putCells id 0 d)))[k]?=_;rw[WO,Vh (fun e=>hn e.symm)]
variable {d':Array C3}
theorem pO {blk:Nat} (h:BoxAt m w blk (az d)) (hs:d'.size=d.size):
 BoxAt m (Go.Sort.grow (putRowK cu 3 (Go.Sort.ahead w n) blk 0 d') os) blk (az d')∧Bel [blk] w (Go.Sort.grow (putRowK cu 3 (Go.Sort.ahead w n) blk 0 d') os)∧Ext m w m (Go.Sort.grow (putRowK cu 3 (Go.Sort.ahead w n) blk 0 d') os):=by
 obtain⟨hlim,vals,ty,xs,rest,hh,hv,hr⟩:=h;rw[cM] at hr;have hx:=mo hr;subst hx;have hfl:(flatK cu 3 d').size=d.size*3:=by simp[flatK,hs]
 have hvl:d.size*3<=vals.size:=by
  have h1:=WP List.length hv;rw[<-zm] at h1;have h2:(flatK cu 3 d).size=d.size*3:=by simp[flatK]
  simp only[Vk,U4] at h1;omega
 have hsz:w.heap.size<=(Go.Sort.grow (putRowK cu 3 (Go.Sort.ahead w n) blk 0 d') os).heap.size:=by simp[putRowK,Go.Sort.putRow,Go.Sort.mapBlock,Go.Sort.grow,Go.Sort.ahead]
 obtain⟨r1,r2⟩:=xw (w1:=w) (n:=n) (d:=flatK cu 3 d') (os:=os) hh;have hbel:Bel [blk] w (Go.Sort.grow (putRowK cu 3 (Go.Sort.ahead w n) blk 0 d') os):=⟨rfl,rfl,rfl,hsz,fun k hk hn=>r2 k hk (by simpa using hn)⟩;refine⟨⟨hlim,_,ty.to (by simp[Go.Sort.putCells]),(flatK cu 3 d').toList,vals.toList.drop (d.size*3),r1,?_,?_⟩,hbel,⟨hsz,fun b off v hb hm hc=>?_,fun b hb fr hf=>⟨fr,hf,Vb _⟩,fun b es c hm hc=>(r2 b (dO hc) (fun e=>by rw[e,hlim] at hm;cases hm)).trans hc⟩⟩
 . apply Wb;intro j;rw[Vm,Go.Sort.putCells,Array.getElem?_mapIdx];rcases VX j (d.size*3) with h|h
   . rw[Vg (by simpa[hfl] using h),Vn (by omega),Vm,Vn (by omega)];simp[hfl,h]
   . rw[Vs (by simpa[hfl] using h),Wi];simp only[Vk,hfl];rw[show d.size*3+(j-d.size*3)=j from by omega,Vm];cases vals[j]? with
     |none=>rfl
     |some v=>simp only[VT];rw[Vh (by omega)]
 . rw[cM,zm];exact kj _
 . by_cases e:b=blk
   . subst e;exact absurd (hm 0 hlim) (Xi _)
   . exact(aX (j:=off) (r2 b hb e)).trans hc
variable {vs:Array Value} {p:Value} {bs hs:List Nat} {a b c:V}
theorem xx {K:Nat} {gs:List Nat} (h:ArgsP m w K (vs.toList++[p]) [a,b,c] bs gs hs):∃v1 v2,vs= #[v1,v2]:=by
 have hl:=h.len;simp only[U4,Vk,U3,VB] at hl;obtain⟨l⟩:=vs
 match l,hl with
 |[v1,v2],_=>exact⟨v1,v2,rfl⟩
theorem Fc {K:Nat} {gs:List Nat} {d:V} (h:ArgsP m w K (vs.toList++[p]) [a,b,c,d] bs gs hs):∃v1 v2 v3,vs= #[v1,v2,v3]:=by
 have hl:=h.len;simp only[U4,Vk,U3,VB] at hl;obtain⟨l⟩:=vs
 match l,hl with
 |[v1,v2,v3],_=>exact⟨v1,v2,v3,rfl⟩
section
variable {G:Nat->V} {bk N:Nat} {g sf:FuncId} {gl gs:Array Value}
theorem Fd (hsw:SwapSwapsK Tryz.prog sf gs cu 3 bk 0 N):FunXV G bk sf gs.toList (FE en2 (GSwp N)):=by
 intro m w vs us bs gs' hs r outs hF hargs hnd hhnd hj hg;obtain⟨⟨i,j,d⟩,hus,hG⟩:=aZ hF;subst hus;unfold GSwp at hG;obtain⟨⟨hi,hjj,hd⟩,hG⟩:=bv hG;simp only at hi hjj hd;cases hG;obtain⟨v1,v2,rfl⟩:=xx hargs;simp only[en2] at hargs;cases hargs with
 | dat hr1 hd1 h1=>
   cases h1 with
   | dat hr2 hd2 h2=>
     cases h2 with
     |dat hr3 hd3 h3=>cases hd3
     | bx hb hK h3=>
       cases h3;cases hr1;cases hr2;have hH:=jA hb;have hrun:=hsw w d hH hd i j hi hjj;have hw:w=(putRowK cu 3 (Go.Sort.ahead w 0) bk 0 d).drewN 0:=by rw[Go.Sort.ahead_zero,Go.Sort.putRowK_self cu 3 w bk 0 d hH];rfl
       have hsw2:=Go.Sort.swap_worldK cu 3 (fun _=>rfl) w 0 0 bk 0 d i j (by omega) (by omega);rw[<-hw] at hsw2;rw[hsw2] at hrun;have hgr:putRowK cu 3 (Go.Sort.ahead w (0+0)) bk 0 (swp d i j)=Go.Sort.grow (putRowK cu 3 (Go.Sort.ahead w 0) bk 0 (swp d i j)) #[]:=by rw[Go.Sort.grow_empty]
       rw[hgr] at hrun;obtain⟨b1,b2,b3⟩:=pO (n:=0) (os:= #[]) hb (bF d i j);refine .inr ⟨_,_,hrun,m,.tup #[] [] rfl (fun i v u h=>by simp at h),b2,b3,fun _ _ _=>rfl,⟨[az (swp d i j)],[],by simp,⟨b1,trivial⟩,trivial⟩,fun sz es k e=>by cases e⟩
theorem Jm (hN:N<=MX) (hsw:SwapSwapsK Tryz.prog sf gs cu 3 bk 0 N):FunXV G bk 105 [] (FE (eo g sf gl gs) (xv N)):=by
 intro m w vs us bs gs' hs r outs hF hargs hnd hhnd hj hg;obtain⟨⟨a,b,d⟩,hus,hG⟩:=aZ hF;subst hus;unfold xv at hG;obtain⟨⟨hab,hbN,hd⟩,hG⟩:=bv hG;simp only at hab hbN hd;cases hG;obtain⟨v1,v2,v3,rfl⟩:=Fc hargs;simp only[eo] at hargs;cases hargs with
 | dat hr1 hd1 h1=>
   cases h1 with
   | dat hr2 hd2 h2=>
     cases h2 with
     | dat hr3 hd3 h3=>
       cases h3 with
       |dat hr4 hd4 h4=>cases hd4
       | bx hb hK h4=>
         cases h4;cases hr2;cases hr3;obtain⟨cs,rfl,hcs⟩:=Rd.agg_iff.1 hr1;have e:cs= #[.func (.func g) #[] gl,.func (.func sf) #[] gs]:=by apply V3.1;exact mo (l:=[.func (.func g) #[] gl,.func (.func sf) #[] gs]) hcs
         subst e;have hH:=jA hb;have hblk:bk<w.heap.size:=by obtain⟨_,_,_,_,_,hhb,_⟩:=hb;exact ae hhb
         have hc:=Any.breakPatterns_func_cells_w (P:=Tryz.prog) (ρ:=Tryz.laysGg14_ren) {Tryz.laysGg14 with} cu 3 (fun _=>rfl) (.func g) #[] gl sf gs bk 0 a b d w (by rw[hd];exact hsw) hH hblk hab (by omega) (by unfold MX at hN;omega);change Calls Tryz.prog 105 _ _ _ at hc;refine .inl ⟨Tryz.call105 _ _,?_⟩;rw[show(#[Value.agg #[.func (.func g) #[] gl,.func (.func sf) #[] gs],.int .i64 (a:Int),.int .i64 (b:Int)]++(⟨[]⟩:Array Value))= #[.agg #[.func (.func g) #[] gl,.func (.func sf) #[] gs],.int .i64 (a:Int),.int .i64 (b:Int)] from Xt];refine hc.mono ?_;rintro e w' ⟨rfl,n,os,rfl⟩;obtain⟨b1,b2,b3⟩:=pO (n:=n) (os:=os) hb ((Go.Sort.breakPatterns_holds d a b hab (by omega)).1);exact⟨_,rfl,m,.tup #[] [] rfl (fun i v u h=>by simp at h),b2,b3,fun _ _ _=>rfl,⟨[az (Go.Sort.breakPatterns d a b)],[],by simp,⟨b1,trivial⟩,trivial⟩,fun sz es k e=>by cases e⟩
end
def Jn:List V->Option V
 | [.x (.int .i64 i),.x (.int .i64 j),.ip [.sl false 3 es none]]=>match es[i.toNat]?,es[j.toNat]? with
   |some (.agg [.x (.string s),.x (.int .i64 c),.x (.int .i64 r)]),some (.agg [.x (.string s'),.x (.int .i64 c'),.x (.int .i64 r')])=>if 0<=i∧0<=j then some (.x (.bool (dG s c r s' c' r'))) else none
   |_,_=>none
 |_=>none
theorem Fe:bM 56 Jn:=by
 refine av (E:=au [(50,bd)]) (k:=3) (aM _ ⟨tt,trivial⟩) (by kernel_rfl) Tryz.func56 rfl (fun a w=>Tryz.call56 a w) Tryz.ntmps56 (by kernel_rfl) (by decide) (by decide) ?_;intro us r hF hdat;unfold Jn at hF;split at hF
 case h_2=>cases hF
 rename_i i j es;split at hF
 case h_2=>cases hF
 rename_i s c r s' c' r' hi hj;obtain⟨⟨h0,h1⟩,hF⟩:=bv hF;cases hF;refine⟨rfl,?_⟩;have e1:bd [.agg [.x (.string s),.x (.int .i64 c),.x (.int .i64 r)],.agg [.x (.string s'),.x (.int .i64 c'),.x (.int .i64 r')]]=some (.x (.bool (dG s c r s' c' r'))):=rfl;simp +decide (maxDischargeDepth:=200) only[go_sem,h0,h1,hi,hj,e1]
open Go.Sort (putRowK HoldsK flatK PermIn SortedIn)
theorem zn (p q:C3):ac p q=dG p.1 p.2.1 p.2.2 q.1 q.2.1 q.2.2:=rfl
variable {Bk cap:Nat}
theorem zo (hb:BoxAt m w bk (az d)) (hd:d.size=N) (hcap:N<=cap) (hB:Rd m w (.pointer (some ⟨Bk,0,none⟩)) (.ip [.x (.slice (some ⟨bk,0,none⟩) N cap)])):Rd (fun _=>none) w (.pointer (some ⟨Bk,0,none⟩)) (.ip [.sl false 3 (d.toList.map aa) none]):=by
 have hH:=jA hb;have hblk:bk<w.heap.size:=by obtain⟨_,_,_,_,_,hhb,_⟩:=hb;exact ae hhb
 have hlen:(flatK cu 3 d).size=d.size*3:=by simp[flatK]
 have hl:(d.toList.map aa).length=N:=by simpa using hd
 have hsl:Rd (fun _=>none) w (.slice (some ⟨bk,0,none⟩) (d.toList.map aa).length cap) (.sl false 3 (d.toList.map aa) none):=by
  refine .sl bk 0 cap 3 _ none (fun k=>(flatK cu 3 d)[k]!) hblk (by omega) (fun i e he=>?_) (fun k hk=>?_) (fun fr hf=>by cases hf) (fun i e he j dd hj=>?_)
  . rw[U5] at he;obtain⟨p,_,rfl⟩:=U9.1 he;rfl
  . exact(hH k (by rw[hlen];simp at hk;omega)).1
  . rw[U5] at he;obtain⟨p,hp,rfl⟩:=U9.1 he;have hil:i<d.size:=by simpa using(Io.1 hp).1
    have hdi:d[i]! =p:=by rw[io (by simpa using hil)] at hp;rw[Xw d i hil];simpa using hp
    have hj3:j<3:=(Io.1 hj).1;have e:(flatK cu 3 d)[i*3+j]! =(cu p)[j]! :=by rw[Go.Sort.get_flatK _ _ _ _ (by omega),show(i*3+j)/3=i from by omega,show(i*3+j)%3=j from by omega,hdi]
    show Rd _ w ((flatK cu 3 d)[i*3+j]!) dd;rw[e];have:j=0∨j=1∨j=2:=by omega
    rcases this with rfl|rfl|rfl<;>(cases hj;exact .x _)
 rw[hl] at hsl;cases hB with
 | ip blk off cs c hbB hc hm hr=>
   have h0:Rd m w (c 0) (.x (.slice (some ⟨bk,0,none⟩) N cap)):=hr 0 _ rfl;have hc0:=Rd.x_iff.1 h0;refine .ip Bk 0 _ c hbB (fun k hk=>hc k hk) (fun fr hf=>by cases hf) (fun k dd hk=>?_);cases k with
   |zero=>cases hk;rw[hc0];exact hsl
   |succ k=>simp at hk
section
variable {G:Nat->V} {bk Bk N cap:Nat}
theorem Lb (hcap:N<=cap) (hG:G Bk= .ip [.x (.slice (some ⟨bk,0,none⟩) N cap)]):FunXV G bk 56 [.pointer (some ⟨Bk,0,none⟩)] (FE en2 (GLess N)):=by
 intro m w vs us bs gs' hs r outs hF hargs hnd hhnd hj hg;obtain⟨⟨i,j,d⟩,hus,hGl⟩:=aZ hF;subst hus;unfold GLess at hGl;obtain⟨⟨hi,hjj,hd⟩,hGl⟩:=bv hGl;simp only at hi hjj hd;cases hGl;obtain⟨v1,v2,rfl⟩:=xx hargs;simp only[en2] at hargs;cases hargs with
 | dat hr1 hd1 h1=>
   cases h1 with
   | dat hr2 hd2 h2=>
     cases h2 with
     |dat hr3 hd3 h3=>cases hd3
     | bx hb hK h3=>
       cases h3;cases hr1;cases hr2;have hB:Rd m w (.pointer (some ⟨Bk,0,none⟩)) (.ip [.x (.slice (some ⟨bk,0,none⟩) N cap)]):=by have:=hg Bk;have e:(dB G (fun _ _=>none) 0).G Bk= .ip [.x (.slice (some ⟨bk,0,none⟩) N cap)]:=hG;rw[e] at this;exact this
       have hip:=zo hb hd hcap hB;obtain⟨p,hp⟩:∃p,d.toList[i]?=some p:=⟨_,io (by simpa using(show i<d.size by omega))⟩;obtain⟨q,hq⟩:∃q,d.toList[j]?=some q:=⟨_,io (by simpa using(show j<d.size by omega))⟩;have hat:∀(k:Nat) (p:C3),k<d.size->d.toList[k]?=some p->d[k]! =p:=fun k p hk h=>by rw[io (by simpa using hk)] at h;rw[Xw d k hk];simpa using h
       have hpe:=hat i p (by omega) hp;have hqe:=hat j q (by omega) hq;have hFL:Jn [.x (.int .i64 (i:Int)),.x (.int .i64 (j:Int)),.ip [.sl false 3 (d.toList.map aa) none]]=some (.x (.bool (ac d[i]! d[j]!))):=by rw[hpe,hqe,zn];simp only[Jn,ca hp,ca hq,bg];rw[Va ⟨by omega,by omega⟩]
       have hcalls:=Fe.2 (fun _=>none) w #[.int .i64 (i:Int),.int .i64 (j:Int),.pointer (some ⟨Bk,0,none⟩)] _ _ hFL rfl ⟨.x _,.x _,hip,trivial⟩ hj (fun g=> .undef _);refine .inl ⟨Fe.1 _ _,?_⟩;refine hcalls.mono ?_;rintro e w' ⟨v,m',rfl,hv,hbel,_⟩;cases hv;have hblk:bk<w.heap.size:=by obtain⟨_,_,_,_,_,hhb,_⟩:=hb;exact ae hhb
       have hbx:BoxAt m w' bk (az d):=by obtain⟨hlim,vals,ty,xs,rest,hh,hv,hr⟩:=hb;rw[cM] at hr;have hx:=mo hr;subst hx;exact⟨hlim,vals,ty,_,rest,(hbel.block bk hblk).trans hh,hv,by rw[cM];exact kj _⟩
       exact⟨_,rfl,m,.x _,⟨hbel.os,hbel.tape,hbel.output,hbel.size,fun k hk _=>hbel.block k hk⟩,Ext.of_below hbel (fun _ _=>rfl),fun _ _ _=>rfl,⟨[az d],[],by simp,⟨hbx,trivial⟩,trivial⟩,fun sz es k e=>by cases e⟩
end
noncomputable def eU:TypeInfo:=(Tryz.prog.info? 24).get (by kernel_rfl)
noncomputable def fQ:TypeInfo:=(Tryz.prog.info? 32).get (by kernel_rfl)
theorem QO (n:Nat) (h:2<=n):Lib.swapperK n eU 25=9:=by
 have a:eU.hasPointers=true:=by kernel_rfl
 have b:eU.bytes=32:=by kernel_rfl
 have c:(n==0)=false:=by simp;omega
 have d:(n==1)=false:=by simp;omega
 simp[Lib.swapperK,a,b,c,d]
variable {tyB:TypeId} {frB:Nat×Nat}
theorem Qn {blk:Nat} (hh:w.heap[blk]?=some (.cells cur ty (0,0))) (hcur:∃rest,cur.toList=d.toList.flatMap cu++rest) {vals:Array Value} (hB:w.heap[Bk]?=some (.cells vals tyB frB)) (hB0:vals[0]?=some (.slice (some ⟨blk,0,none⟩) d.size cap)) (hne:Bk≠blk) (hcap:d.size<=cap) (hN:d.size<=MX) (hK:eu<=blk) (hj:(au []).J w):
 Calls Tryz.prog 48 #[.iface 32 (.slice (some ⟨blk,0,none⟩) d.size cap),.func (.func 56) #[] #[.pointer (some ⟨Bk,0,none⟩)]] w fun e w'=>e= .returned (.tuple #[])∧∃d':Array C3,PermIn 0 d.size d d'∧SortedIn ac 0 d.size d'∧Bel [blk] w w'∧∃m',BoxAt m' w' blk (az d'):=by
 have hi:Tryz.prog.info? 32=some fQ:=by kernel_rfl
 have hdd:fQ.desc= .slice 24:=by kernel_rfl
 have hie:Tryz.prog.info? 24=some eU:=by kernel_rfl
 have hke:∀w,(Extern.Rtype.kind 24).run Tryz.prog w= .ok 25 w:=fun _=>by kernel_rfl
 obtain⟨rest,hcur⟩:=hcur;have hN1:d.size<=1000000:=hN;let m:Lim:=fun b=>if b=blk then some 0 else none
 have hbx:∀w2:World,w2.heap[blk]?=w.heap[blk]?->BoxAt m w2 blk (az d):=fun w2 e=>⟨Va rfl,cur,.plain ty,_,rest,e.trans hh,hcur,by rw[cM];exact kj _⟩
 have hblk:=ae hh;have hBk:=ae hB;by_cases h2:2<=d.size
 . let G:Nat->V:=fun b=>if b=Bk then .ip [.x (.slice (some ⟨blk,0,none⟩) d.size cap)] else .undef
   have hG:G Bk= .ip [.x (.slice (some ⟨blk,0,none⟩) d.size cap)]:=Va rfl;have hx:∀args W,(callFunc 100 args).run Tryz.prog W=((Extern.ReflectliteSwapper.swap false args).run Tryz.prog W).andThen fun v w'=> .ok (.value v) w':=fun args W=>run_callFunc_extern Tryz.func100 (by kernel_rfl) (by kernel_rfl) (by kernel_rfl) (e:=Extern.ReflectliteSwapper.swap false) (by kernel_rfl) args W
   have hsw:=swapSwapsK_of_literal (P:=Tryz.prog) false 100 hx 24 eU hie cu 3 (fun _=>rfl) (by kernel_rfl) (fun _=>by kernel_rfl) (fun p v hv=>by simp only[cu,Vf,WK,X8] at hv;rcases hv with rfl|rfl|rfl<;>rfl) blk 0 d.size cap
   have hS:SoOK G blk d.size 56 100 #[.pointer (some ⟨Bk,0,none⟩)] #[.slice (some ⟨blk,0,none⟩) d.size cap,typeHandle Tryz.prog 24]:=⟨by simp,by simp,by decide,hN,Lb hcap hG,Fd hsw⟩;have hP:=Jl hS (Jm hN hsw) (d.size+1);refine Any.sort_Slice_of_pdq (P:=Tryz.prog) (ρ:=Tryz.laysGg6_ren) Tryz.laysGg6 32 24 fQ eU hi hdd (by kernel_rfl) hie 25 hke (some ⟨blk,0,none⟩) d.size cap (by unfold MX at hN;omega) 100 (by rw[QO _ h2];kernel_rfl) (.func 56) #[] #[.pointer (some ⟨Bk,0,none⟩)] w _ ?_;have hsb:sliceBound Tryz.prog 24 eU 25 (some ⟨blk,0,none⟩) d.size cap= #[.slice (some ⟨blk,0,none⟩) d.size cap,typeHandle Tryz.prog 24]:=by unfold sliceBound;rw[QO _ h2];rfl
   rw[hsb];generalize hW:sliceWorld Tryz.prog Tryz.laysGg6_ren 32 (some ⟨blk,0,none⟩) d.size cap w=W;have hbel:Below w.heap.size w W:=by rw[<-hW];unfold sliceWorld;exact((Below.refl _ w).alloc (Vb _) _).alloc (by simp) _
   have hjW:(au []).J W:=Glob.low hj hbel.size ⟨hbel.os,hbel.tape,hbel.output,hbel.size,fun k hk=>hbel.block k (VD hk (Glob.high hj))⟩;have hb:=hbx W (hbel.block blk hblk);have hl62:Lib.bitLen d.size<=62:=Lib.bitLen_le d.size 62 (by omega) (by omega);have hF:=qY (g:=56) (sf:=100) (gl:= #[.pointer (some ⟨Bk,0,none⟩)]) (gs:= #[.slice (some ⟨blk,0,none⟩) d.size cap,typeHandle Tryz.prog 24]) (N:=d.size) (d.size+1) 0 d.size (Lib.bitLen d.size) d (by omega) (by omega) (Vb _) (by omega) rfl (.inl rfl)
   have hargs:ArgsP m W eu [.agg #[.func (.func 56) #[] #[.pointer (some ⟨Bk,0,none⟩)],.func (.func 100) #[] #[.slice (some ⟨blk,0,none⟩) d.size cap,typeHandle Tryz.prog 24]],.int .i64 ((0:Nat):Int),.int .i64 (d.size:Int),.int .i64 (Lib.bitLen d.size:Int),.pointer (some ⟨blk,0,none⟩)] [dJ 56 100 #[.pointer (some ⟨Bk,0,none⟩)] #[.slice (some ⟨blk,0,none⟩) d.size cap,typeHandle Tryz.prog 24],.x (.int .i64 ((0:Nat):Int)),.x (.int .i64 (d.size:Int)),.x (.int .i64 (Lib.bitLen d.size:Int)),.bx (az d)] [blk] [] []:=
    .dat (Rd.agg_iff.2 ⟨_,rfl,.x _,.x _,trivial⟩) rfl (.dat (.x _) rfl (.dat (.x _) rfl (.dat (.x _) rfl (.bx hb hK .nil))))
   have hgl:∀g,Rd m W (.pointer (some ⟨g,0,none⟩)) (G g):=fun b=>by
    show Rd m W _ (if b=Bk then _ else _);split
    . rename_i e;subst e;have hBW:=(hbel.block b hBk).trans hB;refine .ip b 0 _ (fun _=> .slice (some ⟨blk,0,none⟩) d.size cap) (ae hBW) (fun k hk=>?_) (fun fr hf=>?_) (fun k dd hk=>?_)
      . have:k=0:=by simpa using hk
        subst this;rw[Box.cell hBW];exact hB0
      . have:m b=none:=Vh hne;rw[this] at hf;cases hf
      . cases k with
        |zero=>cases hk;exact .x _
        |succ k=>simp at hk
    . exact .undef _
   rcases hP m W #[.agg #[.func (.func 56) #[] #[.pointer (some ⟨Bk,0,none⟩)],.func (.func 100) #[] #[.slice (some ⟨blk,0,none⟩) d.size cap,typeHandle Tryz.prog 24]],.int .i64 ((0:Nat):Int),.int .i64 (d.size:Int),.int .i64 (Lib.bitLen d.size:Int)] _ [blk] [] [] _ _ hF hargs (by simp) (by simp) hjW hgl with⟨_,hc⟩|⟨v,w',he,_⟩
   . rw[show ∀a:Array Value,a++(⟨[]⟩:Array Value)=a from fun a=>Xt] at hc;refine hc.mono ?_;rintro e w' ⟨v,rfl,m',hv,hb2,_,_,⟨o1,o2,ho,hou,_⟩,_⟩;have hs:=Go.Sort.pdq_sorts ac fP d 0 d.size (Lib.bitLen d.size) true true (VJ _) (Vb _) (.inl rfl);have hvt:v= .tuple #[]:=by obtain⟨cs,rfl,hcs⟩:=Rd.tup_iff.1 hv;have:=hcs.length;simp only[Vk,VB] at this;rw[Wf this]
     subst hvt;refine⟨rfl,_,hs.1,hs.2,⟨hb2.os.trans hbel.os,hb2.tape.trans hbel.tape,hb2.output.trans hbel.output,VA hbel.size hb2.size,fun k hk hn=>(hb2.block k (VD hk hbel.size) (by simpa using hn)).trans (hbel.block k hk)⟩,m',?_⟩;cases o1 with
     |nil=>exact hou.elim
     |cons c o1=>obtain⟨e,_⟩:=VZ (show[az _]=c::(o1++o2) from ho);rw[e];exact hou.1
   . have he2:=(Tryz.call74 _ _).symm.trans he;cases he2
 . have hz:d.size=0∨d.size=1:=by omega
   have hf:∃f,Tryz.prog.funcs.findIdx? (·.name== "internal/reflectlite" ++ ".Swapper$" ++toString (Lib.swapperK d.size eU 25))=some f:=by
    rcases hz with e|e
    . exact⟨92,by rw[e];kernel_rfl⟩
    . exact⟨93,by rw[e];kernel_rfl⟩
   obtain⟨f,hf⟩:=hf;refine(Any.sort_Slice_tiny (P:=Tryz.prog) (ρ:=Tryz.laysGg6_ren) Tryz.laysGg6 32 24 fQ eU hi hdd (by kernel_rfl) hie 25 hke (some ⟨blk,0,none⟩) d.size cap (by omega) f hf (.func 56) #[] #[.pointer (some ⟨Bk,0,none⟩)] w).mono ?_;rintro e w' ⟨rfl,os,rfl⟩;refine⟨rfl,d,Go.Sort.permIn_refl d _ _,fun i j _ h1 h3=>by omega,⟨rfl,rfl,rfl,by simp[Go.Sort.grow],fun k hk _=>Go.Sort.heap_grow_old _ _ hk⟩,m,hbx _ (Go.Sort.heap_grow_old _ _ hblk)⟩
theorem Qo:Calls Tryz.prog 48 #[.iface 32 (.slice none 0 0),.func (.func 56) #[] #[.pointer (some ⟨Bk,0,none⟩)]] w fun e w'=>e= .returned (.tuple #[])∧∃os,w'=Go.Sort.grow w os:=by
 have hi:Tryz.prog.info? 32=some fQ:=by kernel_rfl
 have hdd:fQ.desc= .slice 24:=by kernel_rfl
 have hie:Tryz.prog.info? 24=some eU:=by kernel_rfl
 have hke:∀w,(Extern.Rtype.kind 24).run Tryz.prog w= .ok 25 w:=fun _=>by kernel_rfl
 exact Any.sort_Slice_tiny (P:=Tryz.prog) (ρ:=Tryz.laysGg6_ren) Tryz.laysGg6 32 24 fQ eU hi hdd (by kernel_rfl) hie 25 hke none 0 0 (by omega) 92 (by kernel_rfl) (.func 56) #[] #[.pointer (some ⟨Bk,0,none⟩)] w
theorem Ff {m0:Lim} (hb:BoxAt m0 w bk (az d)) (hcap:d.size<=cap) (m:Lim) (hm:m bk=none):Rd m w (.slice (some ⟨bk,0,none⟩) d.size cap) (.sl false 3 (d.toList.map aa) none):=by
 have hH:=jA hb;have hblk:bk<w.heap.size:=by obtain⟨_,_,_,_,_,hhb,_⟩:=hb;exact ae hhb
 have hlen:(flatK cu 3 d).size=d.size*3:=by simp[flatK]
 have hl:(d.toList.map aa).length=d.size:=by simp
 have hsl:Rd m w (.slice (some ⟨bk,0,none⟩) (d.toList.map aa).length cap) (.sl false 3 (d.toList.map aa) none):=by
  refine .sl bk 0 cap 3 _ none (fun k=>(flatK cu 3 d)[k]!) hblk (by omega) (fun i e he=>?_) (fun k hk=>?_) (fun fr hf=>by rw[hm] at hf;cases hf) (fun i e he j dd hj=>?_)
  . rw[U5] at he;obtain⟨p,_,rfl⟩:=U9.1 he;rfl
  . exact(hH k (by rw[hlen];simp at hk;omega)).1
  . rw[U5] at he;obtain⟨p,hp,rfl⟩:=U9.1 he;have hil:i<d.size:=by simpa using(Io.1 hp).1
    have hdi:d[i]! =p:=by rw[io (by simpa using hil)] at hp;rw[Xw d i hil];simpa using hp
    have hj3:j<3:=(Io.1 hj).1;have e:(flatK cu 3 d)[i*3+j]! =(cu p)[j]! :=by rw[Go.Sort.get_flatK _ _ _ _ (by omega),show(i*3+j)/3=i from by omega,show(i*3+j)%3=j from by omega,hdi]
    show Rd _ w ((flatK cu 3 d)[i*3+j]!) dd;rw[e];have:j=0∨j=1∨j=2:=by omega
    rcases this with rfl|rfl|rfl<;>(cases hj;exact .x _)
 rw[hl] at hsl;exact hsl
open Go.Sort (PermIn SortedIn)
def fX:List V->R2
 |[.agg [.x (.string a),.x (.int _ b),.x (.int _ c),.x (.string d),.x (.int _ e),.x (.int _ f)]]=>((a,b,c),(d,e,f))
 |_=>((⟨#[]⟩,0,0),(⟨#[]⟩,0,0))
theorem qZ (q:R2):fX [rgV q]=q:=rfl
def fb (q:R2):List C3:=(da q.1.1 q.1.2.1 q.1.2.2 q.2.1 q.2.2.1 q.2.2.2).getD []
def ra (S:List R2×List C3) (q:R2):List R2×List C3:=if zj S.1 q=true then S else (bz S.1 q,(fb q).foldl bz S.2)
def jB (pre:List (List V)):List R2×List C3:=pre.foldl (fun S x=>ra S (fX x)) ([],[])
theorem Fg (pre:List (List V)) (q:R2):jB (pre++[[rgV q]])=ra (jB pre) q:=by simp[jB,qZ]
variable {α:Type}
theorem om [DecidableEq α] (l:List α):∀(L:List α) (x:α),x∈l.foldl bz L↔x∈L∨x∈l:=by
 induction l with
 |nil=>intro L x;simp
 |cons y l ih=>intro L x;rw[Wc,ih,oj,Vf,or_assoc]
theorem xy [DecidableEq α] (l:List α):∀(L:List α),L.Nodup->(l.foldl bz L).Nodup:=by
 induction l with
 |nil=>exact fun L h=>h
 |cons y l ih=>exact fun L h=>ih _ (ol h)
theorem Fh [DecidableEq α] (l:List α):∀(L:List α),(l.foldl bz L).length<=L.length+l.length:=by
 induction l with
 |nil=>intro L;simp
 |cons y l ih=>intro L;have h1:=ih (bz L y);have h2:=E6 L y;rw[Wc,U3];omega
theorem oo (q:R2):(fb q).length<=400:=by
 unfold fb da;split
 . rename_i h;rw[V8,cR];obtain⟨_,_,_,hc,hr⟩:=ij.1 h.1;have h2:=h.2;unfold b9 at h2;obtain⟨x,hx⟩:=V5 (show 0<=q.2.2.1-q.1.2.1+1 by omega);obtain⟨y,hy⟩:=V5 (show 0<=q.2.2.2-q.1.2.2+1 by omega);rw[hx,hy] at h2⊢;rw[U2,U2,Xm];omega
 . simp
theorem Iq (pre:List (List V)) (q:R2):q∈(jB pre).1↔∃x∈pre,fX x=q:=by
 have key:∀(l:List (List V)) (S:List R2×List C3),q∈(l.foldl (fun S x=>ra S (fX x)) S).1↔q∈S.1∨∃x∈l,fX x=q:=by
  intro l
  induction l with
  |nil=>intro S;simp
  | cons x l ih=>
    intro S;have h1:q∈(ra S (fX x)).1↔q∈S.1∨fX x=q:=by
     unfold ra;split
     . rename_i h;exact⟨.inl,fun e=>e.elim id (fun e=>e▸qX.1 h)⟩
     . exact oj.trans (or_congr XY eq_comm)
    rw[Wc,ih,h1];simp only[Vf,exists_eq_or_imp,or_assoc]
 rw[jB,key];simp
theorem Ir (pre:List (List V)) (p:C3):p∈(jB pre).2↔∃x∈pre,p∈fb (fX x):=by
 have key:∀(l:List (List V)) (S:List R2×List C3),(∀q∈S.1,∀p∈fb q,p∈S.2)->(p∈(l.foldl (fun S x=>ra S (fX x)) S).2↔p∈S.2∨∃x∈l,p∈fb (fX x)):=by
  intro l
  induction l with
  |nil=>intro S _;simp
  | cons x l ih=>
    intro S hS;have h1:p∈(ra S (fX x)).2↔p∈S.2∨p∈fb (fX x):=by
     unfold ra;split
     . rename_i h;exact⟨.inl,fun e=>e.elim id (hS _ (qX.1 h) p)⟩
     . exact om _ _ _
    have h2:∀q∈(ra S (fX x)).1,∀p∈fb q,p∈(ra S (fX x)).2:=by
     unfold ra;split
     . exact hS
     . intro q hq p hp;rcases oj.1 hq with hq|hq
       . exact(om _ _ _).2 (.inl (hS q hq p hp))
       . exact(om _ _ _).2 (.inr (hq▸hp))
    rw[Wc,ih _ h2,h1];simp only[Vf,exists_eq_or_imp,or_assoc]
 rw[jB,key _ _ (fun q hq=>by cases hq)];simp
theorem um (pre:List (List V)):(jB pre).1.Nodup∧(jB pre).2.Nodup:=by
 have key:∀(l:List (List V)) (S:List R2×List C3),S.1.Nodup->S.2.Nodup->(l.foldl (fun S x=>ra S (fX x)) S).1.Nodup∧(l.foldl (fun S x=>ra S (fX x)) S).2.Nodup:=by
  intro l
  induction l with
  |nil=>exact fun S h1 h2=>⟨h1,h2⟩
  | cons x l ih=>
    intro S h1 h2;rw[Wc];refine ih _ ?_ ?_
    . unfold ra;split
      . exact h1
      . exact ol h1
    . unfold ra;split
      . exact h2
      . exact xy _ _ h2
 exact key pre _ VV VV
theorem Is (pre:List (List V)):(jB pre).2.length<=400*(jB pre).1.length:=by
 have key:∀(l:List (List V)) (S:List R2×List C3),S.2.length<=400*S.1.length->(l.foldl (fun S x=>ra S (fX x)) S).2.length<=400*(l.foldl (fun S x=>ra S (fX x)) S).1.length:=by
  intro l
  induction l with
  |nil=>exact fun S h=>h
  | cons x l ih=>
    intro S h;rw[Wc];refine ih _ ?_;unfold ra;split
    . exact h
    . rename_i hn;have h1:=Fh (fb (fX x)) S.2;have h2:=oo (fX x);have h3:(bz S.1 (fX x)).length=S.1.length+1:=by
       have hn2: ¬fX x∈S.1:=fun h=>hn (qX.2 h)
       unfold bz;rw[Vh hn2];simp
      simp only[h3];omega
 exact key pre _ (by simp)
variable {nd:Nd} {xs:List (List V)}
theorem BT (h:KL nd xs) (q:R2) (hq:q∈(jB xs).1):q∈allN nd:=by obtain⟨x,hx,rfl⟩:=(Iq xs q).1 hq;obtain⟨q',hq',rfl⟩:=h x hx;exact hq'
theorem Lc (h:KL nd xs) (h4:jF nd<=400):(jB xs).1.length<=400∧(jB xs).2.length<=160000:=by have h1:=dY (l':=allN nd) (um xs).1 (fun q hq=>BT h q hq);have h2:=uj nd;have h3:=Is xs;omega
theorem Ld (h:EF nd xs) (p:C3):p∈(jB xs).2↔∃q∈allN nd,Cy p q=true:=by
 rw[Ir];constructor
 . rintro⟨x,hx,hp⟩;obtain⟨q,hq,rfl⟩:=h.1 x hx;rw[qZ] at hp;exact⟨q,hq,((lF p).1 hp).2⟩
 . rintro⟨q,hq,hi⟩;refine⟨_,h.2 q hq,?_⟩;rw[qZ];exact(lF p).2 ⟨EK nd q hq,hi⟩
theorem Fi (hp:PermIn 0 d.size d d') (hs:SortedIn ac 0 d.size d') (hn:d.toList.Nodup):fp ac d'.toList∧d'.toList.Perm d.toList:=by
 obtain⟨hsz,_,hperm⟩:=hp;have e1:d'.extract 0 d.size=d':=by rw[<-hsz];exact Array.extract_size
 rw[e1,Array.extract_size] at hperm;refine⟨?_,hperm⟩;have hnd:d'.toList.Nodup:=hperm.nodup_iff.2 hn;rw[fp,XG];intro i j hi hj hij;have hi':i<d'.size:=by simpa using hi
 have hj':j<d'.size:=by simpa using hj
 have h1:=hs i j (VJ _) hij (by omega);rw[Xw d' i hi',Xw d' j hj'] at h1;have hne:d'.toList[i]≠d'.toList[j]:=(XG.1 hnd) i j hi hj hij;rw[Array.getElem_toList,Array.getElem_toList] at hne⊢;cases h2:ac d'[i] d'[j] with
 |true=>rfl
 |false=>exact absurd (bH.tri _ _ h2 h1) hne
theorem BU {q:R2} (h:n7 q=true):da q.1.1 q.1.2.1 q.1.2.2 q.2.1 q.2.2.1 q.2.2.2=some (fb q):=by unfold fb da;unfold n7 at h;rw[U6,Vz] at h;rw[Va h];rfl
def OneG (E:Env) (n:Nat) (B:Bs) (st:St) (a:Act) (w:World) (g:Nat) (ob:Obj) (lg:Option Nat):Prop:=
 ∃m O,Now E n B.D O m st a w∧(∀k,O k->B.Os k∨B.ws.heap.size<=k)∧Step B.Os B.ms B.ws m w∧Marks B.D O B.ws.heap.size w∧B.Kn.P m w∧KeepT B.W B.t0 a.tmps∧ ¬O g∧w.heap[g]?=some ob∧m g=lg
section
variable {E:Env} {n:Nat} {B:Bs} {m:Lim} {w:World} {st:St} {a:Act} {O:Nat->Prop} {r:Option Nat} {g:Nat} {ob:Obj} {lg:Option Nat}
variable {st':St}
theorem OneG.le (h:OneG E n B st a w g ob lg) (hl:Le st' st):OneG E n B st' a w g ob lg:=by obtain⟨m,O,h1,h2⟩:=h;exact⟨m,O,h1.le hl,h2⟩
theorem OneG.one (h:OneG E n B st a w g ob lg):One E n B st a w:=by obtain⟨m,O,h1,h2,h3,h4,h5,h6,_⟩:=h;exact⟨m,O,h1,h2,h3,h4,h5,h6⟩
variable {m':Lim} {w':World}
theorem OneG.grown {a':Act} (h2:∀k,O k->B.Os k∨B.ws.heap.size<=k) (h3:Step B.Os B.ms B.ws m w) (h4:Marks B.D O B.ws.heap.size w) (h5:B.Kn.P m w) (hkt:KeepT B.W B.t0 a'.tmps) (h7: ¬O g) (h8:w.heap[g]?=some ob) (h9:m g=lg)
 (hn:Now E n B.D (tu O w w') m' st' a' w') (hs:Step O m w m' w'):OneG E n B st' a' w' g ob lg:=by
 obtain⟨m2,O2,q1,q2,q3,q4,q5,q6⟩:=One.grown h2 h3 h4 h5 hkt hn hs;have hg:=hs.same g (ae h8) h7;refine⟨m',tu O w w',hn,fun k hg=>?_,h3.next hs (fun i hi ho=>(h2 i ho).resolve_right (XO.2 hi)),⟨h4.nd,fun d hd=>?_⟩,B.Kn.mono _ _ _ _ h5 hs.ext,hkt,fun hgr=>?_,hg.1.trans h8,hg.2.trans h9⟩
 . rcases hg.2 with hg|hg
   . exact h2 k hg
   . exact .inr (VA h3.ext.size hg)
 . obtain⟨b,rfl,q1,q2,q3⟩:=h4.is d hd;refine⟨b,rfl,q1,(hs.same b (ae q2) q3).1.trans q2,fun hg=>?_⟩;rcases hg.2 with hg|hg
   . exact q3 hg
   . exact absurd (ae q2) (VI.2 hg)
 . rcases hgr.2 with hg|hg
   . exact h7 hg
   . exact absurd (ae h8) (VI.2 hg)
theorem un (hE:EnvOK E) {ops:List Oper} {Q:Exit->Act->World->Prop} (ts:List (Nat×V)) (bs:List (Nat×List V)) (rest:List Nat):∀(l:List Oper) (is:List Nat) (st:St) (a:Act) (w:World),(is.map fun i=>ops[i]?)=l.map some->bt n l=true->l4 B.W l=true->l4 B.W ops=true->
 OneG E n B st a w g ob lg->(br E ⟨ops⟩ l st fun st'=>gY st' ts∧gE st' bs)->(∀a' w',OneG E n B (aq ts bs) a' w' g ob lg->wpOpsIn (be r) 0 E.P ⟨ops⟩ Q rest a' w')->wpOpsIn (be r) 0 E.P ⟨ops⟩ Q (is++rest) a w
 |[],[],st,a,w,_,_,_,_,h,hr,hK=>hK a w (h.le (aK hr.1 hr.2))
 |[],i::is,st,a,w,hi,_,_,_,h,hr,hK=>by simp at hi
 |o::l,[],st,a,w,hi,_,_,_,h,hr,hK=>by simp at hi
 | o ::l,i::is,st,a,w,hi,hd,hW,hWo,h,hr,hK=>by
   rw[VN,wpOpsIn_cons];simp only[VC,VE] at hi;obtain⟨st',hs,hl,hb⟩:=cD _ _ hr;unfold eg at hs;split at hs
   . rename_i st1 h1;obtain⟨m,O,q1,q2,q3,q4,q5,q6,q7,q8,q9⟩:=h;have hlt:=q1.lt;obtain⟨b,β,hrel⟩:=q1.rel;have hi1:(⟨ops⟩:Array Oper)[i]?=some o:=by simpa using hi.1
     have hwp:wpOpIn (be r) 0 E.P ⟨ops⟩ Q i (fun a' w'=>OneG E n B st1 a' w' g ob lg∨(∃m' β',Rel E n ⟨lst O w.heap.size,b,lst O w.heap.size,B.D⟩ m w m' β' st1 a' w')) a w:=cP (hE.x (.inr (fun _ h=>h))) hrel hi1 (dy hd (by simp)) h1 (fun a' w' m' β' hr'=> .inr ⟨m',β',hr'⟩);have hkeep:=dV (W:=B.W) (t:=B.t0) (by simpa using hWo) q6 (K':=fun a' w'=>OneG E n B st1 a' w' g ob lg) (fun a' w' hK' hkt=>by
      rcases hK' with hK'|⟨m',β',hr'⟩
      . exact hK'
      . obtain⟨hn,hst⟩:=Now.of_rel hE hlt hr';exact OneG.grown q2 q3 q4 q5 hkt q7 q8 q9 hn hst) hwp
     have hWl:l4 B.W l=true:=by simp only[l4,VY,U6] at hW;exact hW.2
     have hdl:bt n l=true:=by simp only[bt,VY,U6] at hd;exact hd.2
     exact gd (fun a' w' h'=>un hE ts bs rest l is st1 a' w' hi.2 hdl hWl hWo h' (fI _ _ hs ⟨hl,hb⟩) hK) (fun e a' w' h'=>h'.1) hkeep
   . cases hs
theorem gh (hE:EnvOK E) {ops:List Oper} {Q:Exit->Act->World->Prop} (k j:Nat) (ts:List (Nat×V)) (bs:List (Nat×List V)) (rest:List Nat) (hl:k+j<=ops.length) (hd:bt n ((ops.drop k).take j)=true) (hW:l4 B.W ops=true)
 (h:OneG E n B st a w g ob lg) (hr:br E ⟨ops⟩ ((ops.drop k).take j) st fun st'=>gY st' ts∧gE st' bs) (hK:∀a' w',OneG E n B (aq ts bs) a' w' g ob lg->wpOpsIn (be r) 0 E.P ⟨ops⟩ Q rest a' w'):wpOpsIn (be r) 0 E.P ⟨ops⟩ Q (List.range' k j++rest) a w:=
 un hE ts bs rest _ _ st a w (gG ops k j hl) hd (U8.2 (fun o ho=>U8.1 hW o (XC (Xg ho)))) hW h hr hK
variable {ops:List Oper} {Q:Exit->Act->World->Prop} {i:Nat} {rest:List Nat} {o:Oper}
theorem i8 {d:Tmp} (hi:ops[i]?=some o) (hdef:∀c,o.op≠ .defer c) (hd:o.dst=some d) (hdn:d<n) (hWd:B.W d=true) (hg:o.guard=none) (h:OneG E n B st a w g ob lg) (v:Value) (hrun:(execOp a.eval o).run E.P w= .ok (.value v) w)
 (hK:∀a',OneG E n B (st.put (some d) (.x v)) a' w g ob lg->a'=a.put (some d) v->wpOpsIn (be none) 0 E.P ⟨ops⟩ Q rest a' w):wpOpsIn (be none) 0 E.P ⟨ops⟩ Q (i::rest) a w:=by
 obtain⟨m,O,q1,q2,q3,q4,q5,q6,q7,q8,q9⟩:=h;rw[wpOpsIn_cons];unfold wpOpIn;have hi':(⟨ops⟩:Array Oper)[i]?=some o:=by simpa using hi
 rw[hi'];simp only;rw[Va (by unfold Region.wanted;rw[hg])];refine⟨fun _ _=>trivial,?_⟩;rw[Oper.semAt_eq _ _ _ hdef,hrun];show wpOpsIn (be none) 0 E.P ⟨ops⟩ Q rest (a.put o.dst v) w;rw[hd];have hp:=q1.put hdn (v:=v) (u:= .x v) (.x _);rw[dP] at hp;exact hK _ ⟨m,O,hp,q2,q3,q4,q5,q6.put (fun k e=>by cases e;exact hWd),q7,q8,q9⟩ rfl
theorem rb {d:Tmp} (hi:ops[i]?=some o) (hdef:∀c,o.op≠ .defer c) (hd:o.dst=some d) (hdn:d<n) (hWd:B.W d=true) (hg:o.guard=none) (h:One E n B st a w) (v:Value) (hrun:(execOp a.eval o).run E.P w= .ok (.value v) w)
 (hK:∀a',One E n B (st.put (some d) (.x v)) a' w->a'=a.put (some d) v->wpOpsIn (be none) 0 E.P ⟨ops⟩ Q rest a' w):wpOpsIn (be none) 0 E.P ⟨ops⟩ Q (i::rest) a w:=by
 obtain⟨m,O,q1,q2,q3,q4,q5,q6⟩:=h;rw[wpOpsIn_cons];unfold wpOpIn;have hi':(⟨ops⟩:Array Oper)[i]?=some o:=by simpa using hi
 rw[hi'];simp only;rw[Va (by unfold Region.wanted;rw[hg])];refine⟨fun _ _=>trivial,?_⟩;rw[Oper.semAt_eq _ _ _ hdef,hrun];show wpOpsIn (be none) 0 E.P ⟨ops⟩ Q rest (a.put o.dst v) w;rw[hd];have hp:=q1.put hdn (v:=v) (u:= .x v) (.x _);rw[dP] at hp;exact hK _ ⟨m,O,hp,q2,q3,q4,q5,q6.put (fun k e=>by cases e;exact hWd)⟩ rfl
theorem One.putU {d:Tmp} (hd:d<n) (hWd:B.W d=true) (h:One E n B st a w) (v:Value):One E n B (st.put (some d) .undef) (a.put (some d) v) w:=by obtain⟨m,O,q1,q2,q3,q4,q5,q6⟩:=h;have hp:=q1.put hd (v:=v) (u:= .undef) (.undef _);rw[ey] at hp;exact⟨m,O,hp,q2,q3,q4,q5,q6.put (fun k e=>by cases e;exact hWd)⟩
theorem Now.box_at {D:List Deferred} (h:Now E n D O m st a w) {i s:Nat} {v:Value} (hi:st.t i= .ptr s 0) (hb:st.b s=some [.x v]):∃b vals ty fr,a.tmps.getD i Go.undef= .pointer (some ⟨b,0,none⟩)∧w.heap[b]?=some (.cells vals ty fr)∧vals[0]?=some v∧O b:=by
 obtain⟨⟨c,β,hr⟩,hlt⟩:=h;have ht:=hr.tmps i;rw[hi] at ht;obtain⟨⟨_,vals,ty,xs,rest,hh,hv,hrd⟩,hge⟩:=hr.boxes s _ hb;refine⟨β s,vals,ty.ty,ty.fz,ht.ptr,hh,?_,?_⟩
 . have hx:xs=[v]:=mo (l:=[v]) hrd;rw[<-Vm,hv,hx];rfl
 . rcases hge with hge|hge
   . exact absurd (ae hh) (VI.2 hge)
   . exact(ba.1 hge).2
theorem OneG.after {Kn':Kno} {d:Tmp} (hd:d<n) {v:Value} (h1:Now E n B.D O m st a w) (h2:∀k,O k->B.Os k∨B.ws.heap.size<=k) (h3:Step B.Os B.ms B.ws m w) (h4:Marks B.D O B.ws.heap.size w) (h6:KeepT B.W B.t0 a.tmps) (hWd:B.W d=true) (hs:Step (fun _=>False) m w m' w') (hJ:E.J w') (hk:Kn'.P (aD m' g (some 0)) w') (hg:w.heap.size<=g) (hh:w'.heap[g]?=some ob):
 OneG E n {B with Kn:=Kn'} (st.put (some d) (.x v)) (a.put (some d) v) w' g ob (some 0):=by
 have hs':Step (fun _=>False) m w (aD m' g (some 0)) w':=⟨hs.os,hs.tape,hs.output,⟨hs.ext.size,hs.ext.cell,fun b hb fr' hf=>by rw[ah _ _ (by omega)] at hf;exact hs.ext.lim b hb fr' hf,hs.ext.map⟩,fun k hk hn=>⟨(hs.same k hk hn).1,by rw[ah _ _ (by omega)];exact(hs.same k hk hn).2⟩⟩
 have hp:=(h1.other hs' (fun _ _ h=>h) hJ).put hd (v:=v) (u:= .x v) (.x _);rw[dP] at hp;refine⟨_,O,hp,h2,h3.next hs' (fun _ _ h=>h.elim),⟨h4.nd,fun x hx=>?_⟩,hk,h6.put (fun k e=>by cases e;exact hWd),fun ho=>absurd (h1.lt g ho) (by omega),hh,ai _ _ _⟩;obtain⟨b,rfl,q1,q2,q3⟩:=h4.is x hx;exact⟨b,rfl,q1,(hs.same b (ae q2) (fun h=>h)).1.trans q2,q3⟩
variable {l:List C3}
theorem Fj {es:List V} {tok:Option Nat} {len:Nat} (hes:es=l.map aa) (h:Rd m w (.slice (some ⟨g,0,none⟩) len cap) (.sl false 3 es tok)) (hh:w.heap[g]?=some (.cells cur ty (0,0))):∃rest,cur.toList=l.flatMap cu++rest:=by
 cases h with
 | emp a cap sz=>
   cases l with
   |nil=>exact⟨cur.toList,rfl⟩
   |cons p l=>cases hes
 | sl blk off cap sz es tok c hb hcap hsz hc hm hr=>
   subst hes;rw[eq] at hc;refine⟨cur.toList.drop (l.length*3),?_⟩;have e:cur.toList.take (l.length*3)=l.flatMap cu:=by
    apply Wb;intro t;rw[mM,VR];by_cases ht:t<l.length*3
    . rw[Va ht,Vm];have h1:=hc t ht;rw[Vt,Box.cell hh] at h1;have hl:t/3<l.length:=by omega
      have h2:=hr (t/3) (aa l[t/3]) (by rw[U5,io hl];rfl) (t%3);rw[show t/3*3+t%3=t from by omega] at h2;rw[h1,io hl,VT];have h3:t%3=0∨t%3=1∨t%3=2:=by omega
      rcases h3 with h3|h3|h3<;>
      . rw[h3] at h2⊢;have h4:=h2 _ rfl;rw[Rd.x_iff.1 h4];rfl
    . rw[Vh ht,Vx (by omega)];rfl
   rw[<-e,W2]
theorem OneG.done (hE:EnvOK E) {w':World} {v:Value} {u:V} (h:OneG E n B st a w g (ob) (some 0)) (hcell:∃vals ty fr,ob= .cells vals ty fr) (hgs:B.ws.heap.size<=g) (hK:E.K<=g) (hb:Bel [g] w w') (hv:∀m,m g=none->Rd m w' v u):One E n {B with Kn:=Kno.rd v u} st a w':=by
 obtain⟨m,O,q1,q2,q3,q4,q5,q6,q7,q8,q9⟩:=h;have hs:Step (fun k=>k=g) m w (aD m g none) w':=by
  refine⟨hb.os,hb.tape,hb.output,⟨hb.size,fun b off v hlt hm hc=>?_,fun b hlt fr' hf=>?_,fun b es c hm hc=>(hb.block b (dO hc) (by intro e;rw[Vo.1 e,q9] at hm;cases hm)).trans hc⟩,fun k hk hn=>⟨hb.block k hk (by simpa using hn),ah _ _ hn⟩⟩
  . by_cases e:b=g
    . subst e;exact absurd (hm 0 q9) (Xi _)
    . rw[aX (hb.block b hlt (by simpa using e))];exact hc
  . by_cases e:b=g
    . rw[e,ai] at hf;cases hf
    . rw[ah _ _ e] at hf;exact⟨fr',hf,Vb _⟩
 have hJ:E.J w':=hE.keep [g] _ _ (fun x hx=>by rw[Vo.1 hx];exact hK) q1.J hb;refine⟨_,O,q1.other hs (fun k hk e=>q7 (e▸hk)) hJ,q2,q3.next hs (fun i hi e=>absurd hi (VI.2 (e▸hgs))),⟨q4.nd,fun x hx=>?_⟩,hv _ (ai _ _ _),q6⟩;obtain⟨b,rfl,r1,r2,r3⟩:=q4.is x hx;have hne:b≠g:=fun e=>by subst e;obtain⟨vals,ty,fr,rfl⟩:=hcell;rw[r2] at q8;cases q8
 exact⟨b,rfl,r1,(hs.same b (ae r2) hne).1.trans r2,r3⟩
theorem One.know {d:Tmp} {v:Value} {u:V} (hd:d<n) (h:One E n {B with Kn:=Kno.rd v u} st a w) (hv:a.tmps.getD d Go.undef=v) (hu:u.bare=u):One E n {B with Kn:=Kno.rd v u} (st.put (some d) u) a w:=by
 obtain⟨m,O,q1,q2,q3,q4,q5,q6⟩:=h;have hr:Rd m w (a.tmps.getD d Go.undef) u:=by rw[hv];exact q5
 have hp:=q1.put hd hr;rw[nV,hu] at hp;exact⟨m,O,hp,q2,q3,q4,q5,q6⟩
end
variable {l:List C3}
theorem uo {s:ByteArray} {c r:Int} {s':ByteArray} {c' r':Int} (h:da s c r s' c' r'=some l):db [.agg [.x (.string s),.x (.int .i64 c),.x (.int .i64 r),.x (.string s'),.x (.int .i64 c'),.x (.int .i64 r')]]=some (.sl false 3 (l.map aa) none):=by show(match da s c r s' c' r' with|some l=>some (V.sl false 3 (l.map aa) none)|none=>some (V.sl true 0 [] none))=_;rw[h]
theorem xz:bM 28 (FE c9 ek):=by
 have hE:EnvOK (au [(53,db)]):=aM _ ⟨Bp,trivial⟩;have hm:(au [(53,db)]).P.follows .mixedOrders=true:=by kernel_rfl
 refine kh (E:=au [(53,db)]) (n:=45) (k:=1) hE Tryz.func28 rfl (fun a w=>Tryz.call28 a w) Tryz.ntmps28 (by decide) (by decide) ?_;intro us r m w a hF hdat h0;obtain⟨nd,hus,hG⟩:=aZ hF;clear hF;subst hus;unfold ek at hG;obtain⟨h400,hG⟩:=bv hG;cases hG;obtain⟨k,op,nm,vk,vn,vs,cs,cc,cr,ts,tc,tr,ll,nl,sz,hh,hl,hf,hs⟩:=bS nd;replace h0:=h0 rfl;refine⟨rfl,?_⟩;simp only[c9] at h0;rw[hf] at h0;refine wpIn_seq (gH hE hm [(1,.ptr 1 0)] [(1,[.x (.int .i64 k),.x (.string op),.x (.string nm),.x (.int .i64 vk),.x (.int .i64 vn),.x (.string vs),.x (.string cs),.x (.int .i64 cc),.x (.int .i64 cr),.x (.string ts),.x (.int .i64 tc),.x (.int .i64 tr),.sl nl sz (ll.map am) none])] (by kernel_rfl) h0 (by simp +decide (maxDischargeDepth:=200) only[go_sem,Nat.reduceBEq]<;>(repeat' first|rfl|constructor)) ?_);clear h0 a;intro a w1 h1;refine wpIn_seq (wpIn_region ?_);refine y4 hE 0 2 [(1,.ptr 1 0),(3,.ptr 3 0),(11,.mp 11 [] [])] [(1,[.x (.int .i64 k),.x (.string op),.x (.string nm),.x (.int .i64 vk),.x (.int .i64 vn),.x (.string vs),.x (.string cs),.x (.int .i64 cc),.x (.int .i64 cr),.x (.string ts),.x (.int .i64 tc),.x (.int .i64 tr),.sl nl sz (ll.map am) none]),(3,[.x (.map none)])] [2] (by decide) (by kernel_rfl) h1 (by simp +decide (maxDischargeDepth:=200) only[go_sem,Nat.reduceBEq]<;>(repeat' first|rfl|constructor)) ?_;clear h1 a w1;intro a w1 h1;obtain⟨g1,hg1⟩:=h1.map_ptr (i:=11) (s:=11) (ks:=[]) (vs:=[]) (by simp only[go_sem,Nat.reduceEqDiff,Vc,Vi,bL,aq]);have hst:gn (au [(53,db)]) (aq [(1,.ptr 1 0),(3,.ptr 3 0),(11,.mp 11 [] [])] [(1,[.x (.int .i64 k),.x (.string op),.x (.string nm),.x (.int .i64 vk),.x (.int .i64 vn),.x (.string vs),.x (.string cs),.x (.int .i64 cc),.x (.int .i64 cr),.x (.string ts),.x (.int .i64 tc),.x (.int .i64 tr),.sl nl sz (ll.map am) none]),(3,[.x (.map none)])]) 99 (.ptr 3 0) (.x (.map (some g1)))=some ⟨(aq [(1,.ptr 1 0),(3,.ptr 3 0),(11,.mp 11 [] [])] [(1,[.x (.int .i64 k),.x (.string op),.x (.string nm),.x (.int .i64 vk),.x (.int .i64 vn),.x (.string vs),.x (.string cs),.x (.int .i64 cc),.x (.int .i64 cr),.x (.string ts),.x (.int .i64 tc),.x (.int .i64 tr),.sl nl sz (ll.map am) none]),(3,[.x (.map none)])]).t,aD (aq [(1,.ptr 1 0),(3,.ptr 3 0),(11,.mp 11 [] [])] [(1,[.x (.int .i64 k),.x (.string op),.x (.string nm),.x (.int .i64 vk),.x (.int .i64 vn),.x (.string vs),.x (.string cs),.x (.int .i64 cc),.x (.int .i64 cr),.x (.string ts),.x (.int .i64 tc),.x (.int .i64 tr),.sl nl sz (ll.map am) none]),(3,[.x (.map none)])]).b 3 (some [.x (.map (some g1))])⟩:=by simp +decide (maxDischargeDepth:=200) only[go_sem,Nat.reduceBEq,gn]
 refine jM (i:=2) (rest:=[]) hE rfl rfl rfl rfl h1 (by simp only[go_sem,Nat.reduceEqDiff,Vc,Vi,bL,aq]) hg1 hst ?_;intro w2 h2;replace h2:=(h2.le (aK (ts:=[(1,.ptr 1 0),(3,.ptr 3 0),(11,.mp 11 [] [])]) (bs:=[(1,[.x (.int .i64 k),.x (.string op),.x (.string nm),.x (.int .i64 vk),.x (.int .i64 vn),.x (.string vs),.x (.string cs),.x (.int .i64 cc),.x (.int .i64 cr),.x (.string ts),.x (.int .i64 tc),.x (.int .i64 tr),.sl nl sz (ll.map am) none]),(3,[.x (.map (some g1))])]) (by simp +decide (maxDischargeDepth:=200) only[go_sem,Nat.reduceBEq]<;>(repeat' first|rfl|constructor)) (by simp +decide (maxDischargeDepth:=200) only[go_sem,Nat.reduceBEq]<;>(repeat' first|rfl|constructor)))).frame (fun i=> !(i==11));clear h1 hst w1;refine wpIn_seq (wpIn_region ?_);refine ei hE 0 2 [(1,.ptr 1 0),(3,.ptr 3 0),(4,.ptr 4 0),(11,.mp 11 [] []),(12,.mp 12 [] [])] [(1,[.x (.int .i64 k),.x (.string op),.x (.string nm),.x (.int .i64 vk),.x (.int .i64 vn),.x (.string vs),.x (.string cs),.x (.int .i64 cc),.x (.int .i64 cr),.x (.string ts),.x (.int .i64 tc),.x (.int .i64 tr),.sl nl sz (ll.map am) none]),(3,[.x (.map (some g1))]),(4,[.x (.map none)])] [2] (by decide) (by kernel_rfl) (by kernel_rfl) h2 (by simp +decide (maxDischargeDepth:=200) only[go_sem,Nat.reduceBEq]<;>(repeat' first|rfl|constructor)) ?_;intro a1 w1 h1;have hk11:=h1.kept (i:=11) rfl;simp only at hk11;rw[hg1] at hk11;clear h2 w2 hg1;obtain⟨g2,hg2⟩:=h1.map_ptr (i:=12) (s:=12) (ks:=[]) (vs:=[]) (by simp only[go_sem,Nat.reduceEqDiff,Vc,Vi,bL,aq]);have hst:gn (au [(53,db)]) (aq [(1,.ptr 1 0),(3,.ptr 3 0),(4,.ptr 4 0),(11,.mp 11 [] []),(12,.mp 12 [] [])] [(1,[.x (.int .i64 k),.x (.string op),.x (.string nm),.x (.int .i64 vk),.x (.int .i64 vn),.x (.string vs),.x (.string cs),.x (.int .i64 cc),.x (.int .i64 cr),.x (.string ts),.x (.int .i64 tc),.x (.int .i64 tr),.sl nl sz (ll.map am) none]),(3,[.x (.map (some g1))]),(4,[.x (.map none)])]) 100 (.ptr 4 0) (.x (.map (some g2)))=some ⟨(aq [(1,.ptr 1 0),(3,.ptr 3 0),(4,.ptr 4 0),(11,.mp 11 [] []),(12,.mp 12 [] [])] [(1,[.x (.int .i64 k),.x (.string op),.x (.string nm),.x (.int .i64 vk),.x (.int .i64 vn),.x (.string vs),.x (.string cs),.x (.int .i64 cc),.x (.int .i64 cr),.x (.string ts),.x (.int .i64 tc),.x (.int .i64 tr),.sl nl sz (ll.map am) none]),(3,[.x (.map (some g1))]),(4,[.x (.map none)])]).t,aD (aq [(1,.ptr 1 0),(3,.ptr 3 0),(4,.ptr 4 0),(11,.mp 11 [] []),(12,.mp 12 [] [])] [(1,[.x (.int .i64 k),.x (.string op),.x (.string nm),.x (.int .i64 vk),.x (.int .i64 vn),.x (.string vs),.x (.string cs),.x (.int .i64 cc),.x (.int .i64 cr),.x (.string ts),.x (.int .i64 tc),.x (.int .i64 tr),.sl nl sz (ll.map am) none]),(3,[.x (.map (some g1))]),(4,[.x (.map none)])]).b 4 (some [.x (.map (some g2))])⟩:=by simp +decide (maxDischargeDepth:=200) only[go_sem,Nat.reduceBEq,gn]
 refine jM (i:=2) (rest:=[]) hE rfl rfl rfl rfl h1 (by simp only[go_sem,Nat.reduceEqDiff,Vc,Vi,bL,aq]) hg2 hst ?_;intro w2 h2;replace h2:=(h2.le (aK (ts:=[(1,.ptr 1 0),(3,.ptr 3 0),(4,.ptr 4 0),(11,.mp 11 [] []),(12,.mp 12 [] [])]) (bs:=[(1,[.x (.int .i64 k),.x (.string op),.x (.string nm),.x (.int .i64 vk),.x (.int .i64 vn),.x (.string vs),.x (.string cs),.x (.int .i64 cc),.x (.int .i64 cr),.x (.string ts),.x (.int .i64 tc),.x (.int .i64 tr),.sl nl sz (ll.map am) none]),(3,[.x (.map (some g1))]),(4,[.x (.map (some g2))])]) (by simp +decide (maxDischargeDepth:=200) only[go_sem,Nat.reduceBEq]<;>(repeat' first|rfl|constructor)) (by simp +decide (maxDischargeDepth:=200) only[go_sem,Nat.reduceBEq]<;>(repeat' first|rfl|constructor)))).frame (fun i=> !(i==11||i==12));clear h1 hst w1;refine wpIn_seq (wpIn_seq (wpIn_region ?_));refine ei hE 0 1 [(1,.ptr 1 0),(3,.ptr 3 0),(4,.ptr 4 0),(11,.mp 11 [] []),(12,.mp 12 [] []),(13,.agg [.x (.int .i64 k),.x (.string op),.x (.string nm),.x (.int .i64 vk),.x (.int .i64 vn),.x (.string vs),.x (.string cs),.x (.int .i64 cc),.x (.int .i64 cr),.x (.string ts),.x (.int .i64 tc),.x (.int .i64 tr),.sl nl sz (ll.map am) none])] [(1,[.x (.int .i64 k),.x (.string op),.x (.string nm),.x (.int .i64 vk),.x (.int .i64 vn),.x (.string vs),.x (.string cs),.x (.int .i64 cc),.x (.int .i64 cr),.x (.string ts),.x (.int .i64 tc),.x (.int .i64 tr),.sl nl sz (ll.map am) none]),(3,[.x (.map (some g1))]),(4,[.x (.map (some g2))])] [1] (by decide) (by kernel_rfl) (by kernel_rfl) h2 (by simp +decide (maxDischargeDepth:=200) only[go_sem,Nat.reduceBEq]<;>(repeat' first|rfl|constructor)) ?_;intro a3 w1 h1;have ha:=h1.kept (i:=11) rfl;have hb:=h1.kept (i:=12) rfl;simp only at ha hb;rw[hk11] at ha;rw[hg2] at hb;clear h2 w2 hk11;refine kS (n:=45) (d:=14) (f:=52) (Kno.rd (.pointer (some ⟨w1.heap.size,0,none⟩)) (.ip [.x (.int .i64 k),.x (.string op),.x (.string nm),.x (.int .i64 vk),.x (.int .i64 vn),.x (.string vs),.x (.string cs),.x (.int .i64 cc),.x (.int .i64 cr),.x (.string ts),.x (.int .i64 tc),.x (.int .i64 tr),.sl nl sz (ll.map am) none])) rfl rfl rfl (by decide) rfl (fun a w=>Tryz.call52 a w) h1 (R:=fun e w'=>e= .returned (.func (.func 79) #[] #[.pointer (some ⟨w1.heap.size,0,none⟩)])∧w'=w1.alloc (.cells (a3.eval (.tmp 13)).cells 50)) (fun m1 O1 hn1 _=>?call) ?_
 case call=>have hrd:=dS hn1 13 (u:= .agg [.x (.int .i64 k),.x (.string op),.x (.string nm),.x (.int .i64 vk),.x (.int .i64 vn),.x (.string vs),.x (.string cs),.x (.int .i64 cc),.x (.int .i64 cr),.x (.string ts),.x (.int .i64 tc),.x (.int .i64 tr),.sl nl sz (ll.map am) none]) (by simp only[go_sem,Nat.reduceEqDiff,Vc,Vi,bL,aq]) rfl;obtain⟨cs1,hcs,_⟩:=Rd.agg_iff.1 hrd;have e6:a3.eval (.tmp 13)= .agg cs1:=hcs;rw[show Array.map a3.eval #[.tmp 13]= #[a3.eval (.tmp 13)] from by simp,e6];exact tH cs1 w1
 intro m1 O1 hn1 _ e w2 he;obtain⟨rfl,rfl⟩:=he;have hrd:=dS hn1 13 (u:= .agg [.x (.int .i64 k),.x (.string op),.x (.string nm),.x (.int .i64 vk),.x (.int .i64 vn),.x (.string vs),.x (.string cs),.x (.int .i64 cc),.x (.int .i64 cr),.x (.string ts),.x (.int .i64 tc),.x (.int .i64 tr),.sl nl sz (ll.map am) none]) (by simp only[go_sem,Nat.reduceEqDiff,Vc,Vi,bL,aq]) rfl;obtain⟨hs2,hr2⟩:=wZ (ty:=50) hrd;refine⟨_,_,.undef,rfl,hs2,hE.keep [] _ _ (fun x hx=>by cases hx) hn1.J (hs2.bel (fun k _ h=>h.elim)),.undef _,hr2,fun h2=>?_⟩;have hfn:(a3.put (some 14) (.func (.func 79) #[] #[.pointer (some ⟨w1.heap.size,0,none⟩)])).eval (.tmp 14)= .func (.func 79) #[] #[.pointer (some ⟨w1.heap.size,0,none⟩)]:=by
  have hz:a3.tmps.size=45:=by obtain⟨_,_,hr⟩:=hn1.rel;exact hr.size
  show((a3.put (some 14) _).tmps.getD 14 Go.undef)=_;simp[Act.put,Ve,hz]
 have ha2:(a3.put (some 14) (.func (.func 79) #[] #[.pointer (some ⟨w1.heap.size,0,none⟩)])).tmps.getD 11 Go.undef= .map (some g1):=by rw[<-ha];show(a3.tmps.setIfInBounds 14 _).getD 11 Go.undef=_;simp[Ve]
 have hb2:(a3.put (some 14) (.func (.func 79) #[] #[.pointer (some ⟨w1.heap.size,0,none⟩)])).tmps.getD 12 Go.undef= .map (some g2):=by rw[<-hb];show(a3.tmps.setIfInBounds 14 _).getD 12 Go.undef=_;simp[Ve]
 generalize (a3.put (some 14) (.func (.func 79) #[] #[.pointer (some ⟨w1.heap.size,0,none⟩)]))=a2 at h2 hfn ha2 hb2;generalize w1.alloc _=w2 at h2;refine wpIn_block ?_
 refine nR hE h2 (fun i=>i==5||(i==6||(i==7||(i==9||(i==15||(i==16||(i==17||(i==18||(i==19||(i==20||(i==21||(i==22||(i==23||(i==24||(i==25||(i==26||(i==27||(i==28||(i==29||(i==30||(i==31||(i==32||(i==33||(i==34||(i==35||(i==36)))))))))))))))))))))))))) hfn (fun a w=>Tryz.call79 a w) (Ok:=KL nd) (Done:=EF nd) (G:=fun _=>False) (fun _ h=>h.elim) ?hit ?hps ?hlen
  (fun _=>True) (fun pre=>aq [(3,.ptr 3 0),(4,.ptr 4 0),(11,.mp 11 (((jB pre).1).map rgV) (uL ((jB pre).1))),(12,.mp 12 (((jB pre).2).map aa) (uL ((jB pre).2)))] [(3,[.x (.map (some g1))]),(4,[.x (.map (some g2))])]) (fun pre x=>aq [(3,.ptr 3 0),(4,.ptr 4 0),(5,.ptr 5 0),(11,.mp 11 (((jB pre).1).map rgV) (uL ((jB pre).1))),(12,.mp 12 (((jB pre).2).map aa) (uL ((jB pre).2)))] [(3,[.x (.map (some g1))]),(4,[.x (.map (some g2))]),(5,x.flatMap V.cells)]) (fun _ _ _=>False) trivial ?h0 ?assign ?body ?done ?stop
 case hit=>intro m3 O3 hn3 hkn _ m4 w4 hs4 hj4;exact tG nd h400 hf ⟨hkn.mono hs4.ext,trivial⟩
 case hps=>intro p hp;simp at hp;subst hp;exact⟨rfl,by decide⟩
 case hlen=>intro pre x hok;obtain⟨q,_,rfl⟩:=hok x (by simp);rfl
 case h0=>exact aK (by simp +decide (maxDischargeDepth:=200) only[go_sem,Nat.reduceBEq]<;>(repeat' first|rfl|constructor)) (by simp +decide (maxDischargeDepth:=200) only[go_sem,Nat.reduceBEq]<;>(repeat' first|rfl|constructor))
 case assign=>intro pre x lp B' a3 w3 hok hinv _ _ hW' ht0 ho;obtain⟨q,hq,rfl⟩:=hok x (by simp);refine eB hE hm [(3,.ptr 3 0),(4,.ptr 4 0),(5,.ptr 5 0),(11,.mp 11 (((jB pre).1).map rgV) (uL ((jB pre).1))),(12,.mp 12 (((jB pre).2).map aa) (uL ((jB pre).2)))] [(3,[.x (.map (some g1))]),(4,[.x (.map (some g2))]),(5,[.x (.string q.1.1),.x (.int .i64 q.1.2.1),.x (.int .i64 q.1.2.2),.x (.string q.2.1),.x (.int .i64 q.2.2.1),.x (.int .i64 q.2.2.2)])] (by kernel_rfl) (by rw[hW'];kernel_rfl) ho (by simp +decide (maxDischargeDepth:=200) only[go_sem,Nat.reduceBEq,rgV,VS,XH,Wq]<;>(repeat' first|rfl|constructor)) (fun a4 w4 h4=>⟨rfl,h4⟩)
 case body=>
  intro pre x lp B' a3 w3 hok hinv _ _ hW' ht0 ho;obtain⟨q,hq,rfl⟩:=hok x (by simp);have hqo:=EK nd q hq;have kept11:∀{a4:Act} {w4:World} {st4:St},One (au [(53,db)]) 45 B' st4 a4 w4->a4.tmps.getD 11 Go.undef= .map (some g1):=fun h4=>by rw[h4.kept (i:=11) (by rw[hW'];rfl),ht0,ha2]
  have kept12:∀{a4:Act} {w4:World} {st4:St},One (au [(53,db)]) 45 B' st4 a4 w4->a4.tmps.getD 12 Go.undef= .map (some g2):=fun h4=>by rw[h4.kept (i:=12) (by rw[hW'];rfl),ht0,hb2]
  obtain⟨S1,hS1⟩:∃S1,(jB pre).1=S1:=⟨_,rfl⟩;obtain⟨S2,hS2⟩:∃S2,(jB pre).2=S2:=⟨_,rfl⟩;have hsn:=Fg pre q;unfold ra at hsn;rw[hS1,hS2] at ho hsn;refine wpIn_block (wpIn_seq (wpIn_seq (wpIn_region ?_)));refine ei hE 0 2 [(3,.ptr 3 0),(4,.ptr 4 0),(5,.ptr 5 0),(17,.x (.map (some g1))),(18,.agg [.x (.string q.1.1),.x (.int .i64 q.1.2.1),.x (.int .i64 q.1.2.2),.x (.string q.2.1),.x (.int .i64 q.2.2.1),.x (.int .i64 q.2.2.2)]),(11,.mp 11 ((S1).map rgV) (uL (S1))),(12,.mp 12 ((S2).map aa) (uL (S2)))] [(3,[.x (.map (some g1))]),(4,[.x (.map (some g2))]),(5,[.x (.string q.1.1),.x (.int .i64 q.1.2.1),.x (.int .i64 q.1.2.2),.x (.string q.2.1),.x (.int .i64 q.2.2.1),.x (.int .i64 q.2.2.2)])] [2,3,4,5,6,7,8] (by decide) (by kernel_rfl) (by rw[hW'];kernel_rfl) ho (by simp +decide (maxDischargeDepth:=200) only[go_sem,Nat.reduceBEq,rgV,VS,XH,Wq]<;>(repeat' first|rfl|constructor)) ?_;intro a4 w4 h4;have h17:a4.tmps.getD 17 Go.undef= .map (some g1):=by obtain⟨m5,O5,hn5,_⟩:=h4;exact hn5.read_x 17 (by simp only[go_sem,Nat.reduceEqDiff,Vc,Vi,bL,aq])
  have h5:=h4.alias (i:=11) (d:=17) (s:=11) (ks:=S1.map rgV) (vs:=uL S1) (by simp only[go_sem,Nat.reduceEqDiff,Vc,Vi,bL,aq]) (by decide) (h17.trans (kept11 h4).symm);have hlook:fE Tryz.prog 99 (.mp 11 (S1.map rgV) (uL S1)) (.agg [.x (.string q.1.1),.x (.int .i64 q.1.2.1),.x (.int .i64 q.1.2.2),.x (.string q.2.1),.x (.int .i64 q.2.2.1),.x (.int .i64 q.2.2.2)]) true=some (.tup [.agg [],.x (.bool (zj S1 q))]):=E8 11 S1 q;refine ei hE 2 7 [(3,.ptr 3 0),(4,.ptr 4 0),(5,.ptr 5 0),(7,.x (.bool (zj S1 q))),(11,.mp 11 ((S1).map rgV) (uL (S1))),(12,.mp 12 ((S2).map aa) (uL (S2)))] [(3,[.x (.map (some g1))]),(4,[.x (.map (some g2))]),(5,[.x (.string q.1.1),.x (.int .i64 q.1.2.1),.x (.int .i64 q.1.2.2),.x (.string q.2.1),.x (.int .i64 q.2.2.1),.x (.int .i64 q.2.2.2)])] [] (by decide) (by kernel_rfl) (by rw[hW'];kernel_rfl) h5 (by simp +decide (maxDischargeDepth:=200) only[go_sem,Nat.reduceBEq,hlook]<;>(repeat' first|rfl|constructor)) ?_;clear h4 h5 h17 hlook ho;intro a5 w5 h5;cases hin:zj S1 q with
  |true=>rw[hin] at h5 hsn;simp only[Vi] at hsn;refine EE hE hm 1 [(3,.ptr 3 0),(4,.ptr 4 0),(11,.mp 11 ((S1).map rgV) (uL (S1))),(12,.mp 12 ((S2).map aa) (uL (S2)))] [(3,[.x (.map (some g1))]),(4,[.x (.map (some g2))])] (by kernel_rfl) (by rw[hW'];kernel_rfl) h5 (by simp +decide (maxDischargeDepth:=200) only[go_sem,Nat.reduceBEq]<;>(repeat' first|rfl|constructor)) ?_;intro a6 w6 h6;rw[hsn];exact⟨_,h6,trivial,aK (by simp +decide (maxDischargeDepth:=200) only[go_sem,Nat.reduceBEq,hS1,hS2]<;>(repeat' first|rfl|constructor)) (by simp +decide (maxDischargeDepth:=200) only[go_sem,Nat.reduceBEq]<;>(repeat' first|rfl|constructor))⟩
  | false=>
    rw[hin] at h5 hsn;simp only[VF,Vc] at hsn;refine eB hE hm [(3,.ptr 3 0),(4,.ptr 4 0),(5,.ptr 5 0),(11,.mp 11 ((S1).map rgV) (uL (S1))),(12,.mp 12 ((S2).map aa) (uL (S2)))] [(3,[.x (.map (some g1))]),(4,[.x (.map (some g2))]),(5,[.x (.string q.1.1),.x (.int .i64 q.1.2.1),.x (.int .i64 q.1.2.2),.x (.string q.2.1),.x (.int .i64 q.2.2.1),.x (.int .i64 q.2.2.2)])] (by kernel_rfl) (by rw[hW'];kernel_rfl) h5 (by simp +decide (maxDischargeDepth:=200) only[go_sem,Nat.reduceBEq]<;>(repeat' first|rfl|constructor)) ?_;clear h5 a5 w5;intro a5 w5 h5;refine wpIn_seq (wpIn_region ?_);refine ei hE 0 3 [(3,.ptr 3 0),(4,.ptr 4 0),(5,.ptr 5 0),(23,.x (.map (some g1))),(24,.agg [.x (.string q.1.1),.x (.int .i64 q.1.2.1),.x (.int .i64 q.1.2.2),.x (.string q.2.1),.x (.int .i64 q.2.2.1),.x (.int .i64 q.2.2.2)]),(25,.agg []),(11,.mp 11 ((S1).map rgV) (uL (S1))),(12,.mp 12 ((S2).map aa) (uL (S2)))] [(3,[.x (.map (some g1))]),(4,[.x (.map (some g2))]),(5,[.x (.string q.1.1),.x (.int .i64 q.1.2.1),.x (.int .i64 q.1.2.2),.x (.string q.2.1),.x (.int .i64 q.2.2.1),.x (.int .i64 q.2.2.2)])] [3] (by decide) (by kernel_rfl) (by rw[hW'];kernel_rfl) h5 (by simp +decide (maxDischargeDepth:=200) only[go_sem,Nat.reduceBEq]<;>(repeat' first|rfl|constructor)) ?_;clear h5 a5 w5;intro a5 w5 h5;have h23:a5.tmps.getD 23 Go.undef= .map (some g1):=by obtain⟨m5,O5,hn5,_⟩:=h5;exact hn5.read_x 23 (by simp only[go_sem,Nat.reduceEqDiff,Vc,Vi,bL,aq])
    have h6:=h5.alias (i:=11) (d:=23) (s:=11) (ks:=S1.map rgV) (vs:=uL S1) (by simp only[go_sem,Nat.reduceEqDiff,Vc,Vi,bL,aq]) (by decide) (h23.trans (kept11 h5).symm);have hput:kx Tryz.prog 99 (S1.map rgV) (uL S1) (.agg [.x (.string q.1.1),.x (.int .i64 q.1.2.1),.x (.int .i64 q.1.2.2),.x (.string q.2.1),.x (.int .i64 q.2.2.1),.x (.int .i64 q.2.2.2)]) (.agg [])=some ((bz S1 q).map rgV,uL (bz S1 q)):=Ik S1 q;refine ei hE 3 1 [(3,.ptr 3 0),(4,.ptr 4 0),(5,.ptr 5 0),(11,.mp 11 ((bz S1 q).map rgV) (uL (bz S1 q))),(12,.mp 12 ((S2).map aa) (uL (S2)))] [(3,[.x (.map (some g1))]),(4,[.x (.map (some g2))]),(5,[.x (.string q.1.1),.x (.int .i64 q.1.2.1),.x (.int .i64 q.1.2.2),.x (.string q.2.1),.x (.int .i64 q.2.2.1),.x (.int .i64 q.2.2.2)])] [] (by decide) (by kernel_rfl) (by rw[hW'];kernel_rfl) h6 (by simp +decide (maxDischargeDepth:=200) only[go_sem,Nat.reduceBEq,hput]<;>(repeat' first|rfl|constructor)) ?_;clear h5 h6 h23 hput a5 w5;intro a5 w5 h5;have hcl:=BU hqo;have hfc:=uo hcl;obtain⟨l,hll⟩:∃l,fb q=l:=⟨_,rfl⟩;have hlen:=oo q;rw[hll] at hfc hsn hlen;refine wpIn_seq (eB hE hm [(3,.ptr 3 0),(4,.ptr 4 0),(27,.sl false 3 (l.map aa) none),(28,.x (.int .i64 ((l.length:Nat):Int))),(29,.x (.int .i64 0)),(11,.mp 11 ((bz S1 q).map rgV) (uL (bz S1 q))),(12,.mp 12 ((S2).map aa) (uL (S2)))] [(3,[.x (.map (some g1))]),(4,[.x (.map (some g2))])] (by kernel_rfl) (by rw[hW'];kernel_rfl) h5 (by simp +decide (maxDischargeDepth:=200) only[go_sem,Nat.reduceBEq,hfc,eq]<;>(repeat' first|rfl|constructor)) ?_);clear h5 a5 w5;intro a5 w5 h5;refine wpIn_block (ce (X:={i:Nat//i<=l.length}) (fun i a w=>One (au [(53,db)]) 45 B' (aq [(3,.ptr 3 0),(4,.ptr 4 0),(27,.sl false 3 (l.map aa) none),(28,.x (.int .i64 ((l.length:Nat):Int))),(29,.x (.int .i64 ((i.1:Nat):Int))),(11,.mp 11 ((bz S1 q).map rgV) (uL (bz S1 q))),(12,.mp 12 (((l.take i.1).foldl bz S2).map aa) (uL ((l.take i.1).foldl bz S2)))] [(3,[.x (.map (some g1))]),(4,[.x (.map (some g2))])]) a w) (fun i=>l.length-i.1) ⟨0,VJ _⟩ h5 ?_);clear h5 a5 w5;rintro⟨i,hi0⟩ a5 w5 h5;simp only at h5;by_cases hi:i<l.length
    . have c1:decide (((i:Nat):Int)<((l.length:Nat):Int))=true:=iO (by omega);have c2:(0:Int)<=((i:Nat):Int):=by omega
      have c4:=aF (i:=i) (by omega);obtain⟨p,hp⟩:∃p,l[i]?=some p:=⟨l[i],io hi⟩;have c5:(l.map aa)[((i:Nat):Int).toNat]?=some (.agg [.x (.string p.1),.x (.int .i64 p.2.1),.x (.int .i64 p.2.2)]):=ca hp;have htk:(l.take (i+1)).foldl bz S2=bz ((l.take i).foldl bz S2) p:=by rw[List.take_add_one,hp,Option.toList_some,Xl];rfl
      obtain⟨S3,hS3⟩:∃S3,(l.take i).foldl bz S2=S3:=⟨_,rfl⟩;rw[hS3] at h5 htk;refine wpIn_seq (eB hE hm [(3,.ptr 3 0),(4,.ptr 4 0),(27,.sl false 3 (l.map aa) none),(28,.x (.int .i64 ((l.length:Nat):Int))),(29,.x (.int .i64 ((i:Nat):Int))),(30,.x (.bool true)),(11,.mp 11 ((bz S1 q).map rgV) (uL (bz S1 q))),(12,.mp 12 ((S3).map aa) (uL (S3)))] [(3,[.x (.map (some g1))]),(4,[.x (.map (some g2))])] (by kernel_rfl) (by rw[hW'];kernel_rfl) h5 (by simp +decide (maxDischargeDepth:=200) only[go_sem,Nat.reduceBEq,c1]<;>(repeat' first|rfl|constructor)) ?_);clear h5 a5 w5;intro a5 w5 h5;refine wpIn_seq (eB hE hm [(3,.ptr 3 0),(4,.ptr 4 0),(27,.sl false 3 (l.map aa) none),(28,.x (.int .i64 ((l.length:Nat):Int))),(29,.x (.int .i64 ((i:Nat):Int))),(11,.mp 11 ((bz S1 q).map rgV) (uL (bz S1 q))),(12,.mp 12 ((S3).map aa) (uL (S3)))] [(3,[.x (.map (some g1))]),(4,[.x (.map (some g2))])] (by kernel_rfl) (by rw[hW'];kernel_rfl) h5 (by simp +decide (maxDischargeDepth:=200) only[go_sem,Nat.reduceBEq]<;>(repeat' first|rfl|constructor)) ?_);clear h5 a5 w5;intro a5 w5 h5;refine wpIn_seq (wpIn_block (wpIn_seq (eB hE hm [(3,.ptr 3 0),(4,.ptr 4 0),(9,.ptr 9 0),(27,.sl false 3 (l.map aa) none),(28,.x (.int .i64 ((l.length:Nat):Int))),(29,.x (.int .i64 ((i:Nat):Int))),(11,.mp 11 ((bz S1 q).map rgV) (uL (bz S1 q))),(12,.mp 12 ((S3).map aa) (uL (S3)))] [(3,[.x (.map (some g1))]),(4,[.x (.map (some g2))]),(9,[.x (.string p.1),.x (.int .i64 p.2.1),.x (.int .i64 p.2.2)])] (by kernel_rfl) (by rw[hW'];kernel_rfl) h5 (by simp +decide (maxDischargeDepth:=200) only[go_sem,Nat.reduceBEq,c2,c5]<;>(repeat' first|rfl|constructor)) ?_)));clear h5 a5 w5;intro a5 w5 h5;refine wpIn_region ?_;refine ei hE 0 3 [(3,.ptr 3 0),(4,.ptr 4 0),(27,.sl false 3 (l.map aa) none),(28,.x (.int .i64 ((l.length:Nat):Int))),(29,.x (.int .i64 ((i:Nat):Int))),(33,.x (.map (some g2))),(34,.agg [.x (.string p.1),.x (.int .i64 p.2.1),.x (.int .i64 p.2.2)]),(35,.agg []),(11,.mp 11 ((bz S1 q).map rgV) (uL (bz S1 q))),(12,.mp 12 ((S3).map aa) (uL (S3)))] [(3,[.x (.map (some g1))]),(4,[.x (.map (some g2))])] [3] (by decide) (by kernel_rfl) (by rw[hW'];kernel_rfl) h5 (by simp +decide (maxDischargeDepth:=200) only[go_sem,Nat.reduceBEq]<;>(repeat' first|rfl|constructor)) ?_;clear h5 a5 w5;intro a5 w5 h5;have h33:a5.tmps.getD 33 Go.undef= .map (some g2):=by obtain⟨m5,O5,hn5,_⟩:=h5;exact hn5.read_x 33 (by simp only[go_sem,Nat.reduceEqDiff,Vc,Vi,bL,aq])
      have h6:=h5.alias (i:=12) (d:=33) (s:=12) (ks:=S3.map aa) (vs:=uL S3) (by simp only[go_sem,Nat.reduceEqDiff,Vc,Vi,bL,aq]) (by decide) (h33.trans (kept12 h5).symm);have hput:kx Tryz.prog 100 (S3.map aa) (uL S3) (.agg [.x (.string p.1),.x (.int .i64 p.2.1),.x (.int .i64 p.2.2)]) (.agg [])=some ((bz S3 p).map aa,uL (bz S3 p)):=E7 S3 p;refine ei hE 3 1 [(3,.ptr 3 0),(4,.ptr 4 0),(27,.sl false 3 (l.map aa) none),(28,.x (.int .i64 ((l.length:Nat):Int))),(29,.x (.int .i64 ((i:Nat):Int))),(11,.mp 11 ((bz S1 q).map rgV) (uL (bz S1 q))),(12,.mp 12 ((bz S3 p).map aa) (uL (bz S3 p)))] [(3,[.x (.map (some g1))]),(4,[.x (.map (some g2))])] [] (by decide) (by kernel_rfl) (by rw[hW'];kernel_rfl) h6 (by simp +decide (maxDischargeDepth:=200) only[go_sem,Nat.reduceBEq,hput]<;>(repeat' first|rfl|constructor)) ?_;clear h5 h6 h33 hput a5 w5;intro a5 w5 h5;refine eB hE hm [(3,.ptr 3 0),(4,.ptr 4 0),(27,.sl false 3 (l.map aa) none),(28,.x (.int .i64 ((l.length:Nat):Int))),(29,.x (.int .i64 ((i+1:Nat):Int))),(11,.mp 11 ((bz S1 q).map rgV) (uL (bz S1 q))),(12,.mp 12 ((bz S3 p).map aa) (uL (bz S3 p)))] [(3,[.x (.map (some g1))]),(4,[.x (.map (some g2))])] (by kernel_rfl) (by rw[hW'];kernel_rfl) h5 (by simp +decide (maxDischargeDepth:=200) only[go_sem,Nat.reduceBEq,c4]<;>(repeat' first|rfl|constructor)) ?_;clear h5 a5 w5;intro a5 w5 h5;exact⟨⟨i+1,by omega⟩,by simp only;rw[htk];exact h5,by simp only;omega⟩
    . have c1:decide (((i:Nat):Int)<((l.length:Nat):Int))=false:=tl (by omega);have hli:l.take i=l:=Vp (by omega);rw[hli] at h5;refine wpIn_seq (eB hE hm [(3,.ptr 3 0),(4,.ptr 4 0),(30,.x (.bool false)),(11,.mp 11 ((bz S1 q).map rgV) (uL (bz S1 q))),(12,.mp 12 ((l.foldl bz S2).map aa) (uL (l.foldl bz S2)))] [(3,[.x (.map (some g1))]),(4,[.x (.map (some g2))])] (by kernel_rfl) (by rw[hW'];kernel_rfl) h5 (by simp +decide (maxDischargeDepth:=200) only[go_sem,Nat.reduceBEq,c1]<;>(repeat' first|rfl|constructor)) ?_);clear h5 a5 w5;intro a5 w5 h5;refine wpIn_seq (EE hE hm 2 [(3,.ptr 3 0),(4,.ptr 4 0),(11,.mp 11 ((bz S1 q).map rgV) (uL (bz S1 q))),(12,.mp 12 ((l.foldl bz S2).map aa) (uL (l.foldl bz S2)))] [(3,[.x (.map (some g1))]),(4,[.x (.map (some g2))])] (by kernel_rfl) (by rw[hW'];kernel_rfl) h5 (by simp +decide (maxDischargeDepth:=200) only[go_sem,Nat.reduceBEq]<;>(repeat' first|rfl|constructor)) ?_);clear h5 a5 w5;intro a5 w5 h5;rw[hsn];exact⟨_,h5,trivial,aK (by simp +decide (maxDischargeDepth:=200) only[go_sem,Nat.reduceBEq]<;>(repeat' first|rfl|constructor)) (by simp +decide (maxDischargeDepth:=200) only[go_sem,Nat.reduceBEq]<;>(repeat' first|rfl|constructor))⟩
 case stop=>intro _ _ _ _ _ _ h;exact h.elim
 case done=>
  intro xs b a' w' hd hinv hta h3;refine wpIn_seq (wpIn_region ?_);refine ei hE 0 1 [(12,.mp 12 ((jB xs).2.map aa) (uL (jB xs).2)),(37,.x (.map (some g2)))] [] [1,2,3,4] (by decide) (by kernel_rfl) (by kernel_rfl) h3 (by simp +decide (maxDischargeDepth:=200) only[go_sem,Nat.reduceBEq]<;>(repeat' first|rfl|constructor)) ?_;clear h3 hta;intro a4 w4 h4;have h37:a4.tmps.getD 37 Go.undef= .map (some g2):=by obtain⟨m5,O5,hn5,_⟩:=h4;exact hn5.read_x 37 (by simp only[go_sem,Nat.reduceEqDiff,Vc,Vi,bL,aq])
  refine kS (n:=45) (d:=38) (f:=55) (Kno.rd (.pointer (some ⟨w4.heap.size,0,none⟩)) (.ip [.x (.map (some g2))])) rfl rfl rfl (by decide) rfl (fun a w=>Tryz.call55 a w) h4 (R:=fun e w'=>e= .returned (.func (.func 83) #[] #[.pointer (some ⟨w4.heap.size,0,none⟩)])∧w'=w4.alloc (.cells #[.map (some g2)] 100)) (fun m1 O1 hn1 _=>?keys) ?_
  case keys=>have e1:a4.eval (.tmp 37)= .map (some g2):=h37;rw[show Array.map a4.eval #[.tmp 37]= #[a4.eval (.tmp 37)] from by simp,e1];exact xu g2 w4
  intro m7 O7 hn7 _ e w5 he;obtain⟨rfl,rfl⟩:=he;obtain⟨hs5,hr5⟩:=Jk (m:=m7) (w:=w4) (v:= .map (some g2)) (ty:=100) rfl;refine⟨_,_,.undef,rfl,hs5,hE.keep [] _ _ (fun x hx=>by cases hx) hn7.J (hs5.bel (fun k _ h=>h.elim)),.undef _,hr5,fun h5=>?_⟩;have hf38:(a4.put (some 38) (.func (.func 83) #[] #[.pointer (some ⟨w4.heap.size,0,none⟩)])).eval (.tmp 38)= .func (.func 83) #[] #[.pointer (some ⟨w4.heap.size,0,none⟩)]:=by
   have hz:a4.tmps.size=45:=by obtain⟨_,_,hr⟩:=hn7.rel;exact hr.size
   show((a4.put (some 38) _).tmps.getD 38 Go.undef)=_;simp[Act.put,Ve,hz]
  clear hn7 hs5 hr5 h4;generalize (a4.put (some 38) (.func (.func 83) #[] #[.pointer (some ⟨w4.heap.size,0,none⟩)]))=a5 at h5 hf38;generalize w4.alloc _=w5 at h5;obtain⟨m5,O5,q1,q2,q3,q4,q5,q6⟩:=h5;have hk5:a5.tmps.getD 12 Go.undef= .map (some g2):=(q6 12 rfl).trans hg2;obtain⟨hmp,hO⟩:=q1.map_at (i:=12) (s:=12) (ks:=(jB xs).2.map aa) (vs:=uL (jB xs).2) (by simp only[go_sem,Nat.reduceEqDiff,Vc,Vi,bL,aq]) hk5;have hsl:=(Lc hd.1 h400).2;have hks:∀k∈(jB xs).2.map aa,∃p:C3,k=aa p:=by intro k hk;obtain⟨p,_,rfl⟩:=U7.1 hk;exact⟨p,rfl⟩
  have hC:=E9 hks (by rw[eq];omega) hmp q5 (q1.K g2 hO) q1.J;refine jz (i:=2) (rest:=[3,4]) rfl rfl rfl rfl (fun a w=>Tryz.call54 a w) (by rw[show Array.map a5.eval #[.tmp 38]= #[a5.eval (.tmp 38)] from by simp,hf38];exact hC) ?_;rintro e w6 ⟨v,m6,r,rfl,⟨lv,hperm,rfl⟩,hrd,hrow,hst6,hj6⟩;obtain⟨l,rfl⟩:∃l:List C3,lv=l.map aa:=by
   have key:∀l:List V,(∀k∈l,∃p:C3,k=aa p)->∃ss:List C3,l=ss.map aa:=by
    intro l
    induction l with
    |nil=>exact fun _=>⟨[],rfl⟩
    |cons x l ih=>intro h;obtain⟨ss,rfl⟩:=ih (fun k hk=>h k (Vr _ hk));obtain⟨s,rfl⟩:=h x (Vv ..);exact⟨s::ss,rfl⟩
   exact key lv (fun k hk=>hks k (hperm.mem_iff.1 hk))
  have hmem:∀p:C3,p∈l↔∃q∈allN nd,Cy p q=true:=fun p=>by
   have h1:=hperm.mem_iff (a:=aa p);rw[<-Ld hd p];constructor
   . intro hp;obtain⟨p',hp',e⟩:=U7.1 (h1.1 (U7.2 ⟨p,hp,rfl⟩));exact jx _ _ e▸hp'
   . intro hp;obtain⟨p',hp',e⟩:=U7.1 (h1.2 (U7.2 ⟨p,hp,rfl⟩));exact jx _ _ e▸hp'
  have hnd:l.Nodup:=dz aa (hperm.nodup_iff.2 (List.Pairwise.map aa (fun a b hab e=>hab (jx _ _ e)) (um xs).2));have hll:l.length<=160000:=by have:=hperm.length_eq;rw[eq,eq] at this;omega
  clear hperm hmp hk5 hf38 hfn h2 hC hks;refine⟨v,rfl,?_⟩;have hz5:a5.tmps.size=45:=by obtain⟨_,_,hr⟩:=q1.rel;exact hr.size
  by_cases hl0:l=[]
  . subst hl0;have hv:v= .slice none 0 0:=by cases hrd;rfl
    subst hv;have hrn:aw nd=[]:=(tO (a:=nd) (l:=[]) List.Pairwise.nil hmem).symm;rw[hrn];have h6:=One.after (Kn':=Kno.top) (d:=39) (by decide) (v:= .slice none 0 0) (u:= .x (.slice none 0 0)) q1 q2 q3 q4 q6 rfl hst6 hj6 (.x _) trivial;rw[dP] at h6;refine ei hE 3 2 [(10,.ptr 10 0)] [(10,[.x (.slice none 0 0)])] [] (by decide) (by kernel_rfl) (by kernel_rfl) h6 (by simp +decide (maxDischargeDepth:=200) only[go_sem,Nat.reduceBEq]<;>(repeat' first|rfl|constructor)) ?_;clear h6;intro a7 w7 h7;refine wpIn_seq (wpIn_region ?_);refine ei hE 0 1 [(10,.ptr 10 0),(40,.x (.slice none 0 0))] [(10,[.x (.slice none 0 0)])] [1,2,3] (by decide) (by kernel_rfl) (by kernel_rfl) h7 (by simp +decide (maxDischargeDepth:=200) only[go_sem,Nat.reduceBEq]<;>(repeat' first|rfl|constructor)) ?_;clear h7 a7 w7;intro a7 w7 h7;have e40:a7.eval (.tmp 40)= .slice none 0 0:=by obtain⟨m5,O5,hn5,_⟩:=h7;exact hn5.read_x 40 (by simp only[go_sem,Nat.reduceEqDiff,Vc,Vi,bL,aq])
    refine rb (i:=1) (rest:=[2,3]) (d:=41) rfl (fun c e=>by cases e) rfl (by decide) rfl rfl h7 (.iface 32 (.slice none 0 0)) ?_ ?_
    . have hmi:(Instr.makeInterface 32 (.slice none 0 0)).run Tryz.prog w7= .ok (.iface 32 (.slice none 0 0)) w7:=run_makeInterface _ _ _ (by kernel_rfl);simp only[execOp,Sem.run_bind,e40,dM,hmi,Result.andThen_ok,Sem.run_pure]
    intro a8 h8 ha8;obtain⟨Bk,e10⟩:∃Bk,a8.tmps.getD 10 Go.undef= .pointer (some ⟨Bk,0,none⟩):=by obtain⟨m5,O5,hn5,_⟩:=h8;obtain⟨b,vals,ty,fr,e,_⟩:=hn5.box_at (i:=10) (s:=10) (v:= .slice none 0 0) (by simp only[go_sem,St.put,Nat.reduceEqDiff,Vc,Vi,bL,aq]) (by simp only[go_sem,St.put,Nat.reduceEqDiff,Vc,Vi,A3,aq]);exact⟨b,e⟩
    refine rb (i:=2) (rest:=[3]) (d:=42) rfl (fun c e=>by cases e) rfl (by decide) rfl rfl h8 (.func (.func 56) #[] #[.pointer (some ⟨Bk,0,none⟩)]) ?_ ?_
    . have e10':a8.eval (.tmp 10)= .pointer (some ⟨Bk,0,none⟩):=e10;simp only[execOp,Sem.run_bind,Instr.makeFunc,Sem.run_pure,Result.andThen_ok];simp[e10']
    intro a9 h9 ha9;have e41:a9.tmps.getD 41 Go.undef= .iface 32 (.slice none 0 0):=by obtain⟨m5,O5,hn5,_⟩:=h9;exact hn5.read_x 41 (by simp only[go_sem,St.put,Nat.reduceEqDiff,Vc,Vi,bL,aq])
    have e42:a9.tmps.getD 42 Go.undef= .func (.func 56) #[] #[.pointer (some ⟨Bk,0,none⟩)]:=by obtain⟨m5,O5,hn5,_⟩:=h9;exact hn5.read_x 42 (by simp only[go_sem,St.put,Nat.reduceEqDiff,Vc,Vi,bL,aq])
    refine kS (n:=45) (d:=43) (f:=48) Kno.top rfl rfl rfl (by decide) rfl (fun a w=>Tryz.call48 a w) h9 (R:=fun e w'=>e= .returned (.tuple #[])∧∃os,w'=Go.Sort.grow w7 os) (fun m1 O1 hn1 _=>?_) ?_
    . rw[show Array.map a9.eval #[.tmp 41,.tmp 42]= #[a9.tmps.getD 41 Go.undef,a9.tmps.getD 42 Go.undef] from by simp[Act.eval],e41,e42];exact Qo
    rintro m8 O8 hn8 _ e w8 ⟨rfl,os,rfl⟩;have hbel:Below w7.heap.size w7 (Go.Sort.grow w7 os):=⟨rfl,rfl,rfl,by simp[Go.Sort.grow],fun k hk=>Go.Sort.heap_grow_old _ _ hk⟩;refine⟨_,m8,.undef,rfl,Step.of_below hbel (fun _ _=>rfl),hE.keep [] _ _ (fun x hx=>by cases hx) hn8.J ⟨hbel.os,hbel.tape,hbel.output,hbel.size,fun k hk _=>hbel.block k hk⟩,.undef _,trivial,fun h10=>?_⟩;show Exit.then _ _ Exit.normal _ _;generalize a9.put (some 43) _=a10 at h10;generalize Go.Sort.grow w7 os=w10 at h10;refine wpIn_seq (eB hE hm [(2,.x (.slice none 0 0))] [] (by kernel_rfl) (by kernel_rfl) h10 (by simp +decide (maxDischargeDepth:=200) only[go_sem,Nat.reduceBEq,St.put,ey]<;>(repeat' first|rfl|constructor)) ?_);intro a11 w11 h11;have e2:a11.tmps.getD 2 Go.undef= .slice none 0 0:=by obtain⟨m5,O5,hn5,_⟩:=h11;exact hn5.read_x 2 (by simp only[go_sem,Nat.reduceEqDiff,Vc,Vi,bL,aq])
    obtain⟨m9,O9,r1,r2,r3,r4,r5,r6⟩:=h11;have h12:=One.know (n:=45) (d:=2) (v:= .slice none 0 0) (u:= .sl true 0 [] none) (by decide) ⟨m9,O9,r1,r2,r3,r4,.nil _ _,r6⟩ e2 (dc _ _ _ _);exact wpIn_ret ⟨.inr rfl,_,_,_,_,_,h12,by simp +decide (maxDischargeDepth:=200) only[go_sem];rfl⟩
  . have hemp:(l.map aa).isEmpty=false:=by
     cases l with
     |nil=>exact absurd rfl hl0
     |cons x l=>rfl
    have hlen:(l.map aa).length=l.toArray.size:=by simp
    rw[hemp] at hrd hrow;obtain⟨g,⟨lim,cap,cur,ty,hv,hh6,hle,hsz⟩,hge⟩:=hrow _ _ _ rfl;rw[hlen] at hv hle;subst hv;have hcur:=Fj rfl hrd hh6;have hKg:eu<=g:=VA (hE.high _ q1.J) hge;have hsz0:l.toArray.size=l.length:=by simp
    have h6:=OneG.after (Kn':=Kno.top) (d:=39) (by decide) (v:=(.slice (some ⟨g,0,none⟩) l.toArray.size cap)) q1 q2 q3 q4 q6 rfl hst6 hj6 trivial hge hh6;refine gh hE 3 2 [(10,.ptr 10 0)] [(10,[.x (.slice (some ⟨g,0,none⟩) l.toArray.size cap)])] [] (by decide) (by kernel_rfl) (by kernel_rfl) h6 (by simp +decide (maxDischargeDepth:=200) only[go_sem,Nat.reduceBEq]<;>(repeat' first|rfl|constructor)) ?_;clear h6 hrow hrd;intro a7 w7 h7;refine wpIn_seq (wpIn_region ?_);refine gh hE 0 1 [(10,.ptr 10 0),(40,.x (.slice (some ⟨g,0,none⟩) l.toArray.size cap))] [(10,[.x (.slice (some ⟨g,0,none⟩) l.toArray.size cap)])] [1,2,3] (by decide) (by kernel_rfl) (by kernel_rfl) h7 (by simp +decide (maxDischargeDepth:=200) only[go_sem,Nat.reduceBEq]<;>(repeat' first|rfl|constructor)) ?_;clear h7 a7 w7;intro a7 w7 h7;have e40:a7.eval (.tmp 40)=(.slice (some ⟨g,0,none⟩) l.toArray.size cap):=by obtain⟨m5,O5,hn5,_⟩:=h7;exact hn5.read_x 40 (by simp only[go_sem,Nat.reduceEqDiff,Vc,Vi,bL,aq])
    refine i8 (i:=1) (rest:=[2,3]) (d:=41) rfl (fun c e=>by cases e) rfl (by decide) rfl rfl h7 (.iface 32 (.slice (some ⟨g,0,none⟩) l.toArray.size cap)) ?_ ?_
    . have hmi:(Instr.makeInterface 32 (.slice (some ⟨g,0,none⟩) l.toArray.size cap)).run Tryz.prog w7= .ok (.iface 32 (.slice (some ⟨g,0,none⟩) l.toArray.size cap)) w7:=run_makeInterface _ _ _ (by kernel_rfl);simp only[execOp,Sem.run_bind,e40,dM,hmi,Result.andThen_ok,Sem.run_pure]
    intro a8 h8 ha8;obtain⟨Bk,vals,tyB,frB,e10,hB,hB0,hne⟩:∃Bk vals tyB frB,a8.tmps.getD 10 Go.undef= .pointer (some ⟨Bk,0,none⟩)∧w7.heap[Bk]?=some (.cells vals tyB frB)∧vals[0]?=some (.slice (some ⟨g,0,none⟩) l.toArray.size cap)∧Bk≠g:=by obtain⟨m5,O5,hn5,_,_,_,_,_,hng,_⟩:=h8;obtain⟨b,vals,ty,fr,e,e2,e3,e4⟩:=hn5.box_at (i:=10) (s:=10) (v:=(.slice (some ⟨g,0,none⟩) l.toArray.size cap)) (by simp only[go_sem,St.put,Nat.reduceEqDiff,Vc,Vi,bL,aq]) (by simp only[go_sem,St.put,Nat.reduceEqDiff,Vc,Vi,A3,aq]);exact⟨b,vals,ty,fr,e,e2,e3,fun e=>hng (e▸e4)⟩
    refine i8 (i:=2) (rest:=[3]) (d:=42) rfl (fun c e=>by cases e) rfl (by decide) rfl rfl h8 (.func (.func 56) #[] #[.pointer (some ⟨Bk,0,none⟩)]) ?_ ?_
    . have e10':a8.eval (.tmp 10)= .pointer (some ⟨Bk,0,none⟩):=e10;simp only[execOp,Sem.run_bind,Instr.makeFunc,Sem.run_pure,Result.andThen_ok];simp[e10']
    intro a9 h9 ha9;have e41:a9.tmps.getD 41 Go.undef= .iface 32 (.slice (some ⟨g,0,none⟩) l.toArray.size cap):=by obtain⟨m5,O5,hn5,_⟩:=h9;exact hn5.read_x 41 (by simp only[go_sem,St.put,Nat.reduceEqDiff,Vc,Vi,bL,aq])
    have e42:a9.tmps.getD 42 Go.undef= .func (.func 56) #[] #[.pointer (some ⟨Bk,0,none⟩)]:=by obtain⟨m5,O5,hn5,_⟩:=h9;exact hn5.read_x 42 (by simp only[go_sem,St.put,Nat.reduceEqDiff,Vc,Vi,bL,aq])
    have hgs:w.heap.size<=g:=VA q3.ext.size hge;obtain⟨hj9,hh9⟩:(au []).J w7∧w7.heap[g]?=some (.cells cur ty (0,0)):=by obtain⟨m5,O5,hn5,_,_,_,_,_,_,hh9,_⟩:=h9;exact⟨hn5.J,hh9⟩
    have hS:=Qn (blk:=g) (Bk:=Bk) (cap:=cap) (d:=l.toArray) hh9 (by simpa using hcur) hB hB0 hne hle (by unfold MX;omega) hKg hj9;refine jz (i:=3) (rest:=[]) rfl rfl rfl rfl (fun a w=>Tryz.call48 a w) (by rw[show Array.map a9.eval #[.tmp 41,.tmp 42]= #[a9.tmps.getD 41 Go.undef,a9.tmps.getD 42 Go.undef] from by simp[Act.eval],e41,e42];exact hS) ?_;rintro e w8 ⟨rfl,d',hp,hs8,hb8,m8,hbx⟩;refine⟨_,rfl,?_⟩;obtain⟨hsrt,hpm⟩:=Fi hp hs8 (by simpa using hnd);have hrn:d'.toList=aw nd:=tO hsrt (fun p=>(hpm.mem_iff).trans (by simpa using hmem p));have hds:d'.size=l.toArray.size:=hp.1;have h10:=OneG.done (v:=(.slice (some ⟨g,0,none⟩) l.toArray.size cap)) (u:= .sl false 3 ((aw nd).map aa) none) hE h9 ⟨_,_,_,rfl⟩ hgs hKg hb8 (fun m hm=>by have:=Ff hbx (by rw[hds];exact hle) m hm;rw[hds,hrn] at this;exact this)
    have h11:=h10.putU (d:=43) (by decide) rfl (.tuple #[]);show Exit.then _ _ Exit.normal _ _;generalize a9.put (some 43) _=a10 at h11;refine wpIn_seq (eB hE hm [(2,.x (.slice (some ⟨g,0,none⟩) l.toArray.size cap))] [] (by kernel_rfl) (by kernel_rfl) h11 (by simp +decide (maxDischargeDepth:=200) only[go_sem,Nat.reduceBEq,St.put]<;>(repeat' first|rfl|constructor)) ?_);intro a11 w11 h12;have e2:a11.tmps.getD 2 Go.undef=(.slice (some ⟨g,0,none⟩) l.toArray.size cap):=by obtain⟨m5,O5,hn5,_⟩:=h12;exact hn5.read_x 2 (by simp only[go_sem,Nat.reduceEqDiff,Vc,Vi,bL,aq])
    have h13:=One.know (n:=45) (d:=2) (by decide) h12 e2 (dc _ _ _ _);have hne2:(aw nd).isEmpty=false:=by
     cases hc:aw nd with
     | nil=>
       rw[hc] at hrn;have h0:l.toArray.size=0:=by rw[<-hds,<-Vk,hrn];rfl
       exact absurd (List.eq_nil_of_length_eq_zero (by omega)) hl0
     |cons x r=>rfl
    have hsz3:jw (aw nd)=3:=by
     cases hc:aw nd with
     |nil=>rw[hc] at hne2;cases hne2
     |cons x r=>rfl
    exact wpIn_ret ⟨.inr rfl,_,_,_,_,_,h13,by rw[hne2,hsz3];simp +decide (maxDischargeDepth:=200) only[go_sem]⟩
set_option maxHeartbeats 8000000
theorem zp:bM 49 Jn:=by
 refine av (E:=au [(50,bd)]) (k:=3) (aM _ ⟨tt,trivial⟩) (by kernel_rfl) Tryz.func49 rfl (fun a w=>Tryz.call49 a w) Tryz.ntmps49 (by kernel_rfl) (by decide) (by decide) ?_;intro us r hF hdat;unfold Jn at hF;split at hF
 case h_2=>cases hF
 rename_i i j es;split at hF
 case h_2=>cases hF
 rename_i s c r s' c' r' hi hj;obtain⟨⟨h0,h1⟩,hF⟩:=bv hF;cases hF;refine⟨rfl,?_⟩;have e1:bd [.agg [.x (.string s),.x (.int .i64 c),.x (.int .i64 r)],.agg [.x (.string s'),.x (.int .i64 c'),.x (.int .i64 r')]]=some (.x (.bool (dG s c r s' c' r'))):=rfl;simp +decide (maxDischargeDepth:=200) only[go_sem,h0,h1,hi,hj,e1]
section
variable {G:Nat->V} {bk Bk N cap:Nat}
theorem It (hcap:N<=cap) (hG:G Bk= .ip [.x (.slice (some ⟨bk,0,none⟩) N cap)]):FunXV G bk 49 [.pointer (some ⟨Bk,0,none⟩)] (FE en2 (GLess N)):=by
 intro m w vs us bs gs' hs r outs hF hargs hnd hhnd hj hg;obtain⟨⟨i,j,d⟩,hus,hGl⟩:=aZ hF;subst hus;unfold GLess at hGl;obtain⟨⟨hi,hjj,hd⟩,hGl⟩:=bv hGl;simp only at hi hjj hd;cases hGl;obtain⟨v1,v2,rfl⟩:=xx hargs;simp only[en2] at hargs;cases hargs with
 | dat hr1 hd1 h1=>
   cases h1 with
   | dat hr2 hd2 h2=>
     cases h2 with
     |dat hr3 hd3 h3=>cases hd3
     | bx hb hK h3=>
       cases h3;cases hr1;cases hr2;have hB:Rd m w (.pointer (some ⟨Bk,0,none⟩)) (.ip [.x (.slice (some ⟨bk,0,none⟩) N cap)]):=by have:=hg Bk;have e:(dB G (fun _ _=>none) 0).G Bk= .ip [.x (.slice (some ⟨bk,0,none⟩) N cap)]:=hG;rw[e] at this;exact this
       have hip:=zo hb hd hcap hB;obtain⟨p,hp⟩:∃p,d.toList[i]?=some p:=⟨_,io (by simpa using(show i<d.size by omega))⟩;obtain⟨q,hq⟩:∃q,d.toList[j]?=some q:=⟨_,io (by simpa using(show j<d.size by omega))⟩;have hat:∀(k:Nat) (p:C3),k<d.size->d.toList[k]?=some p->d[k]! =p:=fun k p hk h=>by rw[io (by simpa using hk)] at h;rw[Xw d k hk];simpa using h
       have hpe:=hat i p (by omega) hp;have hqe:=hat j q (by omega) hq;have hFL:Jn [.x (.int .i64 (i:Int)),.x (.int .i64 (j:Int)),.ip [.sl false 3 (d.toList.map aa) none]]=some (.x (.bool (ac d[i]! d[j]!))):=by rw[hpe,hqe,zn];simp only[Jn,ca hp,ca hq,bg];rw[Va ⟨by omega,by omega⟩]
       have hcalls:=zp.2 (fun _=>none) w #[.int .i64 (i:Int),.int .i64 (j:Int),.pointer (some ⟨Bk,0,none⟩)] _ _ hFL rfl ⟨.x _,.x _,hip,trivial⟩ hj (fun g=> .undef _);refine .inl ⟨zp.1 _ _,?_⟩;refine hcalls.mono ?_;rintro e w' ⟨v,m',rfl,hv,hbel,_⟩;cases hv;have hblk:bk<w.heap.size:=by obtain⟨_,_,_,_,_,hhb,_⟩:=hb;exact ae hhb
       have hbx:BoxAt m w' bk (az d):=by obtain⟨hlim,vals,ty,xs,rest,hh,hv,hr⟩:=hb;rw[cM] at hr;have hx:=mo hr;subst hx;exact⟨hlim,vals,ty,_,rest,(hbel.block bk hblk).trans hh,hv,by rw[cM];exact kj _⟩
       exact⟨_,rfl,m,.x _,⟨hbel.os,hbel.tape,hbel.output,hbel.size,fun k hk _=>hbel.block k hk⟩,Ext.of_below hbel (fun _ _=>rfl),fun _ _ _=>rfl,⟨[az d],[],by simp,⟨hbx,trivial⟩,trivial⟩,fun sz es k e=>by cases e⟩
end
theorem Lf {blk:Nat} (hh:w.heap[blk]?=some (.cells cur ty (0,0))) (hcur:∃rest,cur.toList=d.toList.flatMap cu++rest) {vals:Array Value} (hB:w.heap[Bk]?=some (.cells vals tyB frB)) (hB0:vals[0]?=some (.slice (some ⟨blk,0,none⟩) d.size cap)) (hne:Bk≠blk) (hcap:d.size<=cap) (hN:d.size<=MX) (hK:eu<=blk) (hj:(au []).J w):
 Calls Tryz.prog 48 #[.iface 32 (.slice (some ⟨blk,0,none⟩) d.size cap),.func (.func 49) #[] #[.pointer (some ⟨Bk,0,none⟩)]] w fun e w'=>e= .returned (.tuple #[])∧∃d':Array C3,PermIn 0 d.size d d'∧SortedIn ac 0 d.size d'∧Bel [blk] w w'∧∃m',BoxAt m' w' blk (az d'):=by
 have hi:Tryz.prog.info? 32=some fQ:=by kernel_rfl
 have hdd:fQ.desc= .slice 24:=by kernel_rfl
 have hie:Tryz.prog.info? 24=some eU:=by kernel_rfl
 have hke:∀w,(Extern.Rtype.kind 24).run Tryz.prog w= .ok 25 w:=fun _=>by kernel_rfl
 obtain⟨rest,hcur⟩:=hcur;have hN1:d.size<=1000000:=hN;let m:Lim:=fun b=>if b=blk then some 0 else none
 have hbx:∀w2:World,w2.heap[blk]?=w.heap[blk]?->BoxAt m w2 blk (az d):=fun w2 e=>⟨Va rfl,cur,.plain ty,_,rest,e.trans hh,hcur,by rw[cM];exact kj _⟩
 have hblk:=ae hh;have hBk:=ae hB;by_cases h2:2<=d.size
 . let G:Nat->V:=fun b=>if b=Bk then .ip [.x (.slice (some ⟨blk,0,none⟩) d.size cap)] else .undef
   have hG:G Bk= .ip [.x (.slice (some ⟨blk,0,none⟩) d.size cap)]:=Va rfl;have hx:∀args W,(callFunc 100 args).run Tryz.prog W=((Extern.ReflectliteSwapper.swap false args).run Tryz.prog W).andThen fun v w'=> .ok (.value v) w':=fun args W=>run_callFunc_extern Tryz.func100 (by kernel_rfl) (by kernel_rfl) (by kernel_rfl) (e:=Extern.ReflectliteSwapper.swap false) (by kernel_rfl) args W
   have hsw:=swapSwapsK_of_literal (P:=Tryz.prog) false 100 hx 24 eU hie cu 3 (fun _=>rfl) (by kernel_rfl) (fun _=>by kernel_rfl) (fun p v hv=>by simp only[cu,Vf,WK,X8] at hv;rcases hv with rfl|rfl|rfl<;>rfl) blk 0 d.size cap
   have hS:SoOK G blk d.size 49 100 #[.pointer (some ⟨Bk,0,none⟩)] #[.slice (some ⟨blk,0,none⟩) d.size cap,typeHandle Tryz.prog 24]:=⟨by simp,by simp,by decide,hN,It hcap hG,Fd hsw⟩;have hP:=Jl hS (Jm hN hsw) (d.size+1);refine Any.sort_Slice_of_pdq (P:=Tryz.prog) (ρ:=Tryz.laysGg6_ren) Tryz.laysGg6 32 24 fQ eU hi hdd (by kernel_rfl) hie 25 hke (some ⟨blk,0,none⟩) d.size cap (by unfold MX at hN;omega) 100 (by rw[QO _ h2];kernel_rfl) (.func 49) #[] #[.pointer (some ⟨Bk,0,none⟩)] w _ ?_;have hsb:sliceBound Tryz.prog 24 eU 25 (some ⟨blk,0,none⟩) d.size cap= #[.slice (some ⟨blk,0,none⟩) d.size cap,typeHandle Tryz.prog 24]:=by unfold sliceBound;rw[QO _ h2];rfl
   rw[hsb];generalize hW:sliceWorld Tryz.prog Tryz.laysGg6_ren 32 (some ⟨blk,0,none⟩) d.size cap w=W;have hbel:Below w.heap.size w W:=by rw[<-hW];unfold sliceWorld;exact((Below.refl _ w).alloc (Vb _) _).alloc (by simp) _
   have hjW:(au []).J W:=Glob.low hj hbel.size ⟨hbel.os,hbel.tape,hbel.output,hbel.size,fun k hk=>hbel.block k (VD hk (Glob.high hj))⟩;have hb:=hbx W (hbel.block blk hblk);have hl62:Lib.bitLen d.size<=62:=Lib.bitLen_le d.size 62 (by omega) (by omega);have hF:=qY (g:=49) (sf:=100) (gl:= #[.pointer (some ⟨Bk,0,none⟩)]) (gs:= #[.slice (some ⟨blk,0,none⟩) d.size cap,typeHandle Tryz.prog 24]) (N:=d.size) (d.size+1) 0 d.size (Lib.bitLen d.size) d (by omega) (by omega) (Vb _) (by omega) rfl (.inl rfl)
   have hargs:ArgsP m W eu [.agg #[.func (.func 49) #[] #[.pointer (some ⟨Bk,0,none⟩)],.func (.func 100) #[] #[.slice (some ⟨blk,0,none⟩) d.size cap,typeHandle Tryz.prog 24]],.int .i64 ((0:Nat):Int),.int .i64 (d.size:Int),.int .i64 (Lib.bitLen d.size:Int),.pointer (some ⟨blk,0,none⟩)] [dJ 49 100 #[.pointer (some ⟨Bk,0,none⟩)] #[.slice (some ⟨blk,0,none⟩) d.size cap,typeHandle Tryz.prog 24],.x (.int .i64 ((0:Nat):Int)),.x (.int .i64 (d.size:Int)),.x (.int .i64 (Lib.bitLen d.size:Int)),.bx (az d)] [blk] [] []:=
    .dat (Rd.agg_iff.2 ⟨_,rfl,.x _,.x _,trivial⟩) rfl (.dat (.x _) rfl (.dat (.x _) rfl (.dat (.x _) rfl (.bx hb hK .nil))))
   have hgl:∀g,Rd m W (.pointer (some ⟨g,0,none⟩)) (G g):=fun b=>by
    show Rd m W _ (if b=Bk then _ else _);split
    . rename_i e;subst e;have hBW:=(hbel.block b hBk).trans hB;refine .ip b 0 _ (fun _=> .slice (some ⟨blk,0,none⟩) d.size cap) (ae hBW) (fun k hk=>?_) (fun fr hf=>?_) (fun k dd hk=>?_)
      . have:k=0:=by simpa using hk
        subst this;rw[Box.cell hBW];exact hB0
      . have:m b=none:=Vh hne;rw[this] at hf;cases hf
      . cases k with
        |zero=>cases hk;exact .x _
        |succ k=>simp at hk
    . exact .undef _
   rcases hP m W #[.agg #[.func (.func 49) #[] #[.pointer (some ⟨Bk,0,none⟩)],.func (.func 100) #[] #[.slice (some ⟨blk,0,none⟩) d.size cap,typeHandle Tryz.prog 24]],.int .i64 ((0:Nat):Int),.int .i64 (d.size:Int),.int .i64 (Lib.bitLen d.size:Int)] _ [blk] [] [] _ _ hF hargs (by simp) (by simp) hjW hgl with⟨_,hc⟩|⟨v,w',he,_⟩
   . rw[show ∀a:Array Value,a++(⟨[]⟩:Array Value)=a from fun a=>Xt] at hc;refine hc.mono ?_;rintro e w' ⟨v,rfl,m',hv,hb2,_,_,⟨o1,o2,ho,hou,_⟩,_⟩;have hs:=Go.Sort.pdq_sorts ac fP d 0 d.size (Lib.bitLen d.size) true true (VJ _) (Vb _) (.inl rfl);have hvt:v= .tuple #[]:=by obtain⟨cs,rfl,hcs⟩:=Rd.tup_iff.1 hv;have:=hcs.length;simp only[Vk,VB] at this;rw[Wf this]
     subst hvt;refine⟨rfl,_,hs.1,hs.2,⟨hb2.os.trans hbel.os,hb2.tape.trans hbel.tape,hb2.output.trans hbel.output,VA hbel.size hb2.size,fun k hk hn=>(hb2.block k (VD hk hbel.size) (by simpa using hn)).trans (hbel.block k hk)⟩,m',?_⟩;cases o1 with
     |nil=>exact hou.elim
     |cons c o1=>obtain⟨e,_⟩:=VZ (show[az _]=c::(o1++o2) from ho);rw[e];exact hou.1
   . have he2:=(Tryz.call74 _ _).symm.trans he;cases he2
 . have hz:d.size=0∨d.size=1:=by omega
   have hf:∃f,Tryz.prog.funcs.findIdx? (·.name== "internal/reflectlite" ++ ".Swapper$" ++toString (Lib.swapperK d.size eU 25))=some f:=by
    rcases hz with e|e
    . exact⟨92,by rw[e];kernel_rfl⟩
    . exact⟨93,by rw[e];kernel_rfl⟩
   obtain⟨f,hf⟩:=hf;refine(Any.sort_Slice_tiny (P:=Tryz.prog) (ρ:=Tryz.laysGg6_ren) Tryz.laysGg6 32 24 fQ eU hi hdd (by kernel_rfl) hie 25 hke (some ⟨blk,0,none⟩) d.size cap (by omega) f hf (.func 49) #[] #[.pointer (some ⟨Bk,0,none⟩)] w).mono ?_;rintro e w' ⟨rfl,os,rfl⟩;refine⟨rfl,d,Go.Sort.permIn_refl d _ _,fun i j _ h1 h3=>by omega,⟨rfl,rfl,rfl,by simp[Go.Sort.grow],fun k hk _=>Go.Sort.heap_grow_old _ _ hk⟩,m,hbx _ (Go.Sort.heap_grow_old _ _ hblk)⟩
end Go.Proofs.YtalkmhjanlljhaaGreat
