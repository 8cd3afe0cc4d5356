/- MU -/
import Derived.Sort.Walk13a
import Derived.Sort.LotD3
import Derived.Test.YtiepfeebmnfbdaaGreatMS
import Derived.Shelf.SlSortFuncK.BreakPatternsK
import Derived.Sort.Grow
import Derived.Shelf.GgSortFunc.Slice
import Derived.Test.YtiepfeebmnfbdaaGreatMJ
namespace Go.Proofs.YtiepfeebmnfbdaaGreat
noncomputable section
open Tryz
set_option linter.unusedSimpArgs false
set_option maxHeartbeats 16000000
set_option maxRecDepth 100000
open Go Go.RowKit
open Go.Sort (swp)
attribute [go_sem] results45 results56 results63 results68
theorem Xa{P:Prop}(h:P:=by rename_i s c r s' c' r' hi hj;obtain⟨⟨h0,h1⟩,hF⟩:=bK hF;cases hF;refine⟨rfl,?_⟩;have e1:bp [.agg [.x (.string s),.i c,.i r],.agg [.x (.string s'),.i c',.i r']]=some (.bool (eF s c r s' c' r')):=rfl;simp +decide only[go_sem,h0,h1,hi,hj,e1]):P:=h
theorem XN{P:Prop}(h:P:=by have e10':a8.eval (.tmp 10)= .p Bk:=e10;simp only[execOp,Gc,Instr.makeFunc,Gd,Ge];simp[e10']):P:=h
theorem XM{P:Prop}(h:P:=by simp +decide only[go_sem,X1,X2,X3,bC,c5,q]):P:=h
theorem XD{P:Prop}(h:P:=by simp only[execOp,Gc,e40,ir,hmi,Ge,Gd]):P:=h
theorem D5{ρ:Type}{p:Prop}{_inst:Decidable p}{o:Option ρ}{r:ρ}(h:(if p then o else none)=some r):p∧o=some r:=by
 by_cases hp:p
 . rw[adl hp] at h;exact⟨hp,h⟩
 . rw[adq hp] at h;cases h
open Go.Sort (SWO Below rd PermIn SortedIn)
theorem gO:SWO ae:=by
 refine⟨bQ.irr,bQ.trans,fun x y z h1 h2=>?_⟩;cases h3:ae x z with
 |false=>rfl
 | true=>
   cases h4:ae y x with
   |true=>rw[bQ.trans _ _ _ h4 h3] at h2;cases h2
   |false=>have:=bQ.tri _ _ h1 h4;subst this;rw[h3] at h2;cases h2
def BI(N:Nat)(x:Nat×Nat×Array C3):Option (V×List U):=if x.1<=x.2.1∧x.2.1<=N∧x.2.2.size=N then some (.tup [],[aH (Sort.breakPatterns x.2.2 x.1 x.2.1)]) else none
open Classical in
def xP(N n:Nat)(x:Nat×Nat×Nat×Array C3):Option (V×List U):=if x.2.1-x.1<n∧x.1<=x.2.1∧x.2.1<=N∧x.2.2.1<=100∧x.2.2.2.size=N∧Below ae x.1 x.2.1 x.2.2.2 then some (.tup [],[aH (Sort.pdq ae x.2.2.2 x.1 x.2.1 x.2.2.1 true true)]) else none
section
variable{g sf:FuncId}{gl gs:Array Value}{N:Nat}
theorem SM(a b:Nat)(d:Array C3)(h1:a<=b)(h2:b<=N)(h3:d.size=N):FE (fb g sf gl gs) (Kp N) [eH g sf gl gs,.i a,.i b,.bx (aH d)]=some (.tup [],[aH (Sort.insertionSort ae d a b)]):=
 (ca i8 (Kp N) (a,b,d)).trans (adl ⟨h1,h2,h3⟩)
theorem Pj(a b:Nat)(d:Array C3)(h1:a<=b)(h2:b<=N)(h3:d.size=N):FE (fb g sf gl gs) (xG N) [eH g sf gl gs,.i a,.i b,.bx (aH d)]=some (.tup [],[aH (Sort.heapSort ae d a b)]):=
 (ca i8 (xG N) (a,b,d)).trans (adl ⟨h1,h2,h3⟩)
theorem SN(a b:Nat)(d:Array C3)(h1:a<=b)(h2:b<=N)(h3:d.size=N):FE (fb g sf gl gs) (BI N) [eH g sf gl gs,.i a,.i b,.bx (aH d)]=some (.tup [],[aH (Sort.breakPatterns d a b)]):=
 (ca i8 (BI N) (a,b,d)).trans (adl ⟨h1,h2,h3⟩)
theorem SO(a b:Nat)(d:Array C3)(h1:a<b)(h2:b<=N)(h3:d.size=N):FE (fb g sf gl gs) (Ku N) [eH g sf gl gs,.i a,.i b,.bx (aH d)]=some (.tup [.i ((Sort.choosePivot ae d a b).1:Int),.i (Sort.hintCode (Sort.choosePivot ae d a b).2)],[aH d]):=
 (ca i8 (Ku N) (a,b,d)).trans (adl ⟨h1,h2,h3⟩)
theorem SP(a b:Nat)(d:Array C3)(h1:a<b)(h2:b<=N)(h3:d.size=N):FE (fb g sf gl gs) (Ks N) [eH g sf gl gs,.i a,.i b,.bx (aH d)]=some (.tup [],[aH (Sort.reverseRange d a b)]):=
 (ca i8 (Ks N) (a,b,d)).trans (adl ⟨h1,h2,h3⟩)
theorem Pk(a b:Nat)(d:Array C3)(h1:a<b)(h2:b<=N)(h3:d.size=N):FE (fb g sf gl gs) (xJ N) [eH g sf gl gs,.i a,.i b,.bx (aH d)]=some (.bool (Sort.partialInsertionSort ae d a b).2,[aH (Sort.partialInsertionSort ae d a b).1]):=
 (ca i8 (xJ N) (a,b,d)).trans (adl ⟨h1,h2,h3⟩)
theorem Pn(a b pv:Nat)(d:Array C3)(h1:a<=pv)(h0:pv<b)(h2:b<=N)(h3:d.size=N):FE (g7 g sf gl gs) (xH N) [eH g sf gl gs,.i a,.i b,.i pv,.bx (aH d)]=some (.tup [.i ((Sort.partition ae d a b pv).1:Int),.bool (Sort.partition ae d a b pv).2.1],[aH (Sort.partition ae d a b pv).2.2]):=
 (ca mQ (xH N) (a,b,pv,d)).trans (adl ⟨h1,h0,h2,h3⟩)
theorem KC(a b pv:Nat)(d:Array C3)(h1:a<=pv)(h0:pv<b)(h2:b<=N)(h3:d.size=N):FE (g7 g sf gl gs) (ql N) [eH g sf gl gs,.i a,.i b,.i pv,.bx (aH d)]=some (.i ((Sort.partitionEqual ae d a b pv).1:Int),[aH (Sort.partitionEqual ae d a b pv).2]):=
 (ca mQ (ql N) (a,b,pv,d)).trans (adl ⟨h1,h0,h2,h3⟩)
theorem uz(n a b lim:Nat)(d:Array C3)(h0:b-a<n)(h1:a<=b)(h2:b<=N)(h3:lim<=100)(h4:d.size=N)(h5:Below ae a b d):FE (g7 g sf gl gs) (xP N n) [eH g sf gl gs,.i a,.i b,.i lim,.bx (aH d)]=some (.tup [],[aH (Sort.pdq ae d a b lim true true)]):=
 (ca mQ (xP N n) (a,b,lim,d)).trans (adl ⟨h0,h1,h2,h3,h4,h5⟩)
end
variable{G:Nat->V}{bk N:Nat}{g sf:FuncId}{gl gs:Array Value}
abbrev Bp(a1 b1 l1:Nat)(wb wp):=([(1,.i a1),(2,.i b1),(3,.i l1),(4,.ptr 4 0),(8,.bool wb),(9,.bool wp),(10,.i (b1-a1:Nat))]:List (Nat×V))
abbrev Ck(b1 a1:Nat):=((10,.i (b1-a1:Nat)):Nat×V)
theorem KD(hS:SoOK G bk N g sf gl gs)(hB:FunXV G bk 91 [] (FE (fb g sf gl gs) (BI N)))(n:Nat)(ih:FunXV G bk 68 [] (FE (g7 g sf gl gs) (xP N n))):FunXV G bk 68 [] (FE (g7 g sf gl gs) (xP N (n+1))):=by
 obtain⟨X,hX,X1,X2,X3⟩:=jO hS [(89,FE (fb g sf gl gs) (Kp N)),(90,FE (fb g sf gl gs) (xG N)),(91,FE (fb g sf gl gs) (BI N)),(92,FE (fb g sf gl gs) (Ku N)),(93,FE (fb g sf gl gs) (Ks N)),(94,FE (fb g sf gl gs) (xJ N)),(95,FE (g7 g sf gl gs) (ql N)),(96,FE (g7 g sf gl gs) (xH N)),(68,FE (g7 g sf gl gs) (xP N n))] ⟨X4 hS,SI hS,hB,Yb hS,X8 hS,SK hS,Ph hS,SJ hS,ih,trivial⟩;have hN:=hS.N1;unfold MX at hN;refine cM (k:=4) hX func68 rfl (fun a w=>call68 a w) ntmps68 A0c A0c ?_;intro us r outs hF;obtain⟨⟨a,b,lim,d⟩,hus,hG⟩:=bh hF;subst hus;unfold xP at hG;obtain⟨⟨hn,hab,hbN,hlim,hd,hBel⟩,hG⟩:=D5 hG;simp only at hn hab hbN hlim hd hBel;cases hG;refine⟨_,rfl,rfl,fun pm m0 w0 hE=>?_⟩;simp only[g7];obtain⟨P,hP⟩:∃P,Sort.pdq ae d a b lim true true=P:=⟨_,rfl⟩;rw[hP];refine Sem.seq [(1,.i a),(2,.i b),(3,.i lim),(4,.ptr 4 0)] [(4,[.x (.func (.func g) #[] gl),.x (.func (.func sf) #[] gs)]),(1004,aH d)] (Sem.run hE ai A0a A0o) ?_;refine Sem.seq [(1,.i a),(2,.i b),(3,.i lim),(4,.ptr 4 0),(8,.bool true)] [(4,[.x (.func (.func g) #[] gl),.x (.func (.func sf) #[] gs)]),(1004,aH d)] (Sem.run hE ai A0a A0o) ?_;refine Sem.seq [(1,.i a),(2,.i b),(3,.i lim),(4,.ptr 4 0),(8,.bool true),(9,.bool true)] [(4,[.x (.func (.func g) #[] gl),.x (.func (.func sf) #[] gs)]),(1004,aH d)] (Sem.run hE ai A0a A0o) ?_;refine Sem.block (Sem.loop (X:={x:Nat×Nat×Nat×Bool×Bool×Array C3//x.1<=x.2.1∧x.2.1<=N∧x.2.1-x.1<=b-a∧x.2.2.1<=lim∧x.2.2.2.2.2.size=N∧Below ae x.1 x.2.1 x.2.2.2.2.2∧Sort.pdq ae x.2.2.2.2.2 x.1 x.2.1 x.2.2.1 x.2.2.2.1 x.2.2.2.2.1=P}) (fun x=>[(1,.i x.1.1),(2,.i x.1.2.1),(3,.i x.1.2.2.1),(4,.ptr 4 0),(8,.bool x.1.2.2.2.1),(9,.bool x.1.2.2.2.2.1)]) (fun x=>[(4,[.x (.func (.func g) #[] gl),.x (.func (.func sf) #[] gs)]),(1004,aH x.1.2.2.2.2.2)]) (fun x=>x.1.2.1-x.1.1) ⟨(a,b,lim,true,true,d),hab,hbN,adp _,adp _,hd,hBel,hP⟩ A0e A0e (fun⟨⟨a1,b1,l1,wb,wp,dk⟩,x1,x2,x3,x4,hdk,hBk,heq⟩=>Sem.block ?_));simp only at x1 x2 x3 x4 hdk hBk heq⊢;have w1:az .i64 ((b1:Int)-(a1:Int))=((b1-a1:Nat):Int):=by rw[ak A0j];omega
 refine Sem.seq (Bp a1 b1 l1 wb wp) [(4,[.x (.func (.func g) #[] gl),.x (.func (.func sf) #[] gs)]),(1004,aH dk)] (Sem.run hE ai A0a A1e) ?_;by_cases h12:b1-a1<=12
 . have c1:decide (((b1-a1:Nat):Int)<=12)=true:=ac0 A0b;have e1:=SM (g:=g) (sf:=sf) (gl:=gl) (gs:=gs) (N:=N) a1 b1 dk x1 x2 hdk;rw[<-heq,Sort.pdq_small h12];refine Sem.seq_out (Sem.run hE ai A0a ?_);simp +decide only[go_sem,X1,X2,X3,bC,c1,e1]
 have c1:decide (((b1-a1:Nat):Int)<=12)=false:=Io A0b;refine Sem.seq (Bp a1 b1 l1 wb wp) [(4,[.x (.func (.func g) #[] gl),.x (.func (.func sf) #[] gs)]),(1004,aH dk)] (Sem.run hE ai A0a A0P) ?_;by_cases hl0:l1=0
 . have c2:decide ((l1:Int)=0)=true:=ac0 A0b;have e1:=Pj (g:=g) (sf:=sf) (gl:=gl) (gs:=gs) (N:=N) a1 b1 dk x1 x2 hdk;rw[<-heq,Sort.pdq_heap h12 hl0];refine Sem.seq_out (Sem.run hE ai A0a ?_);simp +decide only[go_sem,X1,X2,X3,bC,c2,e1]
 have c2:decide ((l1:Int)=0)=false:=Io A0b;refine Sem.seq (Bp a1 b1 l1 wb wp) [(4,[.x (.func (.func g) #[] gl),.x (.func (.func sf) #[] gs)]),(1004,aH dk)] (Sem.run hE ai A0a A1g) ?_;obtain⟨R,hR⟩:∃R,rd ae dk a1 b1 l1 wb wp=R:=⟨_,rfl⟩;obtain⟨s1,B1,hc1,s2,B2,hpv,s3,B3⟩:=Sort.rd_facts (lt:=ae) (limit:=l1) (wb:=wb) (wp:=wp) gO Sort.partialInsertionSort_holds Sort.reverseRange_holds (show a1<b1 by omega) (show b1<=dk.size by omega) hBk;have hlm:=Sort.rd_lim_le (lt:=ae) (d:=dk) (a:=a1) (b:=b1) (limit:=l1) (wb:=wb) (wp:=wp);rw[hR] at s1 B1 hc1 s2 B2 hpv s3 B3 hlm;refine Sem.seq [(1,.i a1),(2,.i b1),(3,.i R.lim),(4,.ptr 4 0),(8,.bool wb),(9,.bool wp),(Ck b1 a1)] [(4,[.x (.func (.func g) #[] gl),.x (.func (.func sf) #[] gs)]),(1004,aH R.d1)] (Sem.run hE ai A0a ?_) ?_
 . cases wb with
   |true=>obtain⟨q1,q2⟩:=Sort.rd_true (lt:=ae) (d:=dk) (a:=a1) (b:=b1) (limit:=l1) (wp:=wp);rw[hR] at q1 q2;rw[q1,q2];simp +decide only[go_sem,X1,X2,X3,bC]
   | false=>
     obtain⟨q1,q2⟩:=Sort.rd_false (lt:=ae) (d:=dk) (a:=a1) (b:=b1) (limit:=l1) (wp:=wp);rw[hR] at q1 q2;have e1:=SN (g:=g) (sf:=sf) (gl:=gl) (gs:=gs) (N:=N) a1 b1 dk x1 x2 hdk;have w2:az .i64 ((l1:Int)-1)=((l1-1:Nat):Int):=by rw[ak A0j];omega
     rw[q1,q2];simp +decide only[go_sem,X1,X2,X3,bC,e1,w2]
 have ec:=Sort.rd_c (lt:=ae) (d:=dk) (a:=a1) (b:=b1) (limit:=l1) (wb:=wb) (wp:=wp);rw[hR] at ec;have e2:=SO (g:=g) (sf:=sf) (gl:=gl) (gs:=gs) (N:=N) a1 b1 R.d1 A0b x2 (s1.trans hdk);rw[<-ec] at e2;refine Sem.seq [(1,.i a1),(2,.i b1),(3,.i R.lim),(4,.ptr 4 0),(8,.bool wb),(9,.bool wp),(Ck b1 a1),(11,.i R.c.1),(12,.i (Sort.hintCode R.c.2))] [(4,[.x (.func (.func g) #[] gl),.x (.func (.func sf) #[] gs)]),(1004,aH R.d1)] (Sem.run hE ai A0a (by simp +decide only[go_sem,X1,X2,X3,bC,e2])) ?_;refine Sem.seq [(1,.i a1),(2,.i b1),(3,.i R.lim),(4,.ptr 4 0),(8,.bool wb),(9,.bool wp),(Ck b1 a1),(11,.i R.pivot),(12,.i (Sort.hintCode R.hint))] [(4,[.x (.func (.func g) #[] gl),.x (.func (.func sf) #[] gs)]),(1004,aH R.d2)] (Sem.run hE ai A0a ?_) ?_
 . by_cases hh:R.c.2= .decreasing
   . obtain⟨q1,q2,q3⟩:=Sort.rd_dec (lt:=ae) (d:=dk) (a:=a1) (b:=b1) (limit:=l1) (wb:=wb) (wp:=wp) (by rw[hR];exact hh);rw[hR] at q1 q2 q3;have e3:=SP (g:=g) (sf:=sf) (gl:=gl) (gs:=gs) (N:=N) a1 b1 R.d1 A0b x2 (s1.trans hdk);rw[<-q1] at e3;have c3:decide (Sort.hintCode R.c.2=2)=true:=by rw[hh];rfl
     have c4:Sort.hintCode R.hint=1:=by rw[q3];rfl
     have w2:az .i64 ((b1:Int)-1)=((b1-1:Nat):Int):=by rw[ak A0j];omega
     have w3:az .i64 ((R.c.1:Int)-(a1:Int))=((R.c.1-a1:Nat):Int):=by rw[ak A0j];omega
     have w4:az .i64 (((b1-1:Nat):Int)-((R.c.1-a1:Nat):Int))=(R.pivot:Int):=by rw[ak A0j];omega
     rw[c4];simp +decide only[go_sem,X1,X2,X3,bC,c3,e3,w2,w3,w4]
   . obtain⟨q1,q2,q3⟩:=Sort.rd_not (lt:=ae) (d:=dk) (a:=a1) (b:=b1) (limit:=l1) (wb:=wb) (wp:=wp) (by rw[hR];exact hh);rw[hR] at q1 q2 q3
     have c3:decide (Sort.hintCode R.c.2=2)=false:=Io (fun h=>hh (by generalize R.c.2=h0 at h;cases h0<;>first|rfl|(simp[Sort.hintCode] at h)))
     rw[q1,q2,q3];simp +decide only[go_sem,X1,X2,X3,bC,c3]
 obtain⟨Q,hQ1,hQ2⟩:∃Q:Prop,(Q->R.pi.2=false)∧(R.pi.2=false->Q):=⟨_,id,id⟩;refine Sem.seqQ Q [(1,.i a1),(2,.i b1),(3,.i R.lim),(4,.ptr 4 0),(8,.bool wb),(9,.bool wp),(Ck b1 a1),(11,.i R.pivot)] [(4,[.x (.func (.func g) #[] gl),.x (.func (.func sf) #[] gs)]),(1004,aH R.pi.1)] (Sem.run hE ai A0a ?_) (fun hq=>?_)
 . by_cases hin:R.hint= .increasing
   . have c5:decide (Sort.hintCode R.hint=1)=true:=by rw[hin];rfl
     cases hw:(wb&&wp) with
     | true=>
       rw[ado] at hw;obtain⟨hwb,hwp⟩:=hw;have epi:=Sort.rd_pi_yes (lt:=ae) (d:=dk) (a:=a1) (b:=b1) (limit:=l1) (wb:=wb) (wp:=wp) (by rw[hR,hin,hwb,hwp];rfl);rw[hR] at epi;have e4:=Pk (g:=g) (sf:=sf) (gl:=gl) (gs:=gs) (N:=N) a1 b1 R.d2 A0b x2 (s2.trans hdk);rw[<-epi] at e4;cases h2:R.pi.2 with
       |true=>rw[h2] at e4;have hf:=Sort.pdq_done (lt:=ae) (wb:=wb) (wp:=wp) h12 hl0 (by rw[hR];exact h2);rw[hR,heq] at hf;rw[hf];simp +decide only[go_sem,X1,X2,X3,bC,hwb,hwp,c5,e4]
       |false=>rw[h2] at e4;have q:=hQ2 h2;simp +decide only[go_sem,X1,X2,X3,bC,hwb,hwp,c5,e4,q]
     | false=>
       have epi:=Sort.rd_pi_no (lt:=ae) (d:=dk) (a:=a1) (b:=b1) (limit:=l1) (wb:=wb) (wp:=wp) (by rw[hw];rfl);rw[hR] at epi;have q:=hQ2 (by rw[epi]);rw[epi];cases wb with
       |false=>exact XM
       | true=>
         have hwp:wp=false:=by simpa using hw
         simp +decide only[go_sem,X1,X2,X3,bC,hwp,c5,q]
   . have c5:decide (Sort.hintCode R.hint=1)=false:=Io (fun h=>hin (by generalize R.hint=h0 at h;cases h0<;>first|rfl|(simp[Sort.hintCode] at h)))
     have epi:=Sort.rd_pi_no (lt:=ae) (d:=dk) (a:=a1) (b:=b1) (limit:=l1) (wb:=wb) (wp:=wp) (by rw[hR,Io hin,Bool.and_false]);rw[hR] at epi;have q:=hQ2 (by rw[epi]);rw[epi];cases wb with
     |false=>exact XM
     | true=>cases wp with
       |false=>exact XM
       |true=>exact XM
 have hp2:=hQ1 hq;obtain⟨D,hD⟩:∃D,R.pi.1=D:=⟨_,rfl⟩;rw[hD] at s3 B3⊢;have z3:D.size=N:=s3.trans hdk;cases h87:(decide (a1>0)&& !ae D[a1-1]! D[R.pivot]!) with
 | true=>
   have h87':=h87;simp only[ado,adS,aeS] at h87';obtain⟨mid,d4,hx⟩:∃mid d4,Sort.partitionEqual ae D a1 b1 R.pivot=(mid,d4):=⟨_,_,rfl⟩;obtain⟨r1,r2,r3,r4,_⟩:=Sort.round_eq gO (Sort.partitionEqual_holds ae) h87'.1 hpv.1 hpv.2 (show b1<=D.size by omega) B3 h87'.2 hx;have e5:=KC (g:=g) (sf:=sf) (gl:=gl) (gs:=gs) (N:=N) a1 b1 R.pivot D hpv.1 hpv.2 x2 z3;rw[hx] at e5;have hl:=dg (N:=N) (a1-1) R.pivot D A0b A0b z3;rw[h87'.2] at hl;have c6:decide ((0:Int)<(a1:Int))=true:=ac0 A0b;have w5:az .i64 ((a1:Int)-1)=((a1-1:Nat):Int):=by rw[ak A0j];omega
   have hf:=Sort.pdq_eq (lt:=ae) (wb:=wb) (wp:=wp) h12 hl0 (by rw[hR];exact hp2) A1z A1j;rw[hR,hD,hx,heq] at hf;simp only at hf;refine Sem.seq_out (Sem.run hE ai A0a ?_);simp +decide only[go_sem,X1,X2,X3,bC,c6,w5,hl,e5];refine⟨⟨(mid,b1,R.lim,wb,wp,d4),by simp only;omega,by simp only;omega,by simp only;omega,by simp only;omega,r3.trans z3,r4,hf.symm⟩,?_,?_,by simp only;omega⟩<;>simp +decide only[go_sem]<;>(repeat' first|rfl|constructor)
 | false=>
   refine Sem.seq [(1,.i a1),(2,.i b1),(3,.i R.lim),(4,.ptr 4 0),(8,.bool wb),(9,.bool wp),(Ck b1 a1),(11,.i R.pivot)] [(4,[.x (.func (.func g) #[] gl),.x (.func (.func sf) #[] gs)]),(1004,aH D)] (Sem.run hE ai A0a ?_) ?_
   . by_cases ha0:0<a1
     . have c6:decide ((0:Int)<(a1:Int))=true:=ac0 A0b;have w5:az .i64 ((a1:Int)-1)=((a1-1:Nat):Int):=by rw[ak A0j];omega
       have hl:=dg (N:=N) (a1-1) R.pivot D A0b A0b z3;rw[ac0 (show a1>0 from ha0),ae1,Bool.not_eq_false'] at h87;rw[h87] at hl;simp +decide only[go_sem,X1,X2,X3,bC,c6,w5,hl]
     . have c6:decide ((0:Int)<(a1:Int))=false:=Io A0b;simp +decide only[go_sem,X1,X2,X3,bC,c6]
   obtain⟨mid,ap,d4,hx⟩:∃mid ap d4,Sort.partition ae D a1 b1 R.pivot=(mid,ap,d4):=⟨_,_,_,rfl⟩;obtain⟨r1,r2,r3,r4,r5,r6,r7⟩:=Sort.round_part gO (Sort.partition_holds ae) hpv.1 hpv.2 (show b1<=D.size by omega) B3 hx;have e5:=Pn (g:=g) (sf:=sf) (gl:=gl) (gs:=gs) (N:=N) a1 b1 R.pivot D hpv.1 hpv.2 x2 z3;rw[hx] at e5;have z4:d4.size=N:=r3.trans z3;have w6:az .i64 ((mid:Int)-(a1:Int))=((mid-a1:Nat):Int):=by rw[ak A0j];omega
   have w7:az .i64 ((b1:Int)-(mid:Int))=((b1-mid:Nat):Int):=by rw[ak A0j];omega
   have w8:az .i64 ((mid:Int)+1)=((mid+1:Nat):Int):=by rw[ak A0j];omega
   have w9:az .i64 (((b1-a1:Nat):Int).tdiv 8)=(((b1-a1)/8:Nat):Int):=by rw[af7 A0b,ak A0j];omega
   refine Sem.seq [(1,.i a1),(2,.i b1),(3,.i R.lim),(4,.ptr 4 0),(8,.bool wb),(9,.bool wp),(Ck b1 a1),(14,.i mid),(15,.bool ap)] [(4,[.x (.func (.func g) #[] gl),.x (.func (.func sf) #[] gs)]),(1004,aH d4)] (Sem.run hE ai A0a (by simp +decide only[go_sem,X1,X2,X3,bC,e5])) ?_;refine Sem.seq [(1,.i a1),(2,.i b1),(3,.i R.lim),(4,.ptr 4 0),(8,.bool wb),(9,.bool ap),(Ck b1 a1),(14,.i mid)] [(4,[.x (.func (.func g) #[] gl),.x (.func (.func sf) #[] gs)]),(1004,aH d4)] (Sem.run hE ai A0a A0o) ?_;refine Sem.seq [(1,.i a1),(2,.i b1),(3,.i R.lim),(4,.ptr 4 0),(8,.bool wb),(9,.bool ap),(Ck b1 a1),(14,.i mid),(16,.i (mid-a1:Nat)),(17,.i (b1-mid:Nat))] [(4,[.x (.func (.func g) #[] gl),.x (.func (.func sf) #[] gs)]),(1004,aH d4)] (Sem.run hE ai A0a (by simp +decide only[go_sem,X1,X2,X3,bC,w6,w7])) ?_;refine Sem.seq [(1,.i a1),(2,.i b1),(3,.i R.lim),(4,.ptr 4 0),(8,.bool wb),(9,.bool ap),(14,.i mid),(16,.i (mid-a1:Nat)),(17,.i (b1-mid:Nat)),(18,.i (((b1-a1)/8:Nat):Int))] [(4,[.x (.func (.func g) #[] gl),.x (.func (.func sf) #[] gs)]),(1004,aH d4)] (Sem.run hE ai A0a (by simp +decide only[go_sem,X1,X2,X3,bC,w9])) ?_;by_cases h4:mid-a1<b1-mid
   . have c7:decide (((mid-a1:Nat):Int)<((b1-mid:Nat):Int))=true:=ac0 A0b;have e8:decide ((((b1-a1)/8:Nat):Int)<=((mid-a1:Nat):Int))=decide (mid-a1≥(b1-a1)/8):=agz.2 ⟨fun h=>by omega,fun h=>by omega⟩;have e9:=uz (g:=g) (sf:=sf) (gl:=gl) (gs:=gs) (N:=N) n a1 mid R.lim d4 A0b r1 A0b A0b z4 r4;obtain⟨pL,sL⟩:=Sort.pdq_sorts ae gO d4 a1 mid R.lim true true r1 A0b r4;have hf:=Sort.pdq_left (lt:=ae) (wb:=wb) (wp:=wp) h12 hl0 (by rw[hR];exact hp2) A1z A1j (by rw[hR,hD,hx];exact h4);rw[hR,hD,hx,heq] at hf;simp only at hf;generalize hB8:decide (mid-a1≥(b1-a1)/8)=b8 at e8 hf;have z5:=pL.1.trans z4;have B5:=(r6 _ pL sL).1;generalize Sort.pdq ae d4 a1 mid R.lim true true=d5 at e9 hf z5 B5;refine Sem.run hE ai A0a ?_;simp +decide only[go_sem,X1,X2,X3,bC,c7,e8,e9,w8];refine⟨⟨(mid+1,b1,R.lim,b8,ap,d5),by simp only;omega,by simp only;omega,by simp only;omega,by simp only;omega,z5,B5,hf.symm⟩,?_,?_,by simp only;omega⟩<;>simp +decide only[go_sem]<;>(repeat' first|rfl|constructor)
   . have c7:decide (((mid-a1:Nat):Int)<((b1-mid:Nat):Int))=false:=Io A0b;have e8:decide ((((b1-a1)/8:Nat):Int)<=((b1-mid:Nat):Int))=decide (b1-mid≥(b1-a1)/8):=agz.2 ⟨fun h=>by omega,fun h=>by omega⟩;have e9:=uz (g:=g) (sf:=sf) (gl:=gl) (gs:=gs) (N:=N) n (mid+1) b1 R.lim d4 A0b A0b A0b A0b z4 r5;obtain⟨pL,sL⟩:=Sort.pdq_sorts ae gO d4 (mid+1) b1 R.lim true true A0b A0b r5;have hf:=Sort.pdq_right (lt:=ae) (wb:=wb) (wp:=wp) h12 hl0 (by rw[hR];exact hp2) A1z A1j (by rw[hR,hD,hx];exact h4);rw[hR,hD,hx,heq] at hf;simp only at hf;generalize hB8:decide (b1-mid≥(b1-a1)/8)=b8 at e8 hf;have z5:=pL.1.trans z4;have B5:=(r7 _ pL sL).1;generalize Sort.pdq ae d4 (mid+1) b1 R.lim true true=d5 at e9 hf z5 B5;refine Sem.run hE ai A0a ?_;simp +decide only[go_sem,X1,X2,X3,bC,c7,e8,e9,w8];refine⟨⟨(a1,mid,R.lim,b8,ap,d5),by simp only;omega,by simp only;omega,by simp only;omega,by simp only;omega,z5,B5,hf.symm⟩,?_,?_,by simp only;omega⟩<;>simp +decide only[go_sem]<;>(repeat' first|rfl|constructor)
theorem QP(hS:SoOK G bk N g sf gl gs)(hB:FunXV G bk 91 [] (FE (fb g sf gl gs) (BI N)))(n:Nat):FunXV G bk 68 [] (FE (g7 g sf gl gs) (xP N n)):=by
 induction n with
 |zero=>intro m w vs us bs gs hs r outs hF;obtain⟨⟨a,b,l,d⟩,_,hG⟩:=bh hF;unfold xP at hG;obtain⟨⟨h,_⟩,_⟩:=D5 hG;exact absurd h (afe _)
 |succ n ih=>exact KD hS hB n ih
open Go.Sort (putRowK HoldsK flatK)
def cQ(p:C3):List Value:=[.string p.1,.int .i64 p.2.1,.int .i64 p.2.2]
theorem dw(d:Array C3):aH d=(d.toList.flatMap cQ).map V.x:=by
 unfold aH;generalize d.toList=l
 induction l with
 |nil=>rfl
 |cons p l ih=>rw[aeg,aeg,adK,ih];rfl
theorem oY:∀(l:List C3) (t:Nat),(l.flatMap cQ)[t]?=(l[t/3]?).map fun p=>(cQ p)[t%3]!
 |[],t=>by simp
 | p ::l,t=>by
   rw[aeg];rcases aeb t 3 with h|h
   . rw[adu (by show t<3;exact h),Nat.div_eq_of_lt h,agx h];have:t=0∨t=1∨t=2:=A0b
     rcases this with rfl|rfl|rfl<;>rfl
   . rw[adH (by show 3<=t;exact h)];show(l.flatMap cQ)[t-3]?=_;obtain⟨u,rfl⟩:∃u,t=u+3:=⟨t-3,A0b⟩;rw[Nat.add_sub_cancel,oY l u,show(u+3)/3=u/3+1 from by omega,show(u+3)%3=u%3 from by omega,aeV]
theorem D6(d:Array C3):(flatK cQ 3 d).toList=d.toList.flatMap cQ:=by
 apply aeB;intro t;rw[oY];unfold flatK;rw[adF,Array.getElem?_map,adF];rcases aeb t (d.size*3) with h|h
 . have h3:t/3<d.size:=A0b
   rw[Array.getElem?_range,adl h,adG h3];simp[h3]
 . rw[Array.getElem?_range,adq A0b,afh A0b];rfl
theorem oB{m:Lim}{w:World}:∀{xs l:List Value},RdL m w xs (l.map V.x)->xs=l
 |[],[],_=>rfl
 |x::xs,y::l,h=>by have h1:Rd m w x (.x y):=h.1;cases h1;rw[oB h.2]
theorem l6{m:Lim}{w:World}:∀l:List Value,RdL m w l (l.map V.x)
 |[]=>trivial
 |_::l=>⟨.x _,l6 l⟩
variable{m:Lim}{w:World}{d:Array C3}
theorem kN{blk:Nat}(h:BoxAt m w blk (aH d)):HoldsK cQ 3 w blk 0 d:=by
 obtain⟨_,vals,ty,xs,rest,hh,hv,hr⟩:=h;rw[dw] at hr;have hx:=oB hr;subst hx;intro j hj;have hlen:(flatK cQ 3 d).size=d.size*3:=by simp[flatK]
 have e:vals[j]?=(flatK cQ 3 d)[j]?:=by rw[<-adF,hv,<-D6,adu A0x,adF]
 have hjs:j<vals.size:=by have h1:=ae6 List.length hv;rw[<-D6] at h1;simp only[adD,adh] at h1;omega
 refine⟨?_,?_⟩
 . rw[adi,Box.cell hh,e,adG hj];exact ae6 some (af0 _ j hj).symm
 . have hok:=ty.ok;have hh':w.heap[blk]?=some (.cells vals ty.ty (ty.fz.1,ty.fz.2)):=hh;generalize ty.fz.1=f1 at hh' hok;generalize ty.fz.2=f2 at hh' hok;simp only[World.frozen?,hh',Bool.and_eq_false_iff,decide_eq_false_iff_not];rcases hok with h2|h2
   . right;omega
   . left;omega
variable{n:Nat}{os:Array Obj}{cur:Array Value}{ty:TypeId}
theorem BJ{w1:World}{g:Nat}{d:Array Value}{fr:Nat×Nat}(hh:w1.heap[g]?=some (.cells cur ty fr)):
 (Sort.grow (Sort.putRow id (Sort.ahead w1 n) g 0 d) os).heap[g]?=some (.cells (Sort.putCells id 0 d cur) ty fr)∧∀k,k<w1.heap.size->k≠g->(Sort.grow (Sort.putRow id (Sort.ahead w1 n) g 0 d) os).heap[k]?=w1.heap[k]?:=by
 have hsz:(Sort.putRow id (Sort.ahead w1 n) g 0 d).heap.size=w1.heap.size:=by simp[Sort.putRow,Sort.mapBlock,Sort.ahead]
 refine⟨?_,fun k hk hn=>?_⟩
 . rw[Sort.heap_grow_old _ _ (by rw[hsz];exact ag hh)];show(w1.heap.modify g (Sort.onCells (Sort.putCells id 0 d)))[g]?=_;rw[afF,adl rfl,hh];rfl
 . rw[Sort.heap_grow_old _ _ (by rw[hsz];exact hk)];show(w1.heap.modify g (Sort.onCells (Sort.putCells id 0 d)))[k]?=_;rw[afF,adq (fun e=>hn e.symm)]
variable{d':Array C3}
theorem sW{blk:Nat}(h:BoxAt m w blk (aH d))(hs:d'.size=d.size):
 BoxAt m (Sort.grow (putRowK cQ 3 (Sort.ahead w n) blk 0 d') os) blk (aH d')∧Bel [blk] w (Sort.grow (putRowK cQ 3 (Sort.ahead w n) blk 0 d') os)∧Ext m w m (Sort.grow (putRowK cQ 3 (Sort.ahead w n) blk 0 d') os):=by
 obtain⟨hlim,vals,ty,xs,rest,hh,hv,hr⟩:=h;rw[dw] at hr;have hx:=oB hr;subst hx;have hfl:(flatK cQ 3 d').size=d.size*3:=by simp[flatK,hs]
 have hvl:d.size*3<=vals.size:=by
  have h1:=ae6 List.length hv;rw[<-D6] at h1;have h2:(flatK cQ 3 d).size=d.size*3:=by simp[flatK]
  simp only[adD,adh] at h1;omega
 have hsz:w.heap.size<=(Sort.grow (putRowK cQ 3 (Sort.ahead w n) blk 0 d') os).heap.size:=by simp[putRowK,Sort.putRow,Sort.mapBlock,Sort.grow,Sort.ahead]
 obtain⟨r1,r2⟩:=BJ (w1:=w) (n:=n) (d:=flatK cQ 3 d') (os:=os) hh;have hbel:Bel [blk] w (Sort.grow (putRowK cQ 3 (Sort.ahead w n) blk 0 d') os):=⟨rfl,rfl,rfl,hsz,fun k hk hn=>r2 k hk A0Y ⟩;refine⟨⟨hlim,_,ty.to (by simp[Sort.putCells]),(flatK cQ 3 d').toList,vals.toList.drop (d.size*3),r1,?_,?_⟩,hbel,⟨hsz,fun b off v hb hm hc=>?_,fun b hb fr hf=>⟨fr,hf,adp _⟩,fun b es c hm hc=>(r2 b (eA hc) (fun e=>by rw[e,hlim] at hm;cases hm)).trans hc⟩⟩
 . apply aeB;intro j;rw[adF,Sort.putCells,Array.getElem?_mapIdx];rcases aeb j (d.size*3) with h|h
   . rw[adu (by simpa[hfl] using h),adG A0b,adF,adG A0b];simp[hfl,h]
   . rw[adH (by simpa[hfl] using h),aeA];simp only[adD,hfl];rw[show d.size*3+(j-d.size*3)=j from by omega,adF];cases vals[j]? with
     |none=>rfl
     |some v=>simp only[aea];rw[adq A0b]
 . rw[dw,D6];exact l6 _
 . by_cases e:b=blk
   . subst e;exact absurd (hm 0 hlim) (afe _)
   . exact(bc (j:=off) (r2 b hb e)).trans hc
variable{vs:Array Value}{p:Value}{bs hs:List Nat}{a b c:V}
theorem BK{K:Nat}{gs:List Nat}(h:ArgsP m w K (vs.toList++[p]) [a,b,c] bs gs hs):∃v1 v2,vs= #[v1,v2]:=by
 have hl:=h.len;simp only[adh,adD,adm,adT] at hl;obtain⟨l⟩:=vs
 match l,hl with
 |[v1,v2],_=>exact⟨v1,v2,rfl⟩
theorem KE{K:Nat}{gs:List Nat}{d:V}(h:ArgsP m w K (vs.toList++[p]) [a,b,c,d] bs gs hs):∃v1 v2 v3,vs= #[v1,v2,v3]:=by
 have hl:=h.len;simp only[adh,adD,adm,adT] at hl;obtain⟨l⟩:=vs
 match l,hl with
 |[v1,v2,v3],_=>exact⟨v1,v2,v3,rfl⟩
section
variable{G:Nat->V}{bk N:Nat}{g sf:FuncId}{gl gs:Array Value}
theorem KF(hsw:SwapSwapsK prog sf gs cQ 3 bk 0 N):FunXV G bk sf gs.toList (FE en2 (GSwp N)):=by
 intro m w vs us bs gs' hs r outs hF hargs hnd hhnd hj hg;obtain⟨⟨i,j,d⟩,hus,hG⟩:=bh hF;subst hus;unfold GSwp at hG;obtain⟨⟨hi,hjj,hd⟩,hG⟩:=bK hG;simp only at hi hjj hd;cases hG;obtain⟨v1,v2,rfl⟩:=BK hargs;simp only[en2] at hargs;cases hargs with
 | dat hr1 hd1 h1=>
   cases h1 with
   | dat hr2 hd2 h2=>
     cases h2 with
     |dat hr3 hd3 h3=>cases hd3
     | bx hb hK h3=>
       cases h3;cases hr1;cases hr2;have hH:=kN hb;have hrun:=hsw w d hH hd i j hi hjj;have hw:w=(putRowK cQ 3 (Sort.ahead w 0) bk 0 d).drewN 0:=by rw[Sort.ahead_zero,Sort.putRowK_self cQ 3 w bk 0 d hH];rfl
       have hsw2:=Sort.swap_worldK cQ 3 (fun _=>rfl) w 0 0 bk 0 d i j A0b A0b;rw[<-hw] at hsw2;rw[hsw2] at hrun;have hgr:putRowK cQ 3 (Sort.ahead w (0+0)) bk 0 (swp d i j)=Sort.grow (putRowK cQ 3 (Sort.ahead w 0) bk 0 (swp d i j)) #[]:=by rw[Sort.grow_empty]
       rw[hgr] at hrun;obtain⟨b1,b2,b3⟩:=sW (n:=0) (os:= #[]) hb (bR d i j);refine .inr ⟨_,_,hrun,m,.tup #[] [] rfl (fun i v u h=>by simp at h),b2,b3,fun _ _ _=>rfl,⟨[aH (swp d i j)],[],A0k,⟨b1,trivial⟩,trivial⟩,fun sz es k e=>by cases e⟩
theorem QQ(hN:N<=MX)(hsw:SwapSwapsK prog sf gs cQ 3 bk 0 N):FunXV G bk 91 [] (FE (fb g sf gl gs) (BI N)):=by
 intro m w vs us bs gs' hs r outs hF hargs hnd hhnd hj hg;obtain⟨⟨a,b,d⟩,hus,hG⟩:=bh hF;subst hus;unfold BI at hG;obtain⟨⟨hab,hbN,hd⟩,hG⟩:=bK hG;simp only at hab hbN hd;cases hG;obtain⟨v1,v2,v3,rfl⟩:=KE hargs;simp only[fb] at hargs;cases hargs with
 | dat hr1 hd1 h1=>
   cases h1 with
   | dat hr2 hd2 h2=>
     cases h2 with
     | dat hr3 hd3 h3=>
       cases h3 with
       |dat hr4 hd4 h4=>cases hd4
       | bx hb hK h4=>
         cases h4;cases hr2;cases hr3;obtain⟨cs,rfl,hcs⟩:=Rd.agg_iff.1 hr1;have e:cs= #[.func (.func g) #[] gl,.func (.func sf) #[] gs]:=by apply aed.1;exact oB (l:=[.func (.func g) #[] gl,.func (.func sf) #[] gs]) hcs
         subst e;have hH:=kN hb;have hblk:bk<w.heap.size:=by obtain⟨_,_,_,_,_,hhb,_⟩:=hb;exact ag hhb
         have hc:=Any.breakPatterns_func_cells_w (P:=prog) (ρ:=laysGg14_ren) {laysGg14 with} cQ 3 (fun _=>rfl) (.func g) #[] gl sf gs bk 0 a b d w (by rw[hd];exact hsw) hH hblk hab A0b A1x;change Calls prog 91 _ _ _ at hc;refine .inl ⟨call91 _ _,?_⟩;rw[show(#[Value.agg #[.func (.func g) #[] gl,.func (.func sf) #[] gs],.int .i64 (a:Int),.int .i64 (b:Int)]++(⟨[]⟩:Array Value))= #[.agg #[.func (.func g) #[] gl,.func (.func sf) #[] gs],.int .i64 (a:Int),.int .i64 (b:Int)] from afX];refine hc.mono ?_;rintro e w' ⟨rfl,n,os,rfl⟩;obtain⟨b1,b2,b3⟩:=sW (n:=n) (os:=os) hb ((Sort.breakPatterns_holds d a b hab A0b).1);exact⟨_,rfl,m,.tup #[] [] rfl (fun i v u h=>by simp at h),b2,b3,fun _ _ _=>rfl,⟨[aH (Sort.breakPatterns d a b)],[],A0k,⟨b1,trivial⟩,trivial⟩,fun sz es k e=>by cases e⟩
end
def QR:U->Option V
 | [.x (.int .i64 i),.x (.int .i64 j),.ip [.sl false 3 es none]]=>match es[i.toNat]?,es[j.toNat]? with
   |some (.agg [.x (.string s),.x (.int .i64 c),.x (.int .i64 r)]),some (.agg [.x (.string s'),.x (.int .i64 c'),.x (.int .i64 r')])=>if 0<=i∧0<=j then some (.bool (eF s c r s' c' r')) else none
   |_,_=>none
 |_=>none
theorem KG:cg 63 QR:=by
 refine aE (E:=aI [(57,bp)]) (k:=3) (aU _ ⟨xq,trivial⟩) A0a func63 rfl (fun a w=>call63 a w) ntmps63 A0a A0c A0c ?_;intro us r hF hdat;unfold QR at hF;split at hF
 case h_2=>cases hF
 rename_i i j es;split at hF
 case h_2=>cases hF
 exact Xa
open Go.Sort (putRowK HoldsK flatK PermIn SortedIn)
theorem D7(p q:C3):ae p q=eF p.1 p.2.1 p.2.2 q.1 q.2.1 q.2.2:=rfl
variable{Bk cap:Nat}
theorem D8(hb:BoxAt m w bk (aH d))(hd:d.size=N)(hcap:N<=cap)(hB:Rd m w (.p Bk) (.ip [.x (.s bk N cap)])):Rd (fun _=>none) w (.p Bk) (.ip [.l 3 (d.toList.map aa)]):=by
 have hH:=kN hb;have hblk:bk<w.heap.size:=by obtain⟨_,_,_,_,_,hhb,_⟩:=hb;exact ag hhb
 have hlen:(flatK cQ 3 d).size=d.size*3:=by simp[flatK]
 have hl:(d.toList.map aa).length=N:=by simpa using hd
 have hsl:Rd (fun _=>none) w (.s bk (d.toList.map aa).length cap) (.l 3 (d.toList.map aa)):=by
  refine .sl bk 0 cap 3 _ none (fun k=>(flatK cQ 3 d)[k]!) hblk A0b (fun i e he=>?_) (fun k hk=>?_) (fun fr hf=>by cases hf) (fun i e he j dd hj=>?_)
  . rw[ac9] at he;obtain⟨p,_,rfl⟩:=adn.1 he;rfl
  . exact(hH k (by rw[hlen];simp at hk;omega)).1
  . rw[ac9] at he;obtain⟨p,hp,rfl⟩:=adn.1 he;have hil:i<d.size:=by simpa using(iO.1 hp).1
    have hdi:d[i]! =p:=by rw[io A1t] at hp;rw[af0 d i hil];simpa using hp
    have hj3:j<3:=(iO.1 hj).1;have e:(flatK cQ 3 d)[i*3+j]! =(cQ p)[j]! :=by rw[Sort.get_flatK _ _ _ _ A0b,show(i*3+j)/3=i from by omega,show(i*3+j)%3=j from by omega,hdi]
    show Rd _ w ((flatK cQ 3 d)[i*3+j]!) dd;rw[e];have:j=0∨j=1∨j=2:=A0b
    rcases this with rfl|rfl|rfl<;>(cases hj;exact .x _)
 rw[hl] at hsl;cases hB with
 | ip blk off cs c hbB hc hm hr=>
   have h0:Rd m w (c 0) (.x (.s bk N cap)):=hr 0 _ rfl;have hc0:=Rd.x_iff.1 h0;refine .ip Bk 0 _ c hbB (fun k hk=>hc k hk) (fun fr hf=>by cases hf) (fun k dd hk=>?_);cases k with
   |zero=>cases hk;rw[hc0];exact hsl
   |succ k=>simp at hk
section
variable{G:Nat->V}{bk Bk N cap:Nat}
theorem SQ{f0:Nat}(hls:cg f0 QR)(hcap:N<=cap)(hG:G Bk= .ip [.x (.s bk N cap)]):FunXV G bk f0 [.p Bk] (FE en2 (GLess N)):=by
 intro m w vs us bs gs' hs r outs hF hargs hnd hhnd hj hg;obtain⟨⟨i,j,d⟩,hus,hGl⟩:=bh hF;subst hus;unfold GLess at hGl;obtain⟨⟨hi,hjj,hd⟩,hGl⟩:=bK hGl;simp only at hi hjj hd;cases hGl;obtain⟨v1,v2,rfl⟩:=BK hargs;simp only[en2] at hargs;cases hargs with
 | dat hr1 hd1 h1=>
   cases h1 with
   | dat hr2 hd2 h2=>
     cases h2 with
     |dat hr3 hd3 h3=>cases hd3
     | bx hb hK h3=>
       cases h3;cases hr1;cases hr2;have hB:Rd m w (.p Bk) (.ip [.x (.s bk N cap)]):=by have:=hg Bk;have e:(eB G (fun _ _=>none) 0).G Bk= .ip [.x (.s bk N cap)]:=hG;rw[e] at this;exact this
       have hip:=D8 hb hd hcap hB;obtain⟨p,hp⟩:∃p,d.toList[i]?=some p:=⟨_,io (by simpa using(show i<d.size by omega))⟩;obtain⟨q,hq⟩:∃q,d.toList[j]?=some q:=⟨_,io (by simpa using(show j<d.size by omega))⟩;have hat:∀(k:Nat) (p:C3),k<d.size->d.toList[k]?=some p->d[k]! =p:=fun k p hk h=>by rw[io A1h] at h;rw[af0 d k hk];simpa using h
       have hpe:=hat i p A0b hp;have hqe:=hat j q A0b hq;have hFL:QR [.i i,.i j,.ip [.l 3 (d.toList.map aa)]]=some (.bool (ae d[i]! d[j]!)):=by rw[hpe,hqe,D7];simp only[QR,cY hp,cY hq,bw];rw[adl ⟨A0b,A0b⟩]
       have hcalls:=hls.2 (fun _=>none) w #[.int .i64 (i:Int),.int .i64 (j:Int),.p Bk] _ _ hFL rfl ⟨.x _,.x _,hip,trivial⟩ hj (fun g=> .undef _);refine .inl ⟨hls.1 _ _,?_⟩;refine hcalls.mono ?_;rintro e w' ⟨v,m',rfl,hv,hbel,_⟩;cases hv;have hblk:bk<w.heap.size:=by obtain⟨_,_,_,_,_,hhb,_⟩:=hb;exact ag hhb
       have hbx:BoxAt m w' bk (aH d):=by obtain⟨hlim,vals,ty,xs,rest,hh,hv,hr⟩:=hb;rw[dw] at hr;have hx:=oB hr;subst hx;exact⟨hlim,vals,ty,_,rest,(hbel.block bk hblk).trans hh,hv,by rw[dw];exact l6 _⟩
       exact⟨_,rfl,m,.x _,⟨hbel.os,hbel.tape,hbel.output,hbel.size,fun k hk _=>hbel.block k hk⟩,Ext.of_below hbel (fun _ _=>rfl),fun _ _ _=>rfl,⟨[aH d],[],A0k,⟨hbx,trivial⟩,trivial⟩,fun sz es k e=>by cases e⟩
end
def fL:TypeInfo:=(prog.info? 33).get A0a
def gQ:TypeInfo:=(prog.info? 29).get A0a
theorem Y7(n:Nat)(h:2<=n):Lib.swapperK n fL 25=9:=by
 have a:fL.hasPointers=true:=A0a
 have b:fL.bytes=32:=A0a
 have c:(n==0)=false:=A0F
 have d:(n==1)=false:=A0F
 simp[Lib.swapperK,a,b,c,d]
variable{tyB:TypeId}{frB:Nat×Nat}
theorem Yd{f0:Nat}(hls:cg f0 QR)(hf0:f0≠86){blk:Nat}(hh:w.heap[blk]?=some (.cells cur ty (0,0)))(hcur:∃rest,cur.toList=d.toList.flatMap cQ++rest){vals:Array Value}(hB:w.heap[Bk]?=some (.cells vals tyB frB))(hB0:vals[0]?=some (.s blk d.size cap))(hne:Bk≠blk)(hcap:d.size<=cap)(hN:d.size<=MX)(hK:iq<=blk)(hj:(aI []).J w):
 Calls prog 55 #[.iface 29 (.s blk d.size cap),.func (.func f0) #[] #[.p Bk]] w fun e w'=>e= .returned (.tuple #[])∧∃d':Array C3,PermIn 0 d.size d d'∧SortedIn ae 0 d.size d'∧Bel [blk] w w'∧∃m',BoxAt m' w' blk (aH d'):=by
 have hi:prog.info? 29=some gQ:=A0a
 have hdd:gQ.desc= .slice 33:=A0a
 have hie:prog.info? 33=some fL:=A0a
 have hke:∀w,(Extern.Rtype.kind 33).run prog w= .ok 25 w:=fun _=>by kernel_rfl
 obtain⟨rest,hcur⟩:=hcur;have hN1:d.size<=1000000:=hN;let m:Lim:=fun b=>if b=blk then some 0 else none
 have hbx:∀w2:World,w2.heap[blk]?=w.heap[blk]?->BoxAt m w2 blk (aH d):=fun w2 e=>⟨adl rfl,cur,.plain ty,_,rest,e.trans hh,hcur,by rw[dw];exact l6 _⟩
 have hblk:=ag hh;have hBk:=ag hB;by_cases h2:2<=d.size
 . let G:Nat->V:=fun b=>if b=Bk then .ip [.x (.s blk d.size cap)] else .undef
   have hG:G Bk= .ip [.x (.s blk d.size cap)]:=adl rfl;have hx:∀args W,(callFunc 86 args).run prog W=((Extern.ReflectliteSwapper.swap false args).run prog W).andThen fun v w'=> .ok (.value v) w':=fun args W=>run_callFunc_extern func86 A0a A0a A0a (e:=Extern.ReflectliteSwapper.swap false) A0a args W
   have hsw:=swapSwapsK_of_literal (P:=prog) false 86 hx 33 fL hie cQ 3 (fun _=>rfl) A0a (fun _=>by kernel_rfl) (fun p v hv=>by simp only[cQ,adA,ae5,ags] at hv;rcases hv with rfl|rfl|rfl<;>rfl) blk 0 d.size cap
   have hS:SoOK G blk d.size f0 86 #[.p Bk] #[.s blk d.size cap,typeHandle prog 33]:=⟨A0k,A0k,hf0,hN,SQ hls hcap hG,KF hsw⟩;have hP:=QP hS (QQ hN hsw) (d.size+1);refine Any.sort_Slice_of_pdq (P:=prog) (ρ:=laysGg6_ren) laysGg6 29 33 gQ fL hi hdd A0a hie 25 hke (some ⟨blk,0,none⟩) d.size cap A1x 86 (by rw[Y7 _ h2];kernel_rfl) (.func f0) #[] #[.p Bk] w _ ?_;have hsb:sliceBound prog 33 fL 25 (some ⟨blk,0,none⟩) d.size cap= #[.s blk d.size cap,typeHandle prog 33]:=by unfold sliceBound;rw[Y7 _ h2];rfl
   rw[hsb];generalize hW:sliceWorld prog laysGg6_ren 29 (some ⟨blk,0,none⟩) d.size cap w=W;have hbel:Below w.heap.size w W:=by rw[<-hW];unfold sliceWorld;exact((Below.refl _ w).alloc (adp _) _).alloc A0k _
   have hjW:(aI []).J W:=Glob.low hj hbel.size ⟨hbel.os,hbel.tape,hbel.output,hbel.size,fun k hk=>hbel.block k (ad1 hk (Glob.high hj))⟩;have hb:=hbx W (hbel.block blk hblk);have hl62:Lib.bitLen d.size<=62:=Lib.bitLen_le d.size 62 A0b A0b;have hF:=uz (g:=f0) (sf:=86) (gl:= #[.p Bk]) (gs:= #[.s blk d.size cap,typeHandle prog 33]) (N:=d.size) (d.size+1) 0 d.size (Lib.bitLen d.size) d A0b A0b (adp _) A0b rfl (.inl rfl)
   have hargs:ArgsP m W iq [.agg #[.func (.func f0) #[] #[.p Bk],.func (.func 86) #[] #[.s blk d.size cap,typeHandle prog 33]],.int .i64 ((0:Nat):Int),.int .i64 (d.size:Int),.int .i64 (Lib.bitLen d.size:Int),.p blk] [eH f0 86 #[.p Bk] #[.s blk d.size cap,typeHandle prog 33],.i (0:Nat),.i d.size,.i (Lib.bitLen d.size:Int),.bx (aH d)] [blk] [] []:=
    .dat (Rd.agg_iff.2 ⟨_,rfl,.x _,.x _,trivial⟩) rfl (.dat (.x _) rfl (.dat (.x _) rfl (.dat (.x _) rfl (.bx hb hK .nil))))
   have hgl:∀g,Rd m W (.p g) (G g):=fun b=>by
    show Rd m W _ (if b=Bk then _ else _);split
    . rename_i e;subst e;have hBW:=(hbel.block b hBk).trans hB;refine .ip b 0 _ (fun _=> .s blk d.size cap) (ag hBW) (fun k hk=>?_) (fun fr hf=>?_) (fun k dd hk=>?_)
      . have:k=0:=A1h
        subst this;rw[Box.cell hBW];exact hB0
      . have:m b=none:=adq hne;rw[this] at hf;cases hf
      . cases k with
        |zero=>cases hk;exact .x _
        |succ k=>simp at hk
    . exact .undef _
   rcases hP m W #[.agg #[.func (.func f0) #[] #[.p Bk],.func (.func 86) #[] #[.s blk d.size cap,typeHandle prog 33]],.int .i64 ((0:Nat):Int),.int .i64 (d.size:Int),.int .i64 (Lib.bitLen d.size:Int)] _ [blk] [] [] _ _ hF hargs A0k A0k hjW hgl with⟨_,hc⟩|⟨v,w',he,_⟩
   . rw[show ∀a:Array Value,a++(⟨[]⟩:Array Value)=a from fun a=>afX] at hc;refine hc.mono ?_;rintro e w' ⟨v,rfl,m',hv,hb2,_,_,⟨o1,o2,ho,hou,_⟩,_⟩;have hs:=Sort.pdq_sorts ae gO d 0 d.size (Lib.bitLen d.size) true true (adN _) (adp _) (.inl rfl);have hvt:v= .tuple #[]:=by obtain⟨cs,rfl,hcs⟩:=Rd.tup_iff.1 hv;have:=hcs.length;simp only[adD,adT] at this;rw[aeU this]
     subst hvt;refine⟨rfl,_,hs.1,hs.2,⟨hb2.os.trans hbel.os,hb2.tape.trans hbel.tape,hb2.output.trans hbel.output,adJ hbel.size hb2.size,fun k hk hn=>(hb2.block k (ad1 hk hbel.size) A0Y).trans (hbel.block k hk)⟩,m',?_⟩;cases o1 with
     |nil=>exact hou.elim
     |cons c o1=>obtain⟨e,_⟩:=aeC (show[aH _]=c::(o1++o2) from ho);rw[e];exact hou.1
   . have he2:=(call68 _ _).symm.trans he;cases he2
 . have hz:d.size=0∨d.size=1:=A0b
   have hf:∃f,prog.funcs.findIdx? (·.name== "internal/reflectlite" ++ ".Swapper$" ++toString (Lib.swapperK d.size fL 25))=some f:=by
    rcases hz with e|e
    . exact⟨78,by rw[e];kernel_rfl⟩
    . exact⟨79,by rw[e];kernel_rfl⟩
   obtain⟨f,hf⟩:=hf;refine(Any.sort_Slice_tiny (P:=prog) (ρ:=laysGg6_ren) laysGg6 29 33 gQ fL hi hdd A0a hie 25 hke (some ⟨blk,0,none⟩) d.size cap A0b f hf (.func f0) #[] #[.p Bk] w).mono ?_;rintro e w' ⟨rfl,os,rfl⟩;refine⟨rfl,d,Sort.permIn_refl d _ _,fun i j _ h1 h3=>by omega,⟨rfl,rfl,rfl,by simp[Sort.grow],fun k hk _=>Sort.heap_grow_old _ _ hk⟩,m,hbx _ (Sort.heap_grow_old _ _ hblk)⟩
theorem Ye:Calls prog 55 #[.iface 29 (.slice none 0 0),.func (.func 63) #[] #[.p Bk]] w fun e w'=>e= .returned (.tuple #[])∧∃os,w'=Sort.grow w os:=by
 have hi:prog.info? 29=some gQ:=A0a
 have hdd:gQ.desc= .slice 33:=A0a
 have hie:prog.info? 33=some fL:=A0a
 have hke:∀w,(Extern.Rtype.kind 33).run prog w= .ok 25 w:=fun _=>by kernel_rfl
 exact Any.sort_Slice_tiny (P:=prog) (ρ:=laysGg6_ren) laysGg6 29 33 gQ fL hi hdd A0a hie 25 hke none 0 0 A0b 78 A0a (.func 63) #[] #[.p Bk] w
theorem KH{m0:Lim}(hb:BoxAt m0 w bk (aH d))(hcap:d.size<=cap)(m:Lim)(hm:m bk=none):Rd m w (.s bk d.size cap) (.l 3 (d.toList.map aa)):=by
 have hH:=kN hb;have hblk:bk<w.heap.size:=by obtain⟨_,_,_,_,_,hhb,_⟩:=hb;exact ag hhb
 have hlen:(flatK cQ 3 d).size=d.size*3:=by simp[flatK]
 have hl:(d.toList.map aa).length=d.size:=A0k
 have hsl:Rd m w (.s bk (d.toList.map aa).length cap) (.l 3 (d.toList.map aa)):=by
  refine .sl bk 0 cap 3 _ none (fun k=>(flatK cQ 3 d)[k]!) hblk A0b (fun i e he=>?_) (fun k hk=>?_) (fun fr hf=>by rw[hm] at hf;cases hf) (fun i e he j dd hj=>?_)
  . rw[ac9] at he;obtain⟨p,_,rfl⟩:=adn.1 he;rfl
  . exact(hH k (by rw[hlen];simp at hk;omega)).1
  . rw[ac9] at he;obtain⟨p,hp,rfl⟩:=adn.1 he;have hil:i<d.size:=by simpa using(iO.1 hp).1
    have hdi:d[i]! =p:=by rw[io A1t] at hp;rw[af0 d i hil];simpa using hp
    have hj3:j<3:=(iO.1 hj).1;have e:(flatK cQ 3 d)[i*3+j]! =(cQ p)[j]! :=by rw[Sort.get_flatK _ _ _ _ A0b,show(i*3+j)/3=i from by omega,show(i*3+j)%3=j from by omega,hdi]
    show Rd _ w ((flatK cQ 3 d)[i*3+j]!) dd;rw[e];have:j=0∨j=1∨j=2:=A0b
    rcases this with rfl|rfl|rfl<;>(cases hj;exact .x _)
 rw[hl] at hsl;exact hsl
open Go.Sort (PermIn SortedIn)
def g8:U->R2
 |[.agg [.x (.string a),.x (.int _ b),.x (.int _ c),.x (.string d),.x (.int _ e),.x (.int _ f)]]=>((a,b,c),(d,e,f))
 |_=>((⟨#[]⟩,0,0),(⟨#[]⟩,0,0))
theorem uA(q:R2):g8 [rgV q]=q:=rfl
def fT(q:R2):List C3:=(dT q.1.1 q.1.2.1 q.1.2.2 q.2.1 q.2.2.1 q.2.2.2).getD []
def uB(S:List R2×List C3)(q:R2):List R2×List C3:=if inS S.1 q=true then S else (bW S.1 q,(fT q).foldl bW S.2)
def kO(pre:List U):List R2×List C3:=pre.foldl (fun S x=>uB S (g8 x)) ([],[])
theorem KJ(pre:List U)(q:R2):kO (pre++[[rgV q]])=uB (kO pre) q:=by simp[kO,uA]
variable{α:Type}
theorem qq[DecidableEq α](l:List α):∀(L:List α) (x:α),x∈l.foldl bW L↔x∈L∨x∈l:=by
 induction l with
 |nil=>intro L x;simp
 |cons y l ih=>intro L x;rw[aeh,ih,qo,adA,or_assoc]
theorem BL[DecidableEq α](l:List α):∀(L:List α),L.Nodup->(l.foldl bW L).Nodup:=by
 induction l with
 |nil=>exact fun L h=>h
 |cons y l ih=>exact fun L h=>ih _ (qp h)
theorem KK[DecidableEq α](l:List α):∀(L:List α),(l.foldl bW L).length<=L.length+l.length:=by
 induction l with
 |nil=>intro L;simp
 |cons y l ih=>intro L;have h1:=ih (bW L y);have h2:=Ky L y;rw[aeh,adm];omega
theorem qr(q:R2):(fT q).length<=400:=by
 unfold fT dT;split
 . rename_i h;rw[aeI,dD];obtain⟨_,_,_,hc,hr⟩:=jB.1 h.1;have h2:=h.2;unfold cE at h2;obtain⟨x,hx⟩:=aev (show 0<=q.2.2.1-q.1.2.1+1 by omega);obtain⟨y,hy⟩:=aev (show 0<=q.2.2.2-q.1.2.2+1 by omega);rw[hx,hy] at h2⊢;rw[tl,tl,afQ];omega
 . simp
theorem Po(pre:List U)(q:R2):q∈(kO pre).1↔∃x∈pre,g8 x=q:=by
 have key:∀(l:List U) (S:List R2×List C3),q∈(l.foldl (fun S x=>uB S (g8 x)) S).1↔q∈S.1∨∃x∈l,g8 x=q:=by
  intro l
  induction l with
  |nil=>intro S;simp
  | cons x l ih=>
    intro S;have h1:q∈(uB S (g8 x)).1↔q∈S.1∨g8 x=q:=by
     unfold uB;split
     . rename_i h;exact⟨.inl,fun e=>e.elim id (fun e=>e▸uy.1 h)⟩
     . exact qo.trans (or_congr agp eq_comm)
    rw[aeh,ih,h1];simp only[adA,exists_eq_or_imp,or_assoc]
 rw[kO,key];simp
theorem Pp(pre:List U)(p:C3):p∈(kO pre).2↔∃x∈pre,p∈fT (g8 x):=by
 have key:∀(l:List U) (S:List R2×List C3),(∀q∈S.1,∀p∈fT q,p∈S.2)->(p∈(l.foldl (fun S x=>uB S (g8 x)) S).2↔p∈S.2∨∃x∈l,p∈fT (g8 x)):=by
  intro l
  induction l with
  |nil=>intro S _;simp
  | cons x l ih=>
    intro S hS;have h1:p∈(uB S (g8 x)).2↔p∈S.2∨p∈fT (g8 x):=by
     unfold uB;split
     . rename_i h;exact⟨.inl,fun e=>e.elim id (hS _ (uy.1 h) p)⟩
     . exact qq _ _ _
    have h2:∀q∈(uB S (g8 x)).1,∀p∈fT q,p∈(uB S (g8 x)).2:=by
     unfold uB;split
     . exact hS
     . intro q hq p hp;rcases qo.1 hq with hq|hq
       . exact(qq _ _ _).2 (.inl (hS q hq p hp))
       . exact(qq _ _ _).2 (.inr (hq▸hp))
    rw[aeh,ih _ h2,h1];simp only[adA,exists_eq_or_imp,or_assoc]
 rw[kO,key _ _ (fun q hq=>by cases hq)];simp
theorem xQ(pre:List U):(kO pre).1.Nodup∧(kO pre).2.Nodup:=by
 have key:∀(l:List U) (S:List R2×List C3),S.1.Nodup->S.2.Nodup->(l.foldl (fun S x=>uB S (g8 x)) S).1.Nodup∧(l.foldl (fun S x=>uB S (g8 x)) S).2.Nodup:=by
  intro l
  induction l with
  |nil=>exact fun S h1 h2=>⟨h1,h2⟩
  | cons x l ih=>
    intro S h1 h2;rw[aeh];refine ih _ ?_ ?_
    . unfold uB;split
      . exact h1
      . exact qp h1
    . unfold uB;split
      . exact h2
      . exact BL _ _ h2
 exact key pre _ ad3 ad3
theorem Pq(pre:List U):(kO pre).2.length<=400*(kO pre).1.length:=by
 have key:∀(l:List U) (S:List R2×List C3),S.2.length<=400*S.1.length->(l.foldl (fun S x=>uB S (g8 x)) S).2.length<=400*(l.foldl (fun S x=>uB S (g8 x)) S).1.length:=by
  intro l
  induction l with
  |nil=>exact fun S h=>h
  | cons x l ih=>
    intro S h;rw[aeh];refine ih _ ?_;unfold uB;split
    . exact h
    . rename_i hn;have h1:=KK (fT (g8 x)) S.2;have h2:=qr (g8 x);have h3:(bW S.1 (g8 x)).length=S.1.length+1:=by
       have hn2: ¬g8 x∈S.1:=fun h=>hn (uy.2 h)
       unfold bW;rw[adq hn2];simp
      simp only[h3];omega
 exact key pre _ A0k
variable{nd:Nd}{xs:List U}
theorem Gz(h:Sz nd xs)(q:R2)(hq:q∈(kO xs).1):q∈allN nd:=by obtain⟨x,hx,rfl⟩:=(Po xs q).1 hq;obtain⟨q',hq',rfl⟩:=h x hx;exact hq'
theorem SR(h:Sz nd xs)(h4:lw nd<=400):(kO xs).1.length<=400∧(kO xs).2.length<=160000:=by have h1:=eu (l':=allN nd) (xQ xs).1 (fun q hq=>Gz h q hq);have h2:=xN nd;have h3:=Pq xs;omega
theorem SS(h:Kc nd xs)(p:C3):p∈(kO xs).2↔∃q∈allN nd,HW p q=true:=by
 rw[Pp];constructor
 . rintro⟨x,hx,hp⟩;obtain⟨q,hq,rfl⟩:=h.1 x hx;rw[uA] at hp;exact⟨q,hq,((nK p).1 hp).2⟩
 . rintro⟨q,hq,hi⟩;refine⟨_,h.2 q hq,?_⟩;rw[uA];exact(nK p).2 ⟨Kh nd q hq,hi⟩
theorem KL(hp:PermIn 0 d.size d d')(hs:SortedIn ae 0 d.size d')(hn:d.toList.Nodup):gB ae d'.toList∧d'.toList.Perm d.toList:=by
 obtain⟨hsz,_,hperm⟩:=hp;have e1:d'.extract 0 d.size=d':=by rw[<-hsz];exact Array.extract_size
 rw[e1,Array.extract_size] at hperm;refine⟨?_,hperm⟩;have hnd:d'.toList.Nodup:=hperm.nodup_iff.2 hn;rw[gB,ae9];intro i j hi hj hij;have hi':i<d'.size:=A0m
 have hj':j<d'.size:=A0x
 have h1:=hs i j (adN _) hij A0b;rw[af0 d' i hi',af0 d' j hj'] at h1;have hne:d'.toList[i]≠d'.toList[j]:=(ae9.1 hnd) i j hi hj hij;rw[Array.getElem_toList,Array.getElem_toList] at hne⊢;cases h2:ae d'[i] d'[j] with
 |true=>rfl
 |false=>exact absurd (bQ.tri _ _ h2 h1) hne
theorem GA{q:R2}(h:qg q=true):dT q.1.1 q.1.2.1 q.1.2.2 q.2.1 q.2.2.1 q.2.2.2=some (fT q):=by unfold fT dT;unfold qg at h;rw[ado,adS] at h;rw[adl h];rfl
def OneG(E:Env)(n:Nat)(B:Bs)(st:St)(a:Act)(w:World)(g:Nat)(ob:Obj)(lg:Option Nat):Prop:=
 ∃m O,Now E n B.D O m st a w∧(∀k,O k->B.Os k∨B.ws.heap.size<=k)∧Step B.Os B.ms B.ws m w∧Marks B.D O B.ws.heap.size w∧B.Kn.P m w∧KeepT B.W B.t0 a.tmps∧ ¬O g∧w.heap[g]?=some ob∧m g=lg
section
variable{E:Env}{n:Nat}{B:Bs}{m:Lim}{w:World}{st:St}{a:Act}{O:Nat->Prop}{r:Option Nat}{g:Nat}{ob:Obj}{lg:Option Nat}
variable{st':St}
theorem OneG.le(h:OneG E n B st a w g ob lg)(hl:Le st' st):OneG E n B st' a w g ob lg:=by obtain⟨m,O,h1,h2⟩:=h;exact⟨m,O,h1.le hl,h2⟩
theorem OneG.one(h:OneG E n B st a w g ob lg):One E n B st a w:=by obtain⟨m,O,h1,h2,h3,h4,h5,h6,_⟩:=h;exact⟨m,O,h1,h2,h3,h4,h5,h6⟩
variable{m':Lim}{w':World}
theorem OneG.grown{a':Act}(h2:∀k,O k->B.Os k∨B.ws.heap.size<=k)(h3:Step B.Os B.ms B.ws m w)(h4:Marks B.D O B.ws.heap.size w)(h5:B.Kn.P m w)(hkt:KeepT B.W B.t0 a'.tmps)(h7: ¬O g)(h8:w.heap[g]?=some ob)(h9:m g=lg)
 (hn:Now E n B.D (pK O w w') m' st' a' w') (hs:Step O m w m' w'):OneG E n B st' a' w' g ob lg:=by
 obtain⟨m2,O2,q1,q2,q3,q4,q5,q6⟩:=One.grown h2 h3 h4 h5 hkt hn hs;have hg:=hs.same g (ag h8) h7;refine⟨m',pK O w w',hn,fun k hg=>?_,h3.next hs (fun i hi ho=>(h2 i ho).resolve_right (afg.2 hi)),⟨h4.nd,fun d hd=>?_⟩,B.Kn.mono _ _ _ _ h5 hs.ext,hkt,fun hgr=>?_,hg.1.trans h8,hg.2.trans h9⟩
 . rcases hg.2 with hg|hg
   . exact h2 k hg
   . exact .inr (adJ h3.ext.size hg)
 . obtain⟨b,rfl,q1,q2,q3⟩:=h4.is d hd;refine⟨b,rfl,q1,(hs.same b (ag q2) q3).1.trans q2,fun hg=>?_⟩;rcases hg.2 with hg|hg
   . exact q3 hg
   . exact absurd (ag q2) (ad0.2 hg)
 . rcases hgr.2 with hg|hg
   . exact h7 hg
   . exact absurd (ag h8) (ad0.2 hg)
theorem xR(hE:EnvOK E){ops:List Oper}{Q:Exit->Act->World->Prop}(ts:List (Nat×V))(bs:List (Nat×U))(rest:List Nat):∀(l:List Oper) (is:List Nat) (st:St) (a:Act) (w:World),(is.map fun i=>ops[i]?)=l.map some->bu n l=true->ol B.W l=true->ol B.W ops=true->
 OneG E n B st a w g ob lg->(bH E ⟨ops⟩ l st fun st'=>gw st' ts∧gL st' bs)->(∀a' w',OneG E n B (aq ts bs) a' w' g ob lg->wpOpsIn (bg r) 0 E.P ⟨ops⟩ Q rest a' w')->wpOpsIn (bg r) 0 E.P ⟨ops⟩ Q (is++rest) a w
 |[],[],st,a,w,_,_,_,_,h,hr,hK=>hK a w (h.le (aK hr.1 hr.2))
 |[],i::is,st,a,w,hi,_,_,_,h,hr,hK=>by simp at hi
 |o::l,[],st,a,w,hi,_,_,_,h,hr,hK=>by simp at hi
 | o ::l,i::is,st,a,w,hi,hd,hW,hWo,h,hr,hK=>by
   rw[aee,wpOpsIn_cons];simp only[adL,adW] at hi;obtain⟨st',hs,hl,hb⟩:=da _ _ hr;unfold eV at hs;split at hs
   . rename_i st1 h1;obtain⟨m,O,q1,q2,q3,q4,q5,q6,q7,q8,q9⟩:=h;have hlt:=q1.lt;obtain⟨b,β,hrel⟩:=q1.rel;have hi1:(⟨ops⟩:Array Oper)[i]?=some o:=by simpa using hi.1
     have hwp:wpOpIn (bg r) 0 E.P ⟨ops⟩ Q i (fun a' w'=>OneG E n B st1 a' w' g ob lg∨(∃m' β',Rel E n ⟨lst O w.heap.size,b,lst O w.heap.size,B.D⟩ m w m' β' st1 a' w')) a w:=dC (hE.x (.inr (fun _ h=>h))) hrel hi1 (du hd A0k) h1 (fun a' w' m' β' hr'=> .inr ⟨m',β',hr'⟩);have hkeep:=eQ (W:=B.W) (t:=B.t0) (by simpa using hWo) q6 (K':=fun a' w'=>OneG E n B st1 a' w' g ob lg) (fun a' w' hK' hkt=>by
      rcases hK' with hK'|⟨m',β',hr'⟩
      . exact hK'
      . obtain⟨hn,hst⟩:=Now.of_rel hE hlt hr';exact OneG.grown q2 q3 q4 q5 hkt q7 q8 q9 hn hst) hwp
     have hWl:ol B.W l=true:=by simp only[ol,aeo,ado] at hW;exact hW.2
     have hdl:bu n l=true:=by simp only[bu,aeo,ado] at hd;exact hd.2
     exact it (fun a' w' h'=>xR hE ts bs rest l is st1 a' w' hi.2 hdl hWl hWo h' (gI _ _ hs ⟨hl,hb⟩) hK) (fun e a' w' h'=>h'.1) hkeep
   . cases hs
theorem iy(hE:EnvOK E){ops:List Oper}{Q:Exit->Act->World->Prop}(k j:Nat)(ts:List (Nat×V))(bs:List (Nat×U))(rest:List Nat)(hl:k+j<=ops.length)(hd:bu n ((ops.drop k).take j)=true)(hW:ol B.W ops=true)
 (h:OneG E n B st a w g ob lg) (hr:bH E ⟨ops⟩ ((ops.drop k).take j) st fun st'=>gw st' ts∧gL st' bs) (hK:∀a' w',OneG E n B (aq ts bs) a' w' g ob lg->wpOpsIn (bg r) 0 E.P ⟨ops⟩ Q rest a' w'):wpOpsIn (bg r) 0 E.P ⟨ops⟩ Q (List.range' k j++rest) a w:=
 xR hE ts bs rest _ _ st a w (iX ops k j hl) hd (adr.2 (fun o ho=>adr.1 hW o (af9 (afL ho)))) hW h hr hK
variable{ops:List Oper}{Q:Exit->Act->World->Prop}{rest:List Nat}{o:Oper}
theorem kg{i:Nat}{d:Tmp}(hi:ops[i]?=some o)(hdef:∀c,o.op≠ .defer c)(hd:o.dst=some d)(hdn:d<n)(hWd:B.W d=true)(hg:o.guard=none)(h:OneG E n B st a w g ob lg)(v:Value)(hrun:(execOp a.eval o).run E.P w= .ok (.value v) w)
 (hK:∀a',OneG E n B (st.put (some d) (.x v)) a' w g ob lg->a'=a.put (some d) v->wpOpsIn (bg none) 0 E.P ⟨ops⟩ Q rest a' w):wpOpsIn (bg none) 0 E.P ⟨ops⟩ Q (i::rest) a w:=by
 obtain⟨m,O,q1,q2,q3,q4,q5,q6,q7,q8,q9⟩:=h;rw[wpOpsIn_cons];unfold wpOpIn;have hi':(⟨ops⟩:Array Oper)[i]?=some o:=A0m
 rw[hi'];simp only;rw[adl A0u];refine⟨fun _ _=>trivial,?_⟩;rw[Oper.semAt_eq _ _ _ hdef,hrun];show wpOpsIn (bg none) 0 E.P ⟨ops⟩ Q rest (a.put o.dst v) w;rw[hd];have hp:=q1.put hdn (v:=v) (u:= .x v) (.x _);rw[dB] at hp;exact hK _ ⟨m,O,hp,q2,q3,q4,q5,q6.put (fun k e=>by cases e;exact hWd),q7,q8,q9⟩ rfl
theorem uC{i:Nat}{d:Tmp}(hi:ops[i]?=some o)(hdef:∀c,o.op≠ .defer c)(hd:o.dst=some d)(hdn:d<n)(hWd:B.W d=true)(hg:o.guard=none)(h:One E n B st a w)(v:Value)(hrun:(execOp a.eval o).run E.P w= .ok (.value v) w)
 (hK:∀a',One E n B (st.put (some d) (.x v)) a' w->a'=a.put (some d) v->wpOpsIn (bg none) 0 E.P ⟨ops⟩ Q rest a' w):wpOpsIn (bg none) 0 E.P ⟨ops⟩ Q (i::rest) a w:=by
 obtain⟨m,O,q1,q2,q3,q4,q5,q6⟩:=h;rw[wpOpsIn_cons];unfold wpOpIn;have hi':(⟨ops⟩:Array Oper)[i]?=some o:=A0m
 rw[hi'];simp only;rw[adl A0u];refine⟨fun _ _=>trivial,?_⟩;rw[Oper.semAt_eq _ _ _ hdef,hrun];show wpOpsIn (bg none) 0 E.P ⟨ops⟩ Q rest (a.put o.dst v) w;rw[hd];have hp:=q1.put hdn (v:=v) (u:= .x v) (.x _);rw[dB] at hp;exact hK _ ⟨m,O,hp,q2,q3,q4,q5,q6.put (fun k e=>by cases e;exact hWd)⟩ rfl
theorem One.putU{d:Tmp}(hd:d<n)(hWd:B.W d=true)(h:One E n B st a w)(v:Value):One E n B (st.put (some d) .undef) (a.put (some d) v) w:=by obtain⟨m,O,q1,q2,q3,q4,q5,q6⟩:=h;have hp:=q1.put hd (v:=v) (u:= .undef) (.undef _);rw[fi] at hp;exact⟨m,O,hp,q2,q3,q4,q5,q6.put (fun k e=>by cases e;exact hWd)⟩
theorem Now.box_at{D:List Deferred}(h:Now E n D O m st a w){i s:Nat}{v:Value}(hi:st.t i= .ptr s 0)(hb:st.b s=some [.x v]):∃b vals ty fr,a.tmps.getD i undef= .p b∧w.heap[b]?=some (.cells vals ty fr)∧vals[0]?=some v∧O b:=by
 obtain⟨⟨c,β,hr⟩,hlt⟩:=h;have ht:=hr.tmps i;rw[hi] at ht;obtain⟨⟨_,vals,ty,xs,rest,hh,hv,hrd⟩,hge⟩:=hr.boxes s _ hb;refine⟨β s,vals,ty.ty,ty.fz,ht.ptr,hh,?_,?_⟩
 . have hx:xs=[v]:=oB (l:=[v]) hrd;rw[<-adF,hv,hx];rfl
 . rcases hge with hge|hge
   . exact absurd (ag hh) (ad0.2 hge)
   . exact(bv.1 hge).2
theorem OneG.after{Kn':Kno}{d:Tmp}(hd:d<n){v:Value}(h1:Now E n B.D O m st a w)(h2:∀k,O k->B.Os k∨B.ws.heap.size<=k)(h3:Step B.Os B.ms B.ws m w)(h4:Marks B.D O B.ws.heap.size w)(h6:KeepT B.W B.t0 a.tmps)(hWd:B.W d=true)(hs:Step (fun _=>False) m w m' w')(hJ:E.J w')(hk:Kn'.P (upd m' g (some 0)) w')(hg:w.heap.size<=g)(hh:w'.heap[g]?=some ob):
 OneG E n {B with Kn:=Kn'} (st.put (some d) (.x v)) (a.put (some d) v) w' g ob (some 0):=by
 have hs':Step (fun _=>False) m w (upd m' g (some 0)) w':=⟨hs.os,hs.tape,hs.output,⟨hs.ext.size,hs.ext.cell,fun b hb fr' hf=>by rw[ah _ _ A0b] at hf;exact hs.ext.lim b hb fr' hf,hs.ext.map⟩,fun k hk hn=>⟨(hs.same k hk hn).1,by rw[ah _ _ A0b];exact(hs.same k hk hn).2⟩⟩
 have hp:=(h1.other hs' (fun _ _ h=>h) hJ).put hd (v:=v) (u:= .x v) (.x _);rw[dB] at hp;refine⟨_,O,hp,h2,h3.next hs' (fun _ _ h=>h.elim),⟨h4.nd,fun x hx=>?_⟩,hk,h6.put (fun k e=>by cases e;exact hWd),fun ho=>absurd (h1.lt g ho) A0b,hh,aj _ _ _⟩;obtain⟨b,rfl,q1,q2,q3⟩:=h4.is x hx;exact⟨b,rfl,q1,(hs.same b (ag q2) (fun h=>h)).1.trans q2,q3⟩
variable{l:List C3}
theorem KM{es:U}{tok:Option Nat}{len:Nat}(hes:es=l.map aa)(h:Rd m w (.s g len cap) (.sl false 3 es tok))(hh:w.heap[g]?=some (.cells cur ty (0,0))):∃rest,cur.toList=l.flatMap cQ++rest:=by
 cases h with
 | emp a cap sz=>
   cases l with
   |nil=>exact⟨cur.toList,rfl⟩
   |cons p l=>cases hes
 | sl blk off cap sz es tok c hb hcap hsz hc hm hr=>
   subst hes;rw[eq] at hc;refine⟨cur.toList.drop (l.length*3),?_⟩;have e:cur.toList.take (l.length*3)=l.flatMap cQ:=by
    apply aeB;intro t;rw[oY,ad6];by_cases ht:t<l.length*3
    . rw[adl ht,adF];have h1:=hc t ht;rw[adi,Box.cell hh] at h1;have hl:t/3<l.length:=A0b
      have h2:=hr (t/3) (aa l[t/3]) (by rw[ac9,io hl];rfl) (t%3);rw[show t/3*3+t%3=t from by omega] at h2;rw[h1,io hl,aea];have h3:t%3=0∨t%3=1∨t%3=2:=A0b
      rcases h3 with h3|h3|h3<;>
      . rw[h3] at h2⊢;have h4:=h2 _ rfl;rw[Rd.x_iff.1 h4];rfl
    . rw[adq ht,adM A0b];rfl
   rw[<-e,afq]
theorem OneG.done(hE:EnvOK E){w':World}{v:Value}{u:V}(h:OneG E n B st a w g (ob) (some 0))(hcell:∃vals ty fr,ob= .cells vals ty fr)(hgs:B.ws.heap.size<=g)(hK:E.K<=g)(hb:Bel [g] w w')(hv:∀m,m g=none->Rd m w' v u):One E n {B with Kn:=Kno.rd v u} st a w':=by
 obtain⟨m,O,q1,q2,q3,q4,q5,q6,q7,q8,q9⟩:=h;have hs:Step (fun k=>k=g) m w (upd m g none) w':=by
  refine⟨hb.os,hb.tape,hb.output,⟨hb.size,fun b off v hlt hm hc=>?_,fun b hlt fr' hf=>?_,fun b es c hm hc=>(hb.block b (eA hc) (by intro e;rw[adj.1 e,q9] at hm;cases hm)).trans hc⟩,fun k hk hn=>⟨hb.block k hk A0Y,ah _ _ hn⟩⟩
  . by_cases e:b=g
    . subst e;exact absurd (hm 0 q9) (afe _)
    . rw[bc (hb.block b hlt (by simpa using e))];exact hc
  . by_cases e:b=g
    . rw[e,aj] at hf;cases hf
    . rw[ah _ _ e] at hf;exact⟨fr',hf,adp _⟩
 have hJ:E.J w':=hE.keep [g] _ _ (fun x hx=>by rw[adj.1 hx];exact hK) q1.J hb;refine⟨_,O,q1.other hs (fun k hk e=>q7 (e▸hk)) hJ,q2,q3.next hs (fun i hi e=>absurd hi (ad0.2 (e▸hgs))),⟨q4.nd,fun x hx=>?_⟩,hv _ (aj _ _ _),q6⟩;obtain⟨b,rfl,r1,r2,r3⟩:=q4.is x hx;have hne:b≠g:=fun e=>by subst e;obtain⟨vals,ty,fr,rfl⟩:=hcell;rw[r2] at q8;cases q8
 exact⟨b,rfl,r1,(hs.same b (ag r2) hne).1.trans r2,r3⟩
theorem One.know{d:Tmp}{v:Value}{u:V}(hd:d<n)(h:One E n {B with Kn:=Kno.rd v u} st a w)(hv:a.tmps.getD d undef=v)(hu:u.bare=u):One E n {B with Kn:=Kno.rd v u} (st.put (some d) u) a w:=by
 obtain⟨m,O,q1,q2,q3,q4,q5,q6⟩:=h;have hr:Rd m w (a.tmps.getD d undef) u:=by rw[hv];exact q5
 have hp:=q1.put hd hr;rw[pT,hu] at hp;exact⟨m,O,hp,q2,q3,q4,q5,q6⟩
end
theorem uD(n:Nd):∃N:U,ar n= .agg N∧N.length=13∧N.take 13=N:=⟨iJ n.hd (mL n),bm n,rfl,rfl⟩
variable{l:List C3}
theorem xS{s:ByteArray}{c r:Int}{s':ByteArray}{c' r':Int}(h:dT s c r s' c' r'=some l):dU [.agg [.x (.string s),.i c,.i r,.x (.string s'),.i c',.i r']]=some (.l 3 (l.map aa)):=by show(match dT s c r s' c' r' with|some l=>some (V.l 3 (l.map aa))|none=>some (V.sl true 0 [] none))=_;rw[h]
abbrev Bg(g1):=((3,[.x (.map (some g1))]):Nat×List V)
abbrev Bi(g2):=((4,[.x (.map (some g2))]):Nat×List V)
abbrev Bn:=([(1,.ptr 1 0),(3,.ptr 3 0),(4,.ptr 4 0),(11,.mp 11 [] []),(12,.mp 12 [] [])]:List (Nat×V))
abbrev Bo(y0 y1 y2 y3 y4 y5):=([.x (.string y0),.i y1,.i y2,.x (.string y3),.i y4,.i y5]:List V)
abbrev B8:=([(1,.ptr 1 0),(3,.ptr 3 0),(11,.mp 11 [] [])]:List (Nat×V))
theorem BM:cg 45 (FE dS fa):=by
 have hE:EnvOK (aI [(60,dU)]):=aU _ ⟨Gl,trivial⟩;have hm:(aI [(60,dU)]).P.follows .mixedOrders=true:=A0a
 refine pR (E:=aI [(60,dU)]) (n:=45) (k:=1) hE func45 rfl (fun a w=>call45 a w) ntmps45 A0c A0c ?_;intro us r m w a hF hdat h0;obtain⟨nd,hus,hG⟩:=bh hF;subst hus;unfold fa at hG;obtain⟨h400,hG⟩:=bK hG;cases hG;obtain⟨N,hf,l13,t13⟩:=uD nd;replace h0:=h0 rfl;refine⟨rfl,?_⟩;simp only[dS] at h0;rw[hf] at h0;refine wpIn_seq (wZ hE hm [(1,.ptr 1 0)] [(1,N)] A0a h0 A0h ?_);intro a w1 h1;refine wpIn_seq (wpIn_region ?_);refine DK hE 0 2 B8 [(1,N),(3,[.x (.map none)])] [2] A0c A0a h1 A0h ?_;intro a w1 h1;obtain⟨g1,hg1⟩:=h1.map_ptr (i:=11) (s:=11) (ks:=[]) (vs:=[]) A0g;have hst:iG (aI [(60,dU)]) (aq B8 [(1,N),(3,[.x (.map none)])]) 108 (.ptr 3 0) (.x (.map (some g1)))=some ⟨(aq B8 [(1,N),(3,[.x (.map none)])]).t,upd (aq B8 [(1,N),(3,[.x (.map none)])]).b 3 (some [.x (.map (some g1))])⟩:=by simp +decide only[go_sem,l13,t13,iG]
 refine lu (i:=2) (rest:=[]) hE rfl rfl rfl rfl h1 A0g hg1 hst ?_;intro w2 h2;replace h2:=(h2.le (aK (ts:=B8) (bs:=[(1,N),(Bg g1)]) A0h A0h)).frame (fun i=> !(i==11));refine wpIn_seq (wpIn_region ?_);refine fR hE 0 2 Bn [(1,N),(Bg g1),(4,[.x (.map none)])] [2] A0c A0a A0a h2 A0h ?_;intro a1 w1 h1;have hk11:=h1.kept (i:=11) rfl;simp only at hk11;rw[hg1] at hk11;obtain⟨g2,hg2⟩:=h1.map_ptr (i:=12) (s:=12) (ks:=[]) (vs:=[]) A0g;have hst:iG (aI [(60,dU)]) (aq Bn [(1,N),(Bg g1),(4,[.x (.map none)])]) 109 (.ptr 4 0) (.x (.map (some g2)))=some ⟨(aq Bn [(1,N),(Bg g1),(4,[.x (.map none)])]).t,upd (aq Bn [(1,N),(Bg g1),(4,[.x (.map none)])]).b 4 (some [.x (.map (some g2))])⟩:=by simp +decide only[go_sem,l13,t13,iG]
 refine lu (i:=2) (rest:=[]) hE rfl rfl rfl rfl h1 A0g hg2 hst ?_;intro w2 h2;replace h2:=(h2.le (aK (ts:=[(1,.ptr 1 0),(3,.ptr 3 0),(4,.ptr 4 0),(11,.mp 11 [] []),(12,.mp 12 [] [])]) (bs:=[(1,N),(3,[.x (.map (some g1))]),(4,[.x (.map (some g2))])]) A0h A0h)).frame (fun i=> !(i==11||i==12));refine wpIn_seq (wpIn_seq (wpIn_region ?_));refine fR hE 0 1 [(1,.ptr 1 0),(3,.ptr 3 0),(4,.ptr 4 0),(11,.mp 11 [] []),(12,.mp 12 [] []),(13,.agg N)] [(1,N),(3,[.x (.map (some g1))]),(4,[.x (.map (some g2))])] [1] A0c A0a A0a h2 A0h ?_;intro a3 w1 h1;have ha:=h1.kept (i:=11) rfl;have hb:=h1.kept (i:=12) rfl;simp only at ha hb;rw[hk11] at ha;rw[hg2] at hb;refine pP (n:=45) (d:=14) (f:=59) (Kno.rd (.pointer (some ⟨w1.heap.size,0,none⟩)) (.ip N)) rfl rfl rfl A0c rfl (fun a w=>call59 a w) h1 (R:=fun e w'=>e= .returned (.func (.func 73) #[] #[.pointer (some ⟨w1.heap.size,0,none⟩)])∧w'=w1.alloc (.cells (a3.eval (.tmp 13)).cells 41)) (fun m1 O1 hn1 _=>?call) ?_
 case call=>have hrd:=eM hn1 13 (u:= .agg N) A0g rfl;obtain⟨cs1,hcs,_⟩:=Rd.agg_iff.1 hrd;have e6:a3.eval (.tmp 13)= .agg cs1:=hcs;rw[show Array.map a3.eval #[.tmp 13]= #[a3.eval (.tmp 13)] from by simp,e6];exact xv cs1 w1
 intro m1 O1 hn1 _ e w2 he;obtain⟨rfl,rfl⟩:=he;have hrd:=eM hn1 13 (u:= .agg N) A0g rfl;obtain⟨hs2,hr2⟩:=Bv (ty:=41) hrd;refine⟨_,_,.undef,rfl,hs2,hE.keep [] _ _ (fun x hx=>by cases hx) hn1.J (hs2.bel (fun k _ h=>h.elim)),.undef _,hr2,fun h2=>?_⟩;have hfn:(a3.put (some 14) (.func (.func 73) #[] #[.pointer (some ⟨w1.heap.size,0,none⟩)])).eval (.tmp 14)= .func (.func 73) #[] #[.pointer (some ⟨w1.heap.size,0,none⟩)]:=by
  have hz:a3.tmps.size=45:=by obtain⟨_,_,hr⟩:=hn1.rel;exact hr.size
  show((a3.put (some 14) _).tmps.getD 14 undef)=_;simp[Act.put,adC,hz]
 have ha2:(a3.put (some 14) (.func (.func 73) #[] #[.pointer (some ⟨w1.heap.size,0,none⟩)])).tmps.getD 11 undef= .map (some g1):=by rw[<-ha];show(a3.tmps.setIfInBounds 14 _).getD 11 undef=_;simp[adC]
 have hb2:(a3.put (some 14) (.func (.func 73) #[] #[.pointer (some ⟨w1.heap.size,0,none⟩)])).tmps.getD 12 undef= .map (some g2):=by rw[<-hb];show(a3.tmps.setIfInBounds 14 _).getD 12 undef=_;simp[adC]
 generalize (a3.put (some 14) (.func (.func 73) #[] #[.pointer (some ⟨w1.heap.size,0,none⟩)]))=a2 at h2 hfn ha2 hb2;generalize w1.alloc _=w2 at h2;refine wpIn_block ?_
 refine pQ hE h2 (fun i=>i==5||(i==6||(i==7||(i==9||(i==15||(i==16||(i==17||(i==18||(i==19||(i==20||(i==21||(i==22||(i==23||(i==24||(i==25||(i==26||(i==27||(i==28||(i==29||(i==30||(i==31||(i==32||(i==33||(i==34||(i==35||(i==36)))))))))))))))))))))))))) hfn (fun a w=>call73 a w) (Ok:=Sz nd) (Done:=Kc nd) (G:=fun _=>False) (fun _ h=>h.elim) ?hit ?hps ?hlen
  (fun _=>True) (fun pre=>aq [(3,.ptr 3 0),(4,.ptr 4 0),(11,.mp 11 (((kO pre).1).map rgV) (uL ((kO pre).1))),(12,.mp 12 (((kO pre).2).map aa) (uL ((kO pre).2)))] [(Bg g1),(Bi g2)]) (fun pre x=>aq [(3,.ptr 3 0),(4,.ptr 4 0),(5,.ptr 5 0),(11,.mp 11 (((kO pre).1).map rgV) (uL ((kO pre).1))),(12,.mp 12 (((kO pre).2).map aa) (uL ((kO pre).2)))] [(Bg g1),(Bi g2),(5,x.flatMap V.cells)]) (fun _ _ _=>False) trivial ?h0 ?assign ?body ?done ?stop
 case hit=>intro m3 O3 hn3 hkn _ m4 w4 hs4 hj4;exact xu nd h400 hf ⟨hkn.mono hs4.ext,trivial⟩
 case hps=>intro p hp;simp at hp;subst hp;exact⟨rfl,A0c⟩
 case hlen=>intro pre x hok;obtain⟨q,_,rfl⟩:=hok x A0k;rfl
 case h0=>exact aK A0h A0h
 case assign=>intro pre x lp B' a3 w3 hok hinv _ _ hW' ht0 ho;obtain⟨q,hq,rfl⟩:=hok x A0k;refine fk hE hm [(3,.ptr 3 0),(4,.ptr 4 0),(5,.ptr 5 0),(11,.mp 11 (((kO pre).1).map rgV) (uL ((kO pre).1))),(12,.mp 12 (((kO pre).2).map aa) (uL ((kO pre).2)))] [(Bg g1),(Bi g2),(5,(Bo q.1.1 q.1.2.1 q.1.2.2 q.2.1 q.2.2.1 q.2.2.2))] A0a A0A ho A0Q (fun a4 w4 h4=>⟨rfl,h4⟩)
 case body=>
  intro pre x lp B' a3 w3 hok hinv _ _ hW' ht0 ho;obtain⟨q,hq,rfl⟩:=hok x A0k;have hqo:=Kh nd q hq;have kept11:∀{a4:Act} {w4:World} {st4:St},One (aI [(60,dU)]) 45 B' st4 a4 w4->a4.tmps.getD 11 undef= .map (some g1):=fun h4=>by rw[h4.kept (i:=11) (by rw[hW'];rfl),ht0,ha2]
  have kept12:∀{a4:Act} {w4:World} {st4:St},One (aI [(60,dU)]) 45 B' st4 a4 w4->a4.tmps.getD 12 undef= .map (some g2):=fun h4=>by rw[h4.kept (i:=12) (by rw[hW'];rfl),ht0,hb2]
  obtain⟨S1,hS1⟩:∃S1,(kO pre).1=S1:=⟨_,rfl⟩;obtain⟨S2,hS2⟩:∃S2,(kO pre).2=S2:=⟨_,rfl⟩;have hsn:=KJ pre q;unfold uB at hsn;rw[hS1,hS2] at ho hsn;refine wpIn_block (wpIn_seq (wpIn_seq (wpIn_region ?_)));refine fR hE 0 2 [(3,.ptr 3 0),(4,.ptr 4 0),(5,.ptr 5 0),(17,.x (.map (some g1))),(18,.agg (Bo q.1.1 q.1.2.1 q.1.2.2 q.2.1 q.2.2.1 q.2.2.2)),(11,.mp 11 ((S1).map rgV) (uL (S1))),(12,.mp 12 ((S2).map aa) (uL (S2)))] [(Bg g1),(Bi g2),(5,(Bo q.1.1 q.1.2.1 q.1.2.2 q.2.1 q.2.2.1 q.2.2.2))] [2,3,4,5,6,7,8] A0c A0a A0A ho A0Q ?_;intro a4 w4 h4;have h17:a4.tmps.getD 17 undef= .map (some g1):=by obtain⟨m5,O5,hn5,_⟩:=h4;exact hn5.read_x 17 A0g
  have h5:=h4.alias (i:=11) (d:=17) (s:=11) (ks:=S1.map rgV) (vs:=uL S1) A0g A0c (h17.trans (kept11 h4).symm);have hlook:ia prog 108 (.mp 11 (S1.map rgV) (uL S1)) (.agg (Bo q.1.1 q.1.2.1 q.1.2.2 q.2.1 q.2.2.1 q.2.2.2)) true=some (.tup [.agg [],.bool (inS S1 q)]):=KA 11 S1 q;refine fR hE 2 7 [(3,.ptr 3 0),(4,.ptr 4 0),(5,.ptr 5 0),(7,.bool (inS S1 q)),(11,.mp 11 ((S1).map rgV) (uL (S1))),(12,.mp 12 ((S2).map aa) (uL (S2)))] [(Bg g1),(Bi g2),(5,(Bo q.1.1 q.1.2.1 q.1.2.2 q.2.1 q.2.2.1 q.2.2.2))] [] A0c A0a A0A h5 (by simp +decide (maxDischargeDepth:=200) only[go_sem,l13,t13,hlook]<;>(repeat' first|rfl|constructor)) ?_;intro a5 w5 h5;cases hin:inS S1 q with
  |true=>rw[hin] at h5 hsn;simp only[adB] at hsn;refine JW hE hm 1 [(3,.ptr 3 0),(4,.ptr 4 0),(11,.mp 11 ((S1).map rgV) (uL (S1))),(12,.mp 12 ((S2).map aa) (uL (S2)))] [(Bg g1),(Bi g2)] A0a A0A h5 A0h ?_;intro a6 w6 h6;rw[hsn];exact⟨_,h6,trivial,aK (by simp +decide only[go_sem,l13,t13,hS1,hS2]<;>(repeat' first|rfl|constructor)) A0h ⟩
  | false=>
    rw[hin] at h5 hsn;simp only[adI,adw] at hsn;refine fk hE hm [(3,.ptr 3 0),(4,.ptr 4 0),(5,.ptr 5 0),(11,.mp 11 ((S1).map rgV) (uL (S1))),(12,.mp 12 ((S2).map aa) (uL (S2)))] [(Bg g1),(Bi g2),(5,(Bo q.1.1 q.1.2.1 q.1.2.2 q.2.1 q.2.2.1 q.2.2.2))] A0a A0A h5 A0h ?_;intro a5 w5 h5;refine wpIn_seq (wpIn_region ?_);refine fR hE 0 3 [(3,.ptr 3 0),(4,.ptr 4 0),(5,.ptr 5 0),(23,.x (.map (some g1))),(24,.agg (Bo q.1.1 q.1.2.1 q.1.2.2 q.2.1 q.2.2.1 q.2.2.2)),(25,.agg []),(11,.mp 11 ((S1).map rgV) (uL (S1))),(12,.mp 12 ((S2).map aa) (uL (S2)))] [(Bg g1),(Bi g2),(5,(Bo q.1.1 q.1.2.1 q.1.2.2 q.2.1 q.2.2.1 q.2.2.2))] [3] A0c A0a A0A h5 A0h ?_;intro a5 w5 h5;have h23:a5.tmps.getD 23 undef= .map (some g1):=by obtain⟨m5,O5,hn5,_⟩:=h5;exact hn5.read_x 23 A0g
    have h6:=h5.alias (i:=11) (d:=23) (s:=11) (ks:=S1.map rgV) (vs:=uL S1) A0g A0c (h23.trans (kept11 h5).symm);have hput:ns prog 108 (S1.map rgV) (uL S1) (.agg [.x (.string q.1.1),.i q.1.2.1,.i q.1.2.2,.x (.string q.2.1),.i q.2.2.1,.i q.2.2.2]) (.agg [])=some ((bW S1 q).map rgV,uL (bW S1 q)):=Pi S1 q;refine fR hE 3 1 [(3,.ptr 3 0),(4,.ptr 4 0),(5,.ptr 5 0),(11,.mp 11 ((bW S1 q).map rgV) (uL (bW S1 q))),(12,.mp 12 ((S2).map aa) (uL (S2)))] [(3,[.x (.map (some g1))]),(4,[.x (.map (some g2))]),(5,[.x (.string q.1.1),.i q.1.2.1,.i q.1.2.2,.x (.string q.2.1),.i q.2.2.1,.i q.2.2.2])] [] A0c A0a A0A h6 A0W ?_;intro a5 w5 h5;have hcl:=GA hqo;have hfc:=xS hcl;obtain⟨l,hll⟩:∃l,fT q=l:=⟨_,rfl⟩;have hlen:=qr q;rw[hll] at hfc hsn hlen;refine wpIn_seq (fk hE hm [(3,.ptr 3 0),(4,.ptr 4 0),(27,.l 3 (l.map aa)),(28,.i l.length),(29,.i 0),(11,.mp 11 ((bW S1 q).map rgV) (uL (bW S1 q))),(12,.mp 12 ((S2).map aa) (uL (S2)))] [(3,[.x (.map (some g1))]),(4,[.x (.map (some g2))])] A0a A0A h5 (by simp +decide only[go_sem,l13,t13,hfc,eq]<;>(repeat' first|rfl|constructor)) ?_);intro a5 w5 h5;refine wpIn_block (cI (X:={i:Nat//i<=l.length}) (fun i a w=>One (aI [(60,dU)]) 45 B' (aq [(3,.ptr 3 0),(4,.ptr 4 0),(27,.l 3 (l.map aa)),(28,.i l.length),(29,.i i.1),(11,.mp 11 ((bW S1 q).map rgV) (uL (bW S1 q))),(12,.mp 12 (((l.take i.1).foldl bW S2).map aa) (uL ((l.take i.1).foldl bW S2)))] [(3,[.x (.map (some g1))]),(4,[.x (.map (some g2))])]) a w) (fun i=>l.length-i.1) ⟨0,adN _⟩ h5 ?_);rintro⟨i,hi0⟩ a5 w5 h5;simp only at h5;by_cases hi:i<l.length
    . have c1:decide ((i:Int)<l.length)=true:=ac0 A0b;have c2:(0:Int)<=(i:Int):=A0b
      have c4:=ax (i:=i) A0b;obtain⟨p,hp⟩:∃p,l[i]?=some p:=⟨l[i],io hi⟩;have c5:(l.map aa)[(i:Int).toNat]?=some (.agg [.x (.string p.1),.i p.2.1,.i p.2.2]):=cY hp;have htk:(l.take (i+1)).foldl bW S2=bW ((l.take i).foldl bW S2) p:=by rw[af5,hp,Option.toList_some,aeT];rfl
      obtain⟨S3,hS3⟩:∃S3,(l.take i).foldl bW S2=S3:=⟨_,rfl⟩;rw[hS3] at h5 htk;refine wpIn_seq (fk hE hm [(3,.ptr 3 0),(4,.ptr 4 0),(27,.l 3 (l.map aa)),(28,.i l.length),(29,.i i),(30,.bool true),(11,.mp 11 ((bW S1 q).map rgV) (uL (bW S1 q))),(12,.mp 12 ((S3).map aa) (uL (S3)))] [(3,[.x (.map (some g1))]),(4,[.x (.map (some g2))])] A0a A0A h5 A0Z ?_);intro a5 w5 h5;refine wpIn_seq (fk hE hm [(3,.ptr 3 0),(4,.ptr 4 0),(27,.l 3 (l.map aa)),(28,.i l.length),(29,.i i),(11,.mp 11 ((bW S1 q).map rgV) (uL (bW S1 q))),(12,.mp 12 ((S3).map aa) (uL (S3)))] [(3,[.x (.map (some g1))]),(4,[.x (.map (some g2))])] A0a A0A h5 A0h ?_);intro a5 w5 h5;refine wpIn_seq (wpIn_block (wpIn_seq (fk hE hm [(3,.ptr 3 0),(4,.ptr 4 0),(9,.ptr 9 0),(27,.l 3 (l.map aa)),(28,.i l.length),(29,.i i),(11,.mp 11 ((bW S1 q).map rgV) (uL (bW S1 q))),(12,.mp 12 ((S3).map aa) (uL (S3)))] [(3,[.x (.map (some g1))]),(4,[.x (.map (some g2))]),(9,[.x (.string p.1),.i p.2.1,.i p.2.2])] A0a A0A h5 (by simp +decide (maxDischargeDepth:=200) only[go_sem,l13,t13,c2,c5]<;>(repeat' first|rfl|constructor)) ?_)));intro a5 w5 h5;refine wpIn_region ?_;refine fR hE 0 3 [(3,.ptr 3 0),(4,.ptr 4 0),(27,.l 3 (l.map aa)),(28,.i l.length),(29,.i i),(33,.x (.map (some g2))),(34,.agg [.x (.string p.1),.i p.2.1,.i p.2.2]),(35,.agg []),(11,.mp 11 ((bW S1 q).map rgV) (uL (bW S1 q))),(12,.mp 12 ((S3).map aa) (uL (S3)))] [(3,[.x (.map (some g1))]),(4,[.x (.map (some g2))])] [3] A0c A0a A0A h5 A0h ?_;intro a5 w5 h5;have h33:a5.tmps.getD 33 undef= .map (some g2):=by obtain⟨m5,O5,hn5,_⟩:=h5;exact hn5.read_x 33 A0g
      have h6:=h5.alias (i:=12) (d:=33) (s:=12) (ks:=S3.map aa) (vs:=uL S3) A0g A0c (h33.trans (kept12 h5).symm);have hput:ns prog 109 (S3.map aa) (uL S3) (.agg [.x (.string p.1),.i p.2.1,.i p.2.2]) (.agg [])=some ((bW S3 p).map aa,uL (bW S3 p)):=Kz S3 p;refine fR hE 3 1 [(3,.ptr 3 0),(4,.ptr 4 0),(27,.l 3 (l.map aa)),(28,.i l.length),(29,.i i),(11,.mp 11 ((bW S1 q).map rgV) (uL (bW S1 q))),(12,.mp 12 ((bW S3 p).map aa) (uL (bW S3 p)))] [(3,[.x (.map (some g1))]),(4,[.x (.map (some g2))])] [] A0c A0a A0A h6 A0W ?_;intro a5 w5 h5;refine fk hE hm [(3,.ptr 3 0),(4,.ptr 4 0),(27,.l 3 (l.map aa)),(28,.i l.length),(29,.i (i+1:Nat)),(11,.mp 11 ((bW S1 q).map rgV) (uL (bW S1 q))),(12,.mp 12 ((bW S3 p).map aa) (uL (bW S3 p)))] [(3,[.x (.map (some g1))]),(4,[.x (.map (some g2))])] A0a A0A h5 (by simp +decide only[go_sem,l13,t13,c4]<;>(repeat' first|rfl|constructor)) ?_;intro a5 w5 h5;exact⟨⟨i+1,A0b⟩,by simp only;rw[htk];exact h5,by simp only;omega⟩
    . have c1:decide ((i:Int)<l.length)=false:=Io A0b;have hli:l.take i=l:=ady A0b;rw[hli] at h5;refine wpIn_seq (fk hE hm [(3,.ptr 3 0),(4,.ptr 4 0),(30,.bool false),(11,.mp 11 ((bW S1 q).map rgV) (uL (bW S1 q))),(12,.mp 12 ((l.foldl bW S2).map aa) (uL (l.foldl bW S2)))] [(Bg g1),(Bi g2)] A0a A0A h5 A0Z ?_);intro a5 w5 h5;refine wpIn_seq (JW hE hm 2 [(3,.ptr 3 0),(4,.ptr 4 0),(11,.mp 11 ((bW S1 q).map rgV) (uL (bW S1 q))),(12,.mp 12 ((l.foldl bW S2).map aa) (uL (l.foldl bW S2)))] [(Bg g1),(Bi g2)] A0a A0A h5 A0h ?_);intro a5 w5 h5;rw[hsn];exact⟨_,h5,trivial,aK A0h A0h ⟩
 case stop=>intro _ _ _ _ _ _ h;exact h.elim
 case done=>
  intro xs b a' w' hd hinv hta h3;refine wpIn_seq (wpIn_region ?_);refine fR hE 0 1 [(12,.mp 12 ((kO xs).2.map aa) (uL (kO xs).2)),(37,.x (.map (some g2)))] [] [1,2,3,4] A0c A0a A0a h3 A0h ?_;intro a4 w4 h4;have h37:a4.tmps.getD 37 undef= .map (some g2):=by obtain⟨m5,O5,hn5,_⟩:=h4;exact hn5.read_x 37 A0g
  refine pP (n:=45) (d:=38) (f:=62) (Kno.rd (.pointer (some ⟨w4.heap.size,0,none⟩)) (.ip [.x (.map (some g2))])) rfl rfl rfl A0c rfl (fun a w=>call62 a w) h4 (R:=fun e w'=>e= .returned (.func (.func 77) #[] #[.pointer (some ⟨w4.heap.size,0,none⟩)])∧w'=w4.alloc (.cells #[.map (some g2)] 109)) (fun m1 O1 hn1 _=>?keys) ?_
  case keys=>have e1:a4.eval (.tmp 37)= .map (some g2):=h37;rw[show Array.map a4.eval #[.tmp 37]= #[a4.eval (.tmp 37)] from by simp,e1];exact BH g2 w4
  intro m7 O7 hn7 _ e w5 he;obtain⟨rfl,rfl⟩:=he;obtain⟨hs5,hr5⟩:=Yc (m:=m7) (w:=w4) (v:= .map (some g2)) (ty:=109) rfl;refine⟨_,_,.undef,rfl,hs5,hE.keep [] _ _ (fun x hx=>by cases hx) hn7.J (hs5.bel (fun k _ h=>h.elim)),.undef _,hr5,fun h5=>?_⟩;have hf38:(a4.put (some 38) (.func (.func 77) #[] #[.pointer (some ⟨w4.heap.size,0,none⟩)])).eval (.tmp 38)= .func (.func 77) #[] #[.pointer (some ⟨w4.heap.size,0,none⟩)]:=by
   have hz:a4.tmps.size=45:=by obtain⟨_,_,hr⟩:=hn7.rel;exact hr.size
   show((a4.put (some 38) _).tmps.getD 38 undef)=_;simp[Act.put,adC,hz]
  generalize (a4.put (some 38) (.func (.func 77) #[] #[.pointer (some ⟨w4.heap.size,0,none⟩)]))=a5 at h5 hf38;generalize w4.alloc _=w5 at h5;obtain⟨m5,O5,q1,q2,q3,q4,q5,q6⟩:=h5;have hk5:a5.tmps.getD 12 undef= .map (some g2):=(q6 12 rfl).trans hg2;obtain⟨hmp,hO⟩:=q1.map_at (i:=12) (s:=12) (ks:=(kO xs).2.map aa) (vs:=uL (kO xs).2) A0g hk5;have hsl:=(SR hd.1 h400).2;have hks:∀k∈(kO xs).2.map aa,∃p:C3,k=aa p:=by intro k hk;obtain⟨p,_,rfl⟩:=ads.1 hk;exact⟨p,rfl⟩
  have hC:=KB hks A0w hmp q5 (q1.K g2 hO) q1.J;refine nM (i:=2) (rest:=[3,4]) rfl rfl rfl rfl (fun a w=>call61 a w) (by rw[show Array.map a5.eval #[.tmp 38]= #[a5.eval (.tmp 38)] from by simp,hf38];exact hC) ?_;rintro e w6 ⟨v,m6,r,rfl,⟨lv,hperm,rfl⟩,hrd,hrow,hst6,hj6⟩;obtain⟨l,rfl⟩:∃l:List C3,lv=l.map aa:=by
   have key:∀l:U,(∀k∈l,∃p:C3,k=aa p)->∃ss:List C3,l=ss.map aa:=by
    intro l
    induction l with
    |nil=>exact fun _=>⟨[],rfl⟩
    |cons x l ih=>intro h;obtain⟨ss,rfl⟩:=ih (fun k hk=>h k (adE _ hk));obtain⟨s,rfl⟩:=h x (adP ..);exact⟨s::ss,rfl⟩
   exact key lv (fun k hk=>hks k (hperm.mem_iff.1 hk))
  have hmem:∀p:C3,p∈l↔∃q∈allN nd,HW p q=true:=fun p=>by
   have h1:=hperm.mem_iff (a:=aa p);rw[<-SS hd p];constructor
   . intro hp;obtain⟨p',hp',e⟩:=ads.1 (h1.1 (ads.2 ⟨p,hp,rfl⟩));exact kM _ _ e▸hp'
   . intro hp;obtain⟨p',hp',e⟩:=ads.1 (h1.2 (ads.2 ⟨p,hp,rfl⟩));exact kM _ _ e▸hp'
  have hnd:l.Nodup:=eY aa (hperm.nodup_iff.2 (List.Pairwise.map aa (fun a b hab e=>hab (kM _ _ e)) (xQ xs).2));have hll:l.length<=160000:=by have:=hperm.length_eq;rw[eq,eq] at this;omega
  refine⟨v,rfl,?_⟩;have hz5:a5.tmps.size=45:=by obtain⟨_,_,hr⟩:=q1.rel;exact hr.size
  by_cases hl0:l=[]
  . subst hl0;have hv:v= .slice none 0 0:=by cases hrd;rfl
    subst hv;have hrn:aD nd=[]:=(xA (a:=nd) (l:=[]) List.Pairwise.nil hmem).symm;rw[hrn];have h6:=One.after (Kn':=Kno.top) (d:=39) A0c (v:= .slice none 0 0) (u:= .x (.slice none 0 0)) q1 q2 q3 q4 q6 rfl hst6 hj6 (.x _) trivial;rw[dB] at h6;refine fR hE 3 2 [(10,.ptr 10 0)] [(10,[.x (.slice none 0 0)])] [] A0c A0a A0a h6 A0h ?_;intro a7 w7 h7;refine wpIn_seq (wpIn_region ?_);refine fR hE 0 1 [(10,.ptr 10 0),(40,.x (.slice none 0 0))] [(10,[.x (.slice none 0 0)])] [1,2,3] A0c A0a A0a h7 A0h ?_;intro a7 w7 h7;have e40:a7.eval (.tmp 40)= .slice none 0 0:=by obtain⟨m5,O5,hn5,_⟩:=h7;exact hn5.read_x 40 A0g
    refine uC (i:=1) (rest:=[2,3]) (d:=41) rfl (fun c e=>by cases e) rfl A0c rfl rfl h7 (.iface 29 (.slice none 0 0)) ?_ ?_
    . have hmi:(Instr.makeInterface 29 (.slice none 0 0)).run prog w7= .ok (.iface 29 (.slice none 0 0)) w7:=run_makeInterface _ _ _ A0a;exact XD
    intro a8 h8 ha8;obtain⟨Bk,e10⟩:∃Bk,a8.tmps.getD 10 undef= .p Bk:=by obtain⟨m5,O5,hn5,_⟩:=h8;obtain⟨b,vals,ty,fr,e,_⟩:=hn5.box_at (i:=10) (s:=10) (v:= .slice none 0 0) A0i A0U;exact⟨b,e⟩
    refine uC (i:=2) (rest:=[3]) (d:=42) rfl (fun c e=>by cases e) rfl A0c rfl rfl h8 (.func (.func 63) #[] #[.p Bk]) ?_ ?_
    . exact XN
    intro a9 h9 ha9;have e41:a9.tmps.getD 41 undef= .iface 29 (.slice none 0 0):=by obtain⟨m5,O5,hn5,_⟩:=h9;exact hn5.read_x 41 A0i
    have e42:a9.tmps.getD 42 undef= .func (.func 63) #[] #[.p Bk]:=by obtain⟨m5,O5,hn5,_⟩:=h9;exact hn5.read_x 42 A0i
    refine pP (n:=45) (d:=43) (f:=55) Kno.top rfl rfl rfl A0c rfl (fun a w=>call55 a w) h9 (R:=fun e w'=>e= .returned (.tuple #[])∧∃os,w'=Sort.grow w7 os) (fun m1 O1 hn1 _=>?_) ?_
    . rw[show Array.map a9.eval #[.tmp 41,.tmp 42]= #[a9.tmps.getD 41 undef,a9.tmps.getD 42 undef] from by simp[Act.eval],e41,e42];exact Ye
    rintro m8 O8 hn8 _ e w8 ⟨rfl,os,rfl⟩;have hbel:Below w7.heap.size w7 (Sort.grow w7 os):=⟨rfl,rfl,rfl,by simp[Sort.grow],fun k hk=>Sort.heap_grow_old _ _ hk⟩;refine⟨_,m8,.undef,rfl,Step.of_below hbel (fun _ _=>rfl),hE.keep [] _ _ (fun x hx=>by cases hx) hn8.J ⟨hbel.os,hbel.tape,hbel.output,hbel.size,fun k hk _=>hbel.block k hk⟩,.undef _,trivial,fun h10=>?_⟩;show Exit.then _ _ Exit.normal _ _;generalize a9.put (some 43) _=a10 at h10;generalize Sort.grow w7 os=w10 at h10;refine wpIn_seq (fk hE hm [(2,.x (.slice none 0 0))] [] A0a A0a h10 (by simp +decide only[go_sem,l13,t13,St.put,fi]<;>(repeat' first|rfl|constructor)) ?_);intro a11 w11 h11;have e2:a11.tmps.getD 2 undef= .slice none 0 0:=by obtain⟨m5,O5,hn5,_⟩:=h11;exact hn5.read_x 2 A0g
    obtain⟨m9,O9,r1,r2,r3,r4,r5,r6⟩:=h11;have h12:=One.know (n:=45) (d:=2) (v:= .slice none 0 0) (u:= .sl true 0 [] none) A0c ⟨m9,O9,r1,r2,r3,r4,.nil _ _,r6⟩ e2 (dV _ _ _ _);exact wpIn_ret ⟨.inr rfl,_,_,_,_,_,h12,A1l⟩
  . have hemp:(l.map aa).isEmpty=false:=by
     cases l with
     |nil=>exact absurd rfl hl0
     |cons x l=>rfl
    have hlen:(l.map aa).length=l.toArray.size:=A0k
    rw[hemp] at hrd hrow;obtain⟨g,⟨lim,cap,cur,ty,hv,hh6,hle,hsz⟩,hge⟩:=hrow _ _ _ rfl;rw[hlen] at hv hle;subst hv;have hcur:=KM rfl hrd hh6;have hKg:iq<=g:=adJ (hE.high _ q1.J) hge;have hsz0:l.toArray.size=l.length:=A0k
    have h6:=OneG.after (Kn':=Kno.top) (d:=39) A0c (v:=(.s g l.toArray.size cap)) q1 q2 q3 q4 q6 rfl hst6 hj6 trivial hge hh6;refine iy hE 3 2 [(10,.ptr 10 0)] [(10,[.x (.s g l.toArray.size cap)])] [] A0c A0a A0a h6 A0h ?_;intro a7 w7 h7;refine wpIn_seq (wpIn_region ?_);refine iy hE 0 1 [(10,.ptr 10 0),(40,.x (.s g l.toArray.size cap))] [(10,[.x (.s g l.toArray.size cap)])] [1,2,3] A0c A0a A0a h7 A0h ?_;intro a7 w7 h7;have e40:a7.eval (.tmp 40)=(.s g l.toArray.size cap):=by obtain⟨m5,O5,hn5,_⟩:=h7;exact hn5.read_x 40 A0g
    refine kg (i:=1) (rest:=[2,3]) (d:=41) rfl (fun c e=>by cases e) rfl A0c rfl rfl h7 (.iface 29 (.s g l.toArray.size cap)) ?_ ?_
    . have hmi:(Instr.makeInterface 29 (.s g l.toArray.size cap)).run prog w7= .ok (.iface 29 (.s g l.toArray.size cap)) w7:=run_makeInterface _ _ _ A0a;exact XD
    intro a8 h8 ha8;obtain⟨Bk,vals,tyB,frB,e10,hB,hB0,hne⟩:∃Bk vals tyB frB,a8.tmps.getD 10 undef= .p Bk∧w7.heap[Bk]?=some (.cells vals tyB frB)∧vals[0]?=some (.s g l.toArray.size cap)∧Bk≠g:=by obtain⟨m5,O5,hn5,_,_,_,_,_,hng,_⟩:=h8;obtain⟨b,vals,ty,fr,e,e2,e3,e4⟩:=hn5.box_at (i:=10) (s:=10) (v:=(.s g l.toArray.size cap)) A0i A0U;exact⟨b,vals,ty,fr,e,e2,e3,fun e=>hng (e▸e4)⟩
    refine kg (i:=2) (rest:=[3]) (d:=42) rfl (fun c e=>by cases e) rfl A0c rfl rfl h8 (.func (.func 63) #[] #[.p Bk]) ?_ ?_
    . exact XN
    intro a9 h9 ha9;have e41:a9.tmps.getD 41 undef= .iface 29 (.s g l.toArray.size cap):=by obtain⟨m5,O5,hn5,_⟩:=h9;exact hn5.read_x 41 A0i
    have e42:a9.tmps.getD 42 undef= .func (.func 63) #[] #[.p Bk]:=by obtain⟨m5,O5,hn5,_⟩:=h9;exact hn5.read_x 42 A0i
    have hgs:w.heap.size<=g:=adJ q3.ext.size hge;obtain⟨hj9,hh9⟩:(aI []).J w7∧w7.heap[g]?=some (.cells cur ty (0,0)):=by obtain⟨m5,O5,hn5,_,_,_,_,_,_,hh9,_⟩:=h9;exact⟨hn5.J,hh9⟩
    have hS:=Yd KG A0c (blk:=g) (Bk:=Bk) (cap:=cap) (d:=l.toArray) hh9 (by simpa using hcur) hB hB0 hne hle (by unfold MX;omega) hKg hj9;refine nM (i:=3) (rest:=[]) rfl rfl rfl rfl (fun a w=>call55 a w) (by rw[show Array.map a9.eval #[.tmp 41,.tmp 42]= #[a9.tmps.getD 41 undef,a9.tmps.getD 42 undef] from by simp[Act.eval],e41,e42];exact hS) ?_;rintro e w8 ⟨rfl,d',hp,hs8,hb8,m8,hbx⟩;refine⟨_,rfl,?_⟩;obtain⟨hsrt,hpm⟩:=KL hp hs8 (by simpa using hnd);have hrn:d'.toList=aD nd:=xA hsrt (fun p=>(hpm.mem_iff).trans (by simpa using hmem p));have hds:d'.size=l.toArray.size:=hp.1;have h10:=OneG.done (v:=(.s g l.toArray.size cap)) (u:= .sl false 3 ((aD nd).map aa) none) hE h9 ⟨_,_,_,rfl⟩ hgs hKg hb8 (fun m hm=>by have:=KH hbx (by rw[hds];exact hle) m hm;rw[hds,hrn] at this;exact this)
    have h11:=h10.putU (d:=43) A0c rfl (.tuple #[]);show Exit.then _ _ Exit.normal _ _;generalize a9.put (some 43) _=a10 at h11;refine wpIn_seq (fk hE hm [(2,.x (.s g l.toArray.size cap))] [] A0a A0a h11 (by simp +decide only[go_sem,l13,t13,St.put]<;>(repeat' first|rfl|constructor)) ?_);intro a11 w11 h12;have e2:a11.tmps.getD 2 undef=(.s g l.toArray.size cap):=by obtain⟨m5,O5,hn5,_⟩:=h12;exact hn5.read_x 2 A0g
    have h13:=One.know (n:=45) (d:=2) A0c h12 e2 (dV _ _ _ _);have hne2:(aD nd).isEmpty=false:=by
     cases hc:aD nd with
     | nil=>
       rw[hc] at hrn;have h0:l.toArray.size=0:=by rw[<-hds,<-adD,hrn];rfl
       exact absurd (List.eq_nil_of_length_eq_zero A0b) hl0
     |cons x r=>rfl
    have hsz3:kL (aD nd)=3:=by
     cases hc:aD nd with
     |nil=>rw[hc] at hne2;cases hne2
     |cons x r=>rfl
    exact wpIn_ret ⟨.inr rfl,_,_,_,_,_,h13,by rw[hne2,hsz3];simp +decide only[go_sem]⟩
set_option maxHeartbeats 8000000
theorem D9:cg 56 QR:=by
 refine aE (E:=aI [(57,bp)]) (k:=3) (aU _ ⟨xq,trivial⟩) A0a func56 rfl (fun a w=>call56 a w) ntmps56 A0a A0c A0c ?_;intro us r hF hdat;unfold QR at hF;split at hF
 case h_2=>cases hF
 rename_i i j es;split at hF
 case h_2=>cases hF
 exact Xa
section
variable{G:Nat->V}{bk Bk N cap:Nat}
end
