/- The reference's rows of cells that are read. -/
import Derived.Test.YtalkmhjanlljhaaGreatML
import Derived.Test.YtalkmhjanlljhaaGreatMPO
import Derived.Test.YtalkmhjanlljhaaGreatMT
namespace Go.Proofs.YtalkmhjanlljhaaGreat
set_option linter.unusedSimpArgs false
set_option maxHeartbeats 8000000
set_option maxRecDepth 100000
open Go Go.RowKit
attribute [go_sem] Tryz.results11 Tryz.results23 Tryz.results30 Tryz.results36
variable {E:Env} {st:St}
theorem iV {ops:List Oper} {K:St->Prop} (ents:List (Nat×Nat×Nat×V)) (bs:List (Nat×List V)) (ps:List (Nat×Nat×Nat)) (full:Nat) (hf:2^ops.length-1=full) (h:iA ops ps=true) (h0:gY st (ii ents 0)∧gE st bs) (ht:ta E ops ents bs ps)
 (hk:K (aq (ii ents full) bs)):An E ops st K:=qM ents bs ps h h0 ht (hf▸hk)
theorem By (l:List (Nat×(List V->Option V))) (M:Nat->Bool) (lp:List (Nat×(List V->Option (V×List (List V))))) (any:Nat->Bool) (k:Nat) (b:Nat->Option (List V)):aB (aP l M lp (fun _=>false) any) k b=b:=rfl
attribute [go_sem] By
theorem Bz {a:Code} {K:Out->St->Prop} (i n:Nat) {es:List V} {n0:Nat} {k0:Option Nat} (h:st.t i= .sl true n0 es k0) (he:es=[])
 (hr:kG (run E a) ⟨aD st.t i (.sl true n es none),st.b⟩ K):kG (run E a) st K:=by
 subst he;obtain⟨X,I,μ,x0,h0,hx⟩:=hr;refine⟨X,I,μ,x0,⟨fun j=>?_,h0.b⟩,hx⟩;have:=h0.t j;simp only[aH] at this;split at this
 . rename_i e;subst e;rw[h];rcases this with e|e|⟨_,_,_,_,e1,e2⟩
   . exact .inl e
   . exact .inr (.inr ⟨_,_,_,_,e,rfl⟩)
   . exact .inr (.inr ⟨_,_,_,_,e1,rfl⟩)
 . exact this
def bY:List V->Option V
 | [.sl _ sz es none,.agg [.x (.string s),.x (.int .i64 c),.x (.int .i64 r)]]=>match cellsOf es with
   |some l=>if l.length<=1000000∧(sz=3∨l=[]) then some (.x (.bool (l.any fun p=>dD p (s,c,r)))) else none
   |none=>none
 |_=>none
variable {l:List C3}
theorem nW {nl:Bool} {sz:Nat} (s:ByteArray) (c r:Int) (h:l.length<=1000000) (hs:sz=3∨l=[]):bY [.sl nl sz (l.map aa) none,.agg [.x (.string s),.x (.int .i64 c),.x (.int .i64 r)]]=some (.x (.bool (l.any fun p=>dD p (s,c,r)))):=by unfold bY;simp only[eR];exact Va ⟨h,hs⟩
theorem nX:bM 23 bY:=by
 refine av (E:=aP [] (fun _=>false) [] (fun _=>false) (fun _=>false)) (k:=2) (eH _ _ _ _ _ trivial trivial) (by kernel_rfl) Tryz.func23 rfl (fun a w=>Tryz.call23 a w) Tryz.ntmps23 (by kernel_rfl) (by decide) (by decide) ?_;intro us r hF hdat;unfold bY at hF;split at hF
 case h_2=>cases hF
 rename_i nl sz es s c r;split at hF
 case h_2=>cases hF
 rename_i l hl;split at hF
 case isFalse=>cases hF
 rename_i hle;obtain⟨hle,hs3⟩:=hle;cases hF;refine⟨rfl,?_⟩;obtain rfl:=fL hl;clear hl;have hsz:(((l.map aa).length:Nat):Int)=(l.length:Int):=by rw[eq]
 simp +decide (maxDischargeDepth:=200) only[go_sem,Nat.reduceBEq];refine aI (X:={i:Nat//i<=l.length∧∀(j:Nat) (p:C3),j<i->l[j]?=some p->dD p (s,c,r)=false}) (fun i=>[(0,.sl nl sz (l.map aa) none),(3,.ptr 3 0),(4,.x (.bool false)),(5,.x (.int .i64 i.1))]) (fun _=>[(3,[.x (.string s),.x (.int .i64 c),.x (.int .i64 r)])]) (fun i=>l.length-i.1) ⟨0,by omega,fun j k hj=>by omega⟩ (by simp +decide only[go_sem];rfl) (by simp +decide only[go_sem]) (fun⟨i,hi,hz⟩=>?_);by_cases hil:i<l.length
 . obtain rfl:sz=3:=hs3.resolve_right (by rintro rfl;simp at hil);obtain⟨⟨s1,c1,r1⟩,hb⟩:=nK hil;have d0:decide ((i:Int)<(l.length:Int))=true:=iO (by omega);have k2:(0:Int)<=(i:Int):=by omega
   have k4:=aF (i:=i) (by omega);have k5:=ca hb;cases hq:dD (s1,c1,r1) (s,c,r)
   . simp +decide (maxDischargeDepth:=200) only[go_sem,Nat.reduceBEq,hsz,d0,k2,k4,k5,bg,HV,hq];refine⟨⟨i+1,by omega,fun j p hj hp=>?_⟩,?_,?_,by simp only;omega⟩
     . by_cases hji:j=i
       . subst hji;rw[hb] at hp;cases hp;exact hq
       . exact hz j p (by omega) hp
     . simp +decide only[go_sem]
     . simp +decide only[go_sem]
   . have e:(l.any fun p=>dD p (s,c,r))=true:=Wp.2 ⟨_,Vd hb,hq⟩;simp +decide (maxDischargeDepth:=200) only[go_sem,Nat.reduceBEq,hsz,d0,k2,k4,k5,bg,HV,hq,e]
 . have d0:decide ((i:Int)<(l.length:Int))=false:=tl (by omega);have e:(l.any fun p=>dD p (s,c,r))=false:=by rw[List.any_eq_false];intro p hp;obtain⟨j,hj⟩:=VU hp;simp[hz j p (by have:=(Io.1 hj).1;omega) hj]
   simp +decide (maxDischargeDepth:=200) only[go_sem,Nat.reduceBEq,hsz,d0,e]
def ac (p q:C3):Bool:=dG p.1 p.2.1 p.2.2 q.1 q.2.1 q.2.2
def gZ (l:List C3) (p:C3):Bool:=l.any fun q=>dD q p
def aG (l:List C3) (p:C3):List C3:=if gZ l p=true then l else l.takeWhile (fun q=>ac q p)++p::l.dropWhile (fun q=>ac q p)
theorem gI {α:Type} (f:α->Bool):∀(l:List α) (i:Nat),i<=l.length->(∀(j:Nat) (q:α),j<i->l[j]?=some q->f q=true)->(∀q,l[i]?=some q->f q=false)->l.takeWhile f=l.take i∧l.dropWhile f=l.drop i
 |[],i,_,_,_=>by simp
 |q::l,0,_,_,h=>by have:=h q rfl;simp[List.takeWhile,List.dropWhile,this]
 |q::l,i+1,hi,h1,h2=>by have hq:=h1 0 q (by omega) rfl;obtain⟨e1,e2⟩:=gI f l i (by simpa using hi) (fun j q hj hq=>h1 (j+1) q (by omega) (by simpa using hq)) (fun q hq=>h2 q (by simpa using hq));simp[List.takeWhile,List.dropWhile,hq,e1,e2]
def jN:List V->Option V
 | [.sl nl sz es none,.agg [.x (.string s),.x (.int .i64 c),.x (.int .i64 r)]]=>match cellsOf es with
   |some l=>if l.length<=900000∧(sz=3∨nl=true∧l=[]) then some (if gZ l (s,c,r)=true then .sl nl sz es none else .sl false 3 ((aG l (s,c,r)).map aa) none) else none
   |none=>none
 |_=>none
variable {i:Nat}
theorem mD:List.take ((i:Int).toNat-0) (l.map aa)=(l.take i).map aa:=by simp[List.map_take]
theorem mE:List.take ((((l.map aa).length:Nat):Int).toNat-(i:Int).toNat) (List.drop (i:Int).toNat (l.map aa))=(l.drop i).map aa:=by rw[U2,U2,List.map_drop,Vp (by simp)]
theorem kV (hP:E.P=Tryz.prog) {a b:List C3} (h:a.length+b.length<=1000000) (st:St) (d tok sz:Nat) (nl:Bool) (t':Option Nat) (hs:sz=3∨b.map aa=[]):
 bi E st (some d) 24 (.sl false 3 (a.map aa) (some tok)) (.sl nl sz (b.map aa) t')=some ⟨aD (strip tok (strip d st.t)) d (.sl false 3 ((a++b).map aa) (some d)),aB E tok (aB E d st.b)⟩:=by
 have e1:bq E.P 24=some 3:=by rw[hP];exact kL
 have e2:bV E.P 24=some 32:=by rw[hP];exact kM
 have e3:=kN;rw[<-hP] at e3;unfold bi;simp only[e1,e2,e3];rw[Va ⟨by decide,rfl,trivial,hs,(U8.2 fun u hu=>by obtain⟨p,_,rfl⟩:=U7.1 hu;rfl),by rw[eq,eq];omega,by rw[eq,eq];omega⟩,Vy]
theorem ju (hP:E.P=Tryz.prog) {b:List C3} (h:b.length<=1000000) (st:St) (d n sz:Nat) (nl:Bool) (t':Option Nat) (hs:sz=3∨b.map aa=[]):
 bi E st (some d) 24 (.sl true n [] none) (.sl nl sz (b.map aa) t')=some ⟨aD (strip d st.t) d (.sl (b.map aa).isEmpty 3 (b.map aa) (some d)),aB E d st.b⟩:=by
 have e1:bq E.P 24=some 3:=by rw[hP];exact kL
 have e2:bV E.P 24=some 32:=by rw[hP];exact kM
 have e3:=kN;rw[<-hP] at e3;unfold bi;simp only[e1,e2,e3];rw[Va ⟨by decide,rfl,hs,(U8.2 fun u hu=>by obtain⟨p,_,rfl⟩:=U7.1 hu;rfl),by rw[eq];omega,by rw[eq];omega⟩];rfl
theorem jv (hP:E.P=Tryz.prog) {a:List C3} (h:a.length<=1000000) (s:ByteArray) (c r:Int) (st:St) (d tok:Nat) (nl:Bool) (t':Option Nat):
 bi E st (some d) 24 (.sl (a.map aa).isEmpty 3 (a.map aa) (some tok)) (.sl nl 3 [.agg [.x (.string s),.x (.int .i64 c),.x (.int .i64 r)]] t')=some ⟨aD (strip tok (strip d st.t)) d (.sl false 3 ((a++[(s,c,r)]).map aa) (some d)),aB E tok (aB E d st.b)⟩:=by
 rw[Vy];exact cL (E:=E) (n:=3) (by rw[hP];exact kL) (by rw[hP];exact kM) (by rw[hP];exact kN) (by decide) rfl rfl (by rw[eq];omega) (by rw[eq];omega) st d tok nl t'
theorem tE :bM 36 jN:=by
 refine av (E:=aP [(23,bY),(57,bd)] (fun _=>false) [] (fun _=>false) (fun i=>i==6)) (k:=2) (eH _ _ _ _ _ ⟨nX,pz,trivial⟩ trivial) (by kernel_rfl) Tryz.func36 rfl (fun a w=>Tryz.call36 a w) Tryz.ntmps36 (by kernel_rfl) (by decide) (by decide) ?_;intro us r hF hdat;unfold jN at hF;split at hF
 case h_2=>cases hF
 rename_i nl sz es s c r;split at hF
 case h_2=>cases hF
 rename_i l hl;split at hF
 case isFalse=>cases hF
 rename_i hle;obtain⟨hle,hs3⟩:=hle;cases hF;refine⟨rfl,?_⟩;obtain rfl:=fL hl;clear hl;have hsz:(((l.map aa).length:Nat):Int)=(l.length:Int):=by rw[eq]
 have hh:=nW (nl:=nl) (sz:=sz) (l:=l) s c r (by omega) (hs3.imp id And.right);by_cases hin:gZ l (s,c,r)=true
 . rw[Va hin];have hin':(l.any fun p=>dD p (s,c,r))=true:=hin;rw[hin'] at hh;simp +decide (maxDischargeDepth:=200) only[go_sem,Nat.reduceBEq,hh]
 . rw [Vh hin];have e:aG l (s,c,r)=l.takeWhile (fun q=>ac q (s,c,r))++(s,c,r)::l.dropWhile (fun q=>ac q (s,c,r)):=Vh hin;have hin':(l.any fun p=>dD p (s,c,r))=false:=by revert hin;unfold gZ;cases(l.any fun p=>dD p (s,c,r))<;>simp
   rw[hin'] at hh;rcases hs3 with rfl|⟨rfl,hl0⟩
   . simp +decide (maxDischargeDepth:=200) only[go_sem,Nat.reduceBEq,hh];refine aI (X:={i:Nat//i<=l.length∧∀(j:Nat) (p:C3),j<i->l[j]?=some p->ac p (s,c,r)=true}) (fun i=>[(0,.sl nl 3 (l.map aa) none),(3,.ptr 3 0),(4,.sl true 0 [] none),(5,.x (.int .i64 i.1))]) (fun _=>[(3,[.x (.string s),.x (.int .i64 c),.x (.int .i64 r)])]) (fun i=>l.length-i.1) ⟨0,by omega,fun j k hj=>by omega⟩ (by simp +decide (maxDischargeDepth:=200) only[go_sem];rfl) (by simp +decide (maxDischargeDepth:=200) only[go_sem]) (fun⟨i,hi,hz⟩=>?_);by_cases hil:i<l.length
     . obtain⟨⟨s1,c1,r1⟩,hb⟩:=nK hil;have d0:decide ((i:Int)<(l.length:Int))=true:=iO (by omega);have k2:(0:Int)<=(i:Int):=by omega
       have k4:=aF (i:=i) (by omega);have k5:=ca hb;cases hq:dG s1 c1 r1 s c r
       . obtain⟨e1,e2⟩:=gI (fun q=>ac q (s,c,r)) l i hi hz (fun q hq'=>by rw[hb] at hq';cases hq';exact hq);have ef:aG l (s,c,r)=(l.take i++[(s,c,r)])++l.drop i:=by rw[e,e1,e2];simp
         rw[ef];simp +decide (maxDischargeDepth:=200) only[go_sem,Nat.reduceBEq,hsz,d0,k2,k4,k5,bg,bd,hq];have g1:∀(st:St),bi (aP [(23,bY),(57,bd)] (fun _=>false) [] (fun _=>false) (fun i=>i==6)) st (some 27) 24 (.sl true 0 [] none) (.sl nl 3 ((l.take i).map aa) none)=_:=fun st=>ju (E:=aP [(23,bY),(57,bd)] (fun _=>false) [] (fun _=>false) (fun i=>i==6)) rfl (b:=l.take i) (by rw[Vj];omega) st 27 0 3 nl none (.inl rfl)
         have g2:∀(st:St) (tok:Nat),bi (aP [(23,bY),(57,bd)] (fun _=>false) [] (fun _=>false) (fun i=>i==6)) st (some 30) 24 (.sl ((l.take i).map aa).isEmpty 3 ((l.take i).map aa) (some tok)) (.sl false 3 [.agg [.x (.string s),.x (.int .i64 c),.x (.int .i64 r)]] none)=_:=fun st tok=>jv (E:=aP [(23,bY),(57,bd)] (fun _=>false) [] (fun _=>false) (fun i=>i==6)) rfl (a:=l.take i) (by rw[Vj];omega) s c r st 30 tok false none
         have g3:∀(st:St) (tok:Nat),bi (aP [(23,bY),(57,bd)] (fun _=>false) [] (fun _=>false) (fun i=>i==6)) st (some 34) 24 (.sl false 3 ((l.take i++[(s,c,r)]).map aa) (some tok)) (.sl nl 3 ((l.drop i).map aa) none)=_:=fun st tok=>kV (E:=aP [(23,bY),(57,bd)] (fun _=>false) [] (fun _=>false) (fun i=>i==6)) rfl (a:=l.take i++[(s,c,r)]) (b:=l.drop i) (by simp only[U4,Vj,Wh,U3,VB];omega) st 34 tok 3 nl none (.inl rfl)
         have i0:(0:Int)<=(i:Int):=by omega
         have i1:(i:Int)<=(((l.map aa).length:Nat):Int):=by rw[eq];omega
         refine iV [(0,0,0,.sl nl 3 (l.map aa) none),(0,0,3,.ptr 3 0),(0,2048,4,.sl true 0 [] none),(0,0,5,.x (.int .i64 (i:Int))),(1,0,24,.sl nl 3 (l.map aa) none),(2,0,25,.x (.int .i64 (i:Int))),(4,0,26,.sl nl 3 ((l.take i).map aa) none),(8,64,27,.sl ((l.take i).map aa).isEmpty 3 ((l.take i).map aa) (some 27)),(16,0,28,.agg [.x (.string s),.x (.int .i64 c),.x (.int .i64 r)]),(32,0,29,.sl false 3 [.agg [.x (.string s),.x (.int .i64 c),.x (.int .i64 r)]] none),(64,1024,30,.sl false 3 ((l.take i++[(s,c,r)]).map aa) (some 30)),(128,0,31,.sl nl 3 (l.map aa) none),(256,0,32,.x (.int .i64 (i:Int))),(512,0,33,.sl nl 3 ((l.drop i).map aa) none),(1024,2048,34,.sl false 3 (((l.take i++[(s,c,r)])++l.drop i).map aa) (some 34)),(2048,0,4,.sl false 3 (((l.take i++[(s,c,r)])++l.drop i).map aa) (some 34))] [(3,[.x (.string s),.x (.int .i64 c),.x (.int .i64 r)])] [(0,0,1),(0,1,2),(0,4,16),(0,7,128),(0,8,256),(1,1,3),(1,4,17),(1,7,129),(1,8,257),(2,0,3),(2,4,18),(2,7,130),(2,8,258),(16,0,17),(16,1,18),(16,5,48),(16,7,144),(16,8,272),(128,0,129),(128,1,130),(128,4,144),(128,8,384),(256,0,257),(256,1,258),(256,4,272),(256,7,384),(3,2,7),(3,4,19),(3,7,131),(3,8,259),(17,1,19),(17,5,49),(17,7,145),(17,8,273),(129,1,131),(129,4,145),(129,8,385),(257,1,259),(257,4,273),(257,7,385),(18,0,19),(18,5,50),(18,7,146),(18,8,274),(130,0,131),(130,4,146),(130,8,386),(258,0,259),(258,4,274),(258,7,386),(48,0,49),(48,1,50),(48,7,176),(48,8,304),(144,0,145),(144,1,146),(144,5,176),(144,8,400),(272,0,273),(272,1,274),(272,5,304),(272,7,400),(384,0,385),(384,1,386),(384,4,400),(384,9,896),(7,3,15),(7,4,23),(7,7,135),(7,8,263),(19,2,23),(19,5,51),(19,7,147),(19,8,275),(131,2,135),(131,4,147),(131,8,387),(259,2,263),(259,4,275),(259,7,387),(49,1,51),(49,7,177),(49,8,305),(145,1,147),(145,5,177),(145,8,401),(273,1,275),(273,5,305),(273,7,401),(385,1,387),(385,4,401),(385,9,897),(50,0,51),(50,7,178),(50,8,306),(146,0,147),(146,5,178),(146,8,402),(274,0,275),(274,5,306),(274,7,402),(386,0,387),(386,4,402),(386,9,898),(176,0,177),(176,1,178),(176,8,432),(304,0,305),(304,1,306),(304,7,432),(400,0,401),(400,1,402),(400,5,432),(400,9,912),(896,0,897),(896,1,898),(896,4,912),(15,4,31),(15,7,143),(15,8,271),(23,3,31),(23,5,55),(23,7,151),(23,8,279),(135,3,143),(135,4,151),(135,8,391),(263,3,271),(263,4,279),(263,7,391),(51,2,55),(51,7,179),(51,8,307),(147,2,151),(147,5,179),(147,8,403),(275,2,279),(275,5,307),(275,7,403),(387,2,391),(387,4,403),(387,9,899),(177,1,179),(177,8,433),(305,1,307),(305,7,433),(401,1,403),(401,5,433),(401,9,913),(897,1,899),(897,4,913),(178,0,179),(178,8,434),(306,0,307),(306,7,434),(402,0,403),(402,5,434),(402,9,914),(898,0,899),(898,4,914),(432,0,433),(432,1,434),(432,9,944),(912,0,913),(912,1,914),(912,5,944),(31,5,63),(31,7,159),(31,8,287),(143,4,159),(143,8,399),(271,4,287),(271,7,399),(55,3,63),(55,7,183),(55,8,311),(151,3,159),(151,5,183),(151,8,407),(279,3,287),(279,5,311),(279,7,407),(391,3,399),(391,4,407),(391,9,903),(179,2,183),(179,8,435),(307,2,311),(307,7,435),(403,2,407),(403,5,435),(403,9,915),(899,2,903),(899,4,915),(433,1,435),(433,9,945),(913,1,915),(913,5,945),(434,0,435),(434,9,946),(914,0,915),(914,5,946),(944,0,945),(944,1,946),(63,6,127),(63,7,191),(63,8,319),(159,5,191),(159,8,415),(287,5,319),(287,7,415),(399,4,415),(399,9,911),(183,3,191),(183,8,439),(311,3,319),(311,7,439),(407,3,415),(407,5,439),(407,9,919),(903,3,911),(903,4,919),(435,2,439),(435,9,947),(915,2,919),(915,5,947),(945,1,947),(946,0,947),(127,7,255),(127,8,383),(191,6,255),(191,8,447),(319,6,383),(319,7,447),(415,5,447),(415,9,927),(911,4,927),(439,3,447),(439,9,951),(919,3,927),(919,5,951),(947,2,951),(255,8,511),(383,7,511),(447,6,511),(447,9,959),(927,5,959),(951,3,959),(511,9,1023),(959,6,1023),(1023,10,2047),(2047,11,4095)] 4095 (by kernel_rfl) (by kernel_rfl) ?_ ?_ ?_
         . simp +decide (maxDischargeDepth:=200) only[go_sem]
         . simp +decide (maxDischargeDepth:=200) only[go_sem,mD,mE,g1,g2,g3,i0,i1]
         . simp +decide (maxDischargeDepth:=200) only[go_sem,Nat.reduceBEq]
       . simp +decide (maxDischargeDepth:=200) only[go_sem,Nat.reduceBEq,hsz,d0,k2,k4,k5,bg,bd,hq];refine⟨⟨i+1,by omega,fun j p hj hp=>?_⟩,?_,?_,by simp only;omega⟩
         . by_cases hji:j=i
           . subst hji;rw[hb] at hp;cases hp;exact hq
           . exact hz j p (by omega) hp
         . simp +decide (maxDischargeDepth:=200) only[go_sem]
         . simp +decide (maxDischargeDepth:=200) only[go_sem]
     . have d0:decide ((i:Int)<(l.length:Int))=false:=tl (by omega);obtain⟨e1,e2⟩:=gI (fun q=>ac q (s,c,r)) l i hi hz (fun q hq'=>by rw[Vx (by omega)] at hq';cases hq');have ef:aG l (s,c,r)=(l.take i++[(s,c,r)])++l.drop i:=by rw[e,e1,e2];simp
       rw[ef];simp +decide (maxDischargeDepth:=200) only[go_sem,Nat.reduceBEq,hsz,d0];have g1:∀(st:St),bi (aP [(23,bY),(57,bd)] (fun _=>false) [] (fun _=>false) (fun i=>i==6)) st (some 27) 24 (.sl true 0 [] none) (.sl nl 3 ((l.take i).map aa) none)=_:=fun st=>ju (E:=aP [(23,bY),(57,bd)] (fun _=>false) [] (fun _=>false) (fun i=>i==6)) rfl (b:=l.take i) (by rw[Vj];omega) st 27 0 3 nl none (.inl rfl)
       have g2:∀(st:St) (tok:Nat),bi (aP [(23,bY),(57,bd)] (fun _=>false) [] (fun _=>false) (fun i=>i==6)) st (some 30) 24 (.sl ((l.take i).map aa).isEmpty 3 ((l.take i).map aa) (some tok)) (.sl false 3 [.agg [.x (.string s),.x (.int .i64 c),.x (.int .i64 r)]] none)=_:=fun st tok=>jv (E:=aP [(23,bY),(57,bd)] (fun _=>false) [] (fun _=>false) (fun i=>i==6)) rfl (a:=l.take i) (by rw[Vj];omega) s c r st 30 tok false none
       have g3:∀(st:St) (tok:Nat),bi (aP [(23,bY),(57,bd)] (fun _=>false) [] (fun _=>false) (fun i=>i==6)) st (some 34) 24 (.sl false 3 ((l.take i++[(s,c,r)]).map aa) (some tok)) (.sl nl 3 ((l.drop i).map aa) none)=_:=fun st tok=>kV (E:=aP [(23,bY),(57,bd)] (fun _=>false) [] (fun _=>false) (fun i=>i==6)) rfl (a:=l.take i++[(s,c,r)]) (b:=l.drop i) (by simp only[U4,Vj,Wh,U3,VB];omega) st 34 tok 3 nl none (.inl rfl)
       have i0:(0:Int)<=(i:Int):=by omega
       have i1:(i:Int)<=(((l.map aa).length:Nat):Int):=by rw[eq];omega
       refine iV [(0,0,0,.sl nl 3 (l.map aa) none),(0,0,3,.ptr 3 0),(0,2048,4,.sl true 0 [] none),(0,0,5,.x (.int .i64 (i:Int))),(1,0,24,.sl nl 3 (l.map aa) none),(2,0,25,.x (.int .i64 (i:Int))),(4,0,26,.sl nl 3 ((l.take i).map aa) none),(8,64,27,.sl ((l.take i).map aa).isEmpty 3 ((l.take i).map aa) (some 27)),(16,0,28,.agg [.x (.string s),.x (.int .i64 c),.x (.int .i64 r)]),(32,0,29,.sl false 3 [.agg [.x (.string s),.x (.int .i64 c),.x (.int .i64 r)]] none),(64,1024,30,.sl false 3 ((l.take i++[(s,c,r)]).map aa) (some 30)),(128,0,31,.sl nl 3 (l.map aa) none),(256,0,32,.x (.int .i64 (i:Int))),(512,0,33,.sl nl 3 ((l.drop i).map aa) none),(1024,2048,34,.sl false 3 (((l.take i++[(s,c,r)])++l.drop i).map aa) (some 34)),(2048,0,4,.sl false 3 (((l.take i++[(s,c,r)])++l.drop i).map aa) (some 34))] [(3,[.x (.string s),.x (.int .i64 c),.x (.int .i64 r)])] [(0,0,1),(0,1,2),(0,4,16),(0,7,128),(0,8,256),(1,1,3),(1,4,17),(1,7,129),(1,8,257),(2,0,3),(2,4,18),(2,7,130),(2,8,258),(16,0,17),(16,1,18),(16,5,48),(16,7,144),(16,8,272),(128,0,129),(128,1,130),(128,4,144),(128,8,384),(256,0,257),(256,1,258),(256,4,272),(256,7,384),(3,2,7),(3,4,19),(3,7,131),(3,8,259),(17,1,19),(17,5,49),(17,7,145),(17,8,273),(129,1,131),(129,4,145),(129,8,385),(257,1,259),(257,4,273),(257,7,385),(18,0,19),(18,5,50),(18,7,146),(18,8,274),(130,0,131),(130,4,146),(130,8,386),(258,0,259),(258,4,274),(258,7,386),(48,0,49),(48,1,50),(48,7,176),(48,8,304),(144,0,145),(144,1,146),(144,5,176),(144,8,400),(272,0,273),(272,1,274),(272,5,304),(272,7,400),(384,0,385),(384,1,386),(384,4,400),(384,9,896),(7,3,15),(7,4,23),(7,7,135),(7,8,263),(19,2,23),(19,5,51),(19,7,147),(19,8,275),(131,2,135),(131,4,147),(131,8,387),(259,2,263),(259,4,275),(259,7,387),(49,1,51),(49,7,177),(49,8,305),(145,1,147),(145,5,177),(145,8,401),(273,1,275),(273,5,305),(273,7,401),(385,1,387),(385,4,401),(385,9,897),(50,0,51),(50,7,178),(50,8,306),(146,0,147),(146,5,178),(146,8,402),(274,0,275),(274,5,306),(274,7,402),(386,0,387),(386,4,402),(386,9,898),(176,0,177),(176,1,178),(176,8,432),(304,0,305),(304,1,306),(304,7,432),(400,0,401),(400,1,402),(400,5,432),(400,9,912),(896,0,897),(896,1,898),(896,4,912),(15,4,31),(15,7,143),(15,8,271),(23,3,31),(23,5,55),(23,7,151),(23,8,279),(135,3,143),(135,4,151),(135,8,391),(263,3,271),(263,4,279),(263,7,391),(51,2,55),(51,7,179),(51,8,307),(147,2,151),(147,5,179),(147,8,403),(275,2,279),(275,5,307),(275,7,403),(387,2,391),(387,4,403),(387,9,899),(177,1,179),(177,8,433),(305,1,307),(305,7,433),(401,1,403),(401,5,433),(401,9,913),(897,1,899),(897,4,913),(178,0,179),(178,8,434),(306,0,307),(306,7,434),(402,0,403),(402,5,434),(402,9,914),(898,0,899),(898,4,914),(432,0,433),(432,1,434),(432,9,944),(912,0,913),(912,1,914),(912,5,944),(31,5,63),(31,7,159),(31,8,287),(143,4,159),(143,8,399),(271,4,287),(271,7,399),(55,3,63),(55,7,183),(55,8,311),(151,3,159),(151,5,183),(151,8,407),(279,3,287),(279,5,311),(279,7,407),(391,3,399),(391,4,407),(391,9,903),(179,2,183),(179,8,435),(307,2,311),(307,7,435),(403,2,407),(403,5,435),(403,9,915),(899,2,903),(899,4,915),(433,1,435),(433,9,945),(913,1,915),(913,5,945),(434,0,435),(434,9,946),(914,0,915),(914,5,946),(944,0,945),(944,1,946),(63,6,127),(63,7,191),(63,8,319),(159,5,191),(159,8,415),(287,5,319),(287,7,415),(399,4,415),(399,9,911),(183,3,191),(183,8,439),(311,3,319),(311,7,439),(407,3,415),(407,5,439),(407,9,919),(903,3,911),(903,4,919),(435,2,439),(435,9,947),(915,2,919),(915,5,947),(945,1,947),(946,0,947),(127,7,255),(127,8,383),(191,6,255),(191,8,447),(319,6,383),(319,7,447),(415,5,447),(415,9,927),(911,4,927),(439,3,447),(439,9,951),(919,3,927),(919,5,951),(947,2,951),(255,8,511),(383,7,511),(447,6,511),(447,9,959),(927,5,959),(951,3,959),(511,9,1023),(959,6,1023),(1023,10,2047),(2047,11,4095)] 4095 (by kernel_rfl) (by kernel_rfl) ?_ ?_ ?_
       . simp +decide (maxDischargeDepth:=200) only[go_sem]
       . simp +decide (maxDischargeDepth:=200) only[go_sem,mD,mE,g1,g2,g3,i0,i1]
       . simp +decide (maxDischargeDepth:=200) only[go_sem,Nat.reduceBEq]
   . simp +decide (maxDischargeDepth:=200) only[go_sem,Nat.reduceBEq,hh];refine Bz 0 3 (es:=l.map aa) (n0:=sz) (k0:=none) rfl (by rw[hl0];rfl) ?_;refine aI (X:={i:Nat//i<=l.length∧∀(j:Nat) (p:C3),j<i->l[j]?=some p->ac p (s,c,r)=true}) (fun i=>[(0,.sl true 3 (l.map aa) none),(3,.ptr 3 0),(4,.sl true 0 [] none),(5,.x (.int .i64 i.1))]) (fun _=>[(3,[.x (.string s),.x (.int .i64 c),.x (.int .i64 r)])]) (fun i=>l.length-i.1) ⟨0,by omega,fun j k hj=>by omega⟩ (by simp +decide (maxDischargeDepth:=200) only[go_sem];rfl) (by simp +decide (maxDischargeDepth:=200) only[go_sem]) (fun⟨i,hi,hz⟩=>?_);by_cases hil:i<l.length
     . obtain⟨⟨s1,c1,r1⟩,hb⟩:=nK hil;have d0:decide ((i:Int)<(l.length:Int))=true:=iO (by omega);have k2:(0:Int)<=(i:Int):=by omega
       have k4:=aF (i:=i) (by omega);have k5:=ca hb;cases hq:dG s1 c1 r1 s c r
       . obtain⟨e1,e2⟩:=gI (fun q=>ac q (s,c,r)) l i hi hz (fun q hq'=>by rw[hb] at hq';cases hq';exact hq);have ef:aG l (s,c,r)=(l.take i++[(s,c,r)])++l.drop i:=by rw[e,e1,e2];simp
         rw[ef];simp +decide (maxDischargeDepth:=200) only[go_sem,Nat.reduceBEq,hsz,d0,k2,k4,k5,bg,bd,hq];have g1:∀(st:St),bi (aP [(23,bY),(57,bd)] (fun _=>false) [] (fun _=>false) (fun i=>i==6)) st (some 27) 24 (.sl true 0 [] none) (.sl true 3 ((l.take i).map aa) none)=_:=fun st=>ju (E:=aP [(23,bY),(57,bd)] (fun _=>false) [] (fun _=>false) (fun i=>i==6)) rfl (b:=l.take i) (by rw[Vj];omega) st 27 0 3 true none (.inl rfl)
         have g2:∀(st:St) (tok:Nat),bi (aP [(23,bY),(57,bd)] (fun _=>false) [] (fun _=>false) (fun i=>i==6)) st (some 30) 24 (.sl ((l.take i).map aa).isEmpty 3 ((l.take i).map aa) (some tok)) (.sl false 3 [.agg [.x (.string s),.x (.int .i64 c),.x (.int .i64 r)]] none)=_:=fun st tok=>jv (E:=aP [(23,bY),(57,bd)] (fun _=>false) [] (fun _=>false) (fun i=>i==6)) rfl (a:=l.take i) (by rw[Vj];omega) s c r st 30 tok false none
         have g3:∀(st:St) (tok:Nat),bi (aP [(23,bY),(57,bd)] (fun _=>false) [] (fun _=>false) (fun i=>i==6)) st (some 34) 24 (.sl false 3 ((l.take i++[(s,c,r)]).map aa) (some tok)) (.sl true 3 ((l.drop i).map aa) none)=_:=fun st tok=>kV (E:=aP [(23,bY),(57,bd)] (fun _=>false) [] (fun _=>false) (fun i=>i==6)) rfl (a:=l.take i++[(s,c,r)]) (b:=l.drop i) (by simp only[U4,Vj,Wh,U3,VB];omega) st 34 tok 3 true none (.inl rfl)
         have i0:(0:Int)<=(i:Int):=by omega
         have i1:(i:Int)<=(((l.map aa).length:Nat):Int):=by rw[eq];omega
         refine iV [(0,0,0,.sl true 3 (l.map aa) none),(0,0,3,.ptr 3 0),(0,2048,4,.sl true 0 [] none),(0,0,5,.x (.int .i64 (i:Int))),(1,0,24,.sl true 3 (l.map aa) none),(2,0,25,.x (.int .i64 (i:Int))),(4,0,26,.sl true 3 ((l.take i).map aa) none),(8,64,27,.sl ((l.take i).map aa).isEmpty 3 ((l.take i).map aa) (some 27)),(16,0,28,.agg [.x (.string s),.x (.int .i64 c),.x (.int .i64 r)]),(32,0,29,.sl false 3 [.agg [.x (.string s),.x (.int .i64 c),.x (.int .i64 r)]] none),(64,1024,30,.sl false 3 ((l.take i++[(s,c,r)]).map aa) (some 30)),(128,0,31,.sl true 3 (l.map aa) none),(256,0,32,.x (.int .i64 (i:Int))),(512,0,33,.sl true 3 ((l.drop i).map aa) none),(1024,2048,34,.sl false 3 (((l.take i++[(s,c,r)])++l.drop i).map aa) (some 34)),(2048,0,4,.sl false 3 (((l.take i++[(s,c,r)])++l.drop i).map aa) (some 34))] [(3,[.x (.string s),.x (.int .i64 c),.x (.int .i64 r)])] [(0,0,1),(0,1,2),(0,4,16),(0,7,128),(0,8,256),(1,1,3),(1,4,17),(1,7,129),(1,8,257),(2,0,3),(2,4,18),(2,7,130),(2,8,258),(16,0,17),(16,1,18),(16,5,48),(16,7,144),(16,8,272),(128,0,129),(128,1,130),(128,4,144),(128,8,384),(256,0,257),(256,1,258),(256,4,272),(256,7,384),(3,2,7),(3,4,19),(3,7,131),(3,8,259),(17,1,19),(17,5,49),(17,7,145),(17,8,273),(129,1,131),(129,4,145),(129,8,385),(257,1,259),(257,4,273),(257,7,385),(18,0,19),(18,5,50),(18,7,146),(18,8,274),(130,0,131),(130,4,146),(130,8,386),(258,0,259),(258,4,274),(258,7,386),(48,0,49),(48,1,50),(48,7,176),(48,8,304),(144,0,145),(144,1,146),(144,5,176),(144,8,400),(272,0,273),(272,1,274),(272,5,304),(272,7,400),(384,0,385),(384,1,386),(384,4,400),(384,9,896),(7,3,15),(7,4,23),(7,7,135),(7,8,263),(19,2,23),(19,5,51),(19,7,147),(19,8,275),(131,2,135),(131,4,147),(131,8,387),(259,2,263),(259,4,275),(259,7,387),(49,1,51),(49,7,177),(49,8,305),(145,1,147),(145,5,177),(145,8,401),(273,1,275),(273,5,305),(273,7,401),(385,1,387),(385,4,401),(385,9,897),(50,0,51),(50,7,178),(50,8,306),(146,0,147),(146,5,178),(146,8,402),(274,0,275),(274,5,306),(274,7,402),(386,0,387),(386,4,402),(386,9,898),(176,0,177),(176,1,178),(176,8,432),(304,0,305),(304,1,306),(304,7,432),(400,0,401),(400,1,402),(400,5,432),(400,9,912),(896,0,897),(896,1,898),(896,4,912),(15,4,31),(15,7,143),(15,8,271),(23,3,31),(23,5,55),(23,7,151),(23,8,279),(135,3,143),(135,4,151),(135,8,391),(263,3,271),(263,4,279),(263,7,391),(51,2,55),(51,7,179),(51,8,307),(147,2,151),(147,5,179),(147,8,403),(275,2,279),(275,5,307),(275,7,403),(387,2,391),(387,4,403),(387,9,899),(177,1,179),(177,8,433),(305,1,307),(305,7,433),(401,1,403),(401,5,433),(401,9,913),(897,1,899),(897,4,913),(178,0,179),(178,8,434),(306,0,307),(306,7,434),(402,0,403),(402,5,434),(402,9,914),(898,0,899),(898,4,914),(432,0,433),(432,1,434),(432,9,944),(912,0,913),(912,1,914),(912,5,944),(31,5,63),(31,7,159),(31,8,287),(143,4,159),(143,8,399),(271,4,287),(271,7,399),(55,3,63),(55,7,183),(55,8,311),(151,3,159),(151,5,183),(151,8,407),(279,3,287),(279,5,311),(279,7,407),(391,3,399),(391,4,407),(391,9,903),(179,2,183),(179,8,435),(307,2,311),(307,7,435),(403,2,407),(403,5,435),(403,9,915),(899,2,903),(899,4,915),(433,1,435),(433,9,945),(913,1,915),(913,5,945),(434,0,435),(434,9,946),(914,0,915),(914,5,946),(944,0,945),(944,1,946),(63,6,127),(63,7,191),(63,8,319),(159,5,191),(159,8,415),(287,5,319),(287,7,415),(399,4,415),(399,9,911),(183,3,191),(183,8,439),(311,3,319),(311,7,439),(407,3,415),(407,5,439),(407,9,919),(903,3,911),(903,4,919),(435,2,439),(435,9,947),(915,2,919),(915,5,947),(945,1,947),(946,0,947),(127,7,255),(127,8,383),(191,6,255),(191,8,447),(319,6,383),(319,7,447),(415,5,447),(415,9,927),(911,4,927),(439,3,447),(439,9,951),(919,3,927),(919,5,951),(947,2,951),(255,8,511),(383,7,511),(447,6,511),(447,9,959),(927,5,959),(951,3,959),(511,9,1023),(959,6,1023),(1023,10,2047),(2047,11,4095)] 4095 (by kernel_rfl) (by kernel_rfl) ?_ ?_ ?_
         . simp +decide (maxDischargeDepth:=200) only[go_sem]
         . simp +decide (maxDischargeDepth:=200) only[go_sem,mD,mE,g1,g2,g3,i0,i1]
         . simp +decide (maxDischargeDepth:=200) only[go_sem,Nat.reduceBEq]
       . simp +decide (maxDischargeDepth:=200) only[go_sem,Nat.reduceBEq,hsz,d0,k2,k4,k5,bg,bd,hq];refine⟨⟨i+1,by omega,fun j p hj hp=>?_⟩,?_,?_,by simp only;omega⟩
         . by_cases hji:j=i
           . subst hji;rw[hb] at hp;cases hp;exact hq
           . exact hz j p (by omega) hp
         . simp +decide (maxDischargeDepth:=200) only[go_sem]
         . simp +decide (maxDischargeDepth:=200) only[go_sem]
     . have d0:decide ((i:Int)<(l.length:Int))=false:=tl (by omega);obtain⟨e1,e2⟩:=gI (fun q=>ac q (s,c,r)) l i hi hz (fun q hq'=>by rw[Vx (by omega)] at hq';cases hq');have ef:aG l (s,c,r)=(l.take i++[(s,c,r)])++l.drop i:=by rw[e,e1,e2];simp
       rw[ef];simp +decide (maxDischargeDepth:=200) only[go_sem,Nat.reduceBEq,hsz,d0];have g1:∀(st:St),bi (aP [(23,bY),(57,bd)] (fun _=>false) [] (fun _=>false) (fun i=>i==6)) st (some 27) 24 (.sl true 0 [] none) (.sl true 3 ((l.take i).map aa) none)=_:=fun st=>ju (E:=aP [(23,bY),(57,bd)] (fun _=>false) [] (fun _=>false) (fun i=>i==6)) rfl (b:=l.take i) (by rw[Vj];omega) st 27 0 3 true none (.inl rfl)
       have g2:∀(st:St) (tok:Nat),bi (aP [(23,bY),(57,bd)] (fun _=>false) [] (fun _=>false) (fun i=>i==6)) st (some 30) 24 (.sl ((l.take i).map aa).isEmpty 3 ((l.take i).map aa) (some tok)) (.sl false 3 [.agg [.x (.string s),.x (.int .i64 c),.x (.int .i64 r)]] none)=_:=fun st tok=>jv (E:=aP [(23,bY),(57,bd)] (fun _=>false) [] (fun _=>false) (fun i=>i==6)) rfl (a:=l.take i) (by rw[Vj];omega) s c r st 30 tok false none
       have g3:∀(st:St) (tok:Nat),bi (aP [(23,bY),(57,bd)] (fun _=>false) [] (fun _=>false) (fun i=>i==6)) st (some 34) 24 (.sl false 3 ((l.take i++[(s,c,r)]).map aa) (some tok)) (.sl true 3 ((l.drop i).map aa) none)=_:=fun st tok=>kV (E:=aP [(23,bY),(57,bd)] (fun _=>false) [] (fun _=>false) (fun i=>i==6)) rfl (a:=l.take i++[(s,c,r)]) (b:=l.drop i) (by simp only[U4,Vj,Wh,U3,VB];omega) st 34 tok 3 true none (.inl rfl)
       have i0:(0:Int)<=(i:Int):=by omega
       have i1:(i:Int)<=(((l.map aa).length:Nat):Int):=by rw[eq];omega
       refine iV [(0,0,0,.sl true 3 (l.map aa) none),(0,0,3,.ptr 3 0),(0,2048,4,.sl true 0 [] none),(0,0,5,.x (.int .i64 (i:Int))),(1,0,24,.sl true 3 (l.map aa) none),(2,0,25,.x (.int .i64 (i:Int))),(4,0,26,.sl true 3 ((l.take i).map aa) none),(8,64,27,.sl ((l.take i).map aa).isEmpty 3 ((l.take i).map aa) (some 27)),(16,0,28,.agg [.x (.string s),.x (.int .i64 c),.x (.int .i64 r)]),(32,0,29,.sl false 3 [.agg [.x (.string s),.x (.int .i64 c),.x (.int .i64 r)]] none),(64,1024,30,.sl false 3 ((l.take i++[(s,c,r)]).map aa) (some 30)),(128,0,31,.sl true 3 (l.map aa) none),(256,0,32,.x (.int .i64 (i:Int))),(512,0,33,.sl true 3 ((l.drop i).map aa) none),(1024,2048,34,.sl false 3 (((l.take i++[(s,c,r)])++l.drop i).map aa) (some 34)),(2048,0,4,.sl false 3 (((l.take i++[(s,c,r)])++l.drop i).map aa) (some 34))] [(3,[.x (.string s),.x (.int .i64 c),.x (.int .i64 r)])] [(0,0,1),(0,1,2),(0,4,16),(0,7,128),(0,8,256),(1,1,3),(1,4,17),(1,7,129),(1,8,257),(2,0,3),(2,4,18),(2,7,130),(2,8,258),(16,0,17),(16,1,18),(16,5,48),(16,7,144),(16,8,272),(128,0,129),(128,1,130),(128,4,144),(128,8,384),(256,0,257),(256,1,258),(256,4,272),(256,7,384),(3,2,7),(3,4,19),(3,7,131),(3,8,259),(17,1,19),(17,5,49),(17,7,145),(17,8,273),(129,1,131),(129,4,145),(129,8,385),(257,1,259),(257,4,273),(257,7,385),(18,0,19),(18,5,50),(18,7,146),(18,8,274),(130,0,131),(130,4,146),(130,8,386),(258,0,259),(258,4,274),(258,7,386),(48,0,49),(48,1,50),(48,7,176),(48,8,304),(144,0,145),(144,1,146),(144,5,176),(144,8,400),(272,0,273),(272,1,274),(272,5,304),(272,7,400),(384,0,385),(384,1,386),(384,4,400),(384,9,896),(7,3,15),(7,4,23),(7,7,135),(7,8,263),(19,2,23),(19,5,51),(19,7,147),(19,8,275),(131,2,135),(131,4,147),(131,8,387),(259,2,263),(259,4,275),(259,7,387),(49,1,51),(49,7,177),(49,8,305),(145,1,147),(145,5,177),(145,8,401),(273,1,275),(273,5,305),(273,7,401),(385,1,387),(385,4,401),(385,9,897),(50,0,51),(50,7,178),(50,8,306),(146,0,147),(146,5,178),(146,8,402),(274,0,275),(274,5,306),(274,7,402),(386,0,387),(386,4,402),(386,9,898),(176,0,177),(176,1,178),(176,8,432),(304,0,305),(304,1,306),(304,7,432),(400,0,401),(400,1,402),(400,5,432),(400,9,912),(896,0,897),(896,1,898),(896,4,912),(15,4,31),(15,7,143),(15,8,271),(23,3,31),(23,5,55),(23,7,151),(23,8,279),(135,3,143),(135,4,151),(135,8,391),(263,3,271),(263,4,279),(263,7,391),(51,2,55),(51,7,179),(51,8,307),(147,2,151),(147,5,179),(147,8,403),(275,2,279),(275,5,307),(275,7,403),(387,2,391),(387,4,403),(387,9,899),(177,1,179),(177,8,433),(305,1,307),(305,7,433),(401,1,403),(401,5,433),(401,9,913),(897,1,899),(897,4,913),(178,0,179),(178,8,434),(306,0,307),(306,7,434),(402,0,403),(402,5,434),(402,9,914),(898,0,899),(898,4,914),(432,0,433),(432,1,434),(432,9,944),(912,0,913),(912,1,914),(912,5,944),(31,5,63),(31,7,159),(31,8,287),(143,4,159),(143,8,399),(271,4,287),(271,7,399),(55,3,63),(55,7,183),(55,8,311),(151,3,159),(151,5,183),(151,8,407),(279,3,287),(279,5,311),(279,7,407),(391,3,399),(391,4,407),(391,9,903),(179,2,183),(179,8,435),(307,2,311),(307,7,435),(403,2,407),(403,5,435),(403,9,915),(899,2,903),(899,4,915),(433,1,435),(433,9,945),(913,1,915),(913,5,945),(434,0,435),(434,9,946),(914,0,915),(914,5,946),(944,0,945),(944,1,946),(63,6,127),(63,7,191),(63,8,319),(159,5,191),(159,8,415),(287,5,319),(287,7,415),(399,4,415),(399,9,911),(183,3,191),(183,8,439),(311,3,319),(311,7,439),(407,3,415),(407,5,439),(407,9,919),(903,3,911),(903,4,919),(435,2,439),(435,9,947),(915,2,919),(915,5,947),(945,1,947),(946,0,947),(127,7,255),(127,8,383),(191,6,255),(191,8,447),(319,6,383),(319,7,447),(415,5,447),(415,9,927),(911,4,927),(439,3,447),(439,9,951),(919,3,927),(919,5,951),(947,2,951),(255,8,511),(383,7,511),(447,6,511),(447,9,959),(927,5,959),(951,3,959),(511,9,1023),(959,6,1023),(1023,10,2047),(2047,11,4095)] 4095 (by kernel_rfl) (by kernel_rfl) ?_ ?_ ?_
       . simp +decide (maxDischargeDepth:=200) only[go_sem]
       . simp +decide (maxDischargeDepth:=200) only[go_sem,mD,mE,g1,g2,g3,i0,i1]
       . simp +decide (maxDischargeDepth:=200) only[go_sem,Nat.reduceBEq]
theorem BC:bM 11 iU:=by
 refine av (E:=au []) (k:=2) (aM _ trivial) (by kernel_rfl) Tryz.func11 rfl (fun a w=>Tryz.call11 a w) Tryz.ntmps11 (by kernel_rfl) (by decide) (by decide) ?_;intro us r hF hdat;unfold iU at hF;split at hF
 case h_2=>cases hF
 rename_i nl sz es nl' sz' es';split at hF
 case h_2=>cases hF
 rename_i l l' hl hl';split at hF
 case isFalse=>cases hF
 rename_i hle;obtain⟨hle,hz1,hz2⟩:=hle;cases hF;refine⟨rfl,?_⟩;obtain rfl:=fL hl;obtain rfl:=fL hl';clear hl hl';have hsz:(((l.map aa).length:Nat):Int)=(l.length:Int):=by rw[eq]
 have hsz':(((l'.map aa).length:Nat):Int)=(l'.length:Int):=by rw[eq]
 by_cases hlen:l.length=l'.length
 . have d1:decide ((l.length:Int)=(l'.length:Int))=true:=iO (by omega);simp +decide (maxDischargeDepth:=200) only[go_sem,hsz,hsz',d1];refine aI (X:={i:Nat//i<=l.length∧∀(j:Nat),j<i->l[j]?=l'[j]?}) (fun i=>[(0,.sl nl sz (l.map aa) none),(1,.sl nl' sz' (l'.map aa) none),(4,.x (.bool false)),(5,.x (.int .i64 i.1))]) (fun _=>[]) (fun i=>l.length-i.1) ⟨0,by omega,fun j hj=>by omega⟩ (by simp +decide only[go_sem];rfl) trivial (fun⟨i,hi,hz⟩=>?_);by_cases hil:i<l.length
   . obtain⟨⟨s1,c1,r1⟩,hb⟩:=nK hil;obtain⟨⟨s2,c2,r2⟩,hb'⟩:=nK (l:=l') (i:=i) (by omega);obtain rfl:=hz1.resolve_left (fun e=>by rw[e] at hil;simp at hil);obtain rfl:=hz2.resolve_left (fun e=>by rw[e] at hb';simp at hb');have d0:decide ((i:Int)<(l.length:Int))=true:=iO (by omega);have k2:(0:Int)<=(i:Int):=by omega
     have k4:=aF (i:=i) (by omega);have k5:=ca hb;have k6:=ca hb';cases hq:dD (s1,c1,r1) (s2,c2,r2)
     . have e:decide (l=l')=false:=tl (fun hh=>by rw[hh,hb'] at hb;cases hb;simp[dD] at hq)
       simp +decide (maxDischargeDepth:=200) only[go_sem,hsz,hsz',d0,k2,k4,k5,k6,bg,HV,hq,e]
     . simp +decide (maxDischargeDepth:=200) only[go_sem,hsz,hsz',d0,k2,k4,k5,k6,bg,HV,hq];refine⟨⟨i+1,by omega,fun j hj=>?_⟩,?_,trivial,by simp only;omega⟩
       . by_cases hji:j=i
         . subst hji;rw[hb,hb',Vw hq]
         . exact hz j (by omega)
       . simp +decide only[go_sem]
   . have d0:decide ((i:Int)<(l.length:Int))=false:=tl (by omega);have e:decide (l=l')=true:=iO (Wb (fun j=>by
      rcases VX j i with hj|hj
      . exact hz j hj
      . rw[Vx (by omega),Vx (by omega)]))
     simp +decide (maxDischargeDepth:=200) only[go_sem,hsz,hsz',d0,e]
 . have d1:decide ((l.length:Int)=(l'.length:Int))=false:=tl (by omega);have e:decide (l=l')=false:=tl (fun hh=>hlen (by rw[hh]));simp +decide (maxDischargeDepth:=200) only[go_sem,hsz,hsz',d1,e]
def jw (l:List C3):Nat:=if l.isEmpty then 0 else 3
def fN (h:Hd):List C3:=(da h.cs h.cc h.cr h.ts h.tc h.tr).getD []
def dH (h:Hd):List C3:=bif decide (h.k=2)&&bE h.cs h.cc h.cr then aG [] (h.cs,h.cc,h.cr) else bif decide (h.k=3) then (fN h).foldl aG [] else []
mutual
def aw:Nd->List C3
 | .leaf h=>dH h
 | .mk h l=>aQ (dH h) l
def aQ:List C3->List Nd->List C3
 |acc,[]=>acc
 |acc,n::l=>aQ ((aw n).foldl aG acc) l
end
theorem BD (a:Nd):aw a=aQ (dH a.hd) a.ks:=by cases a<;>simp only[aw,aQ,Nd.hd,Nd.ks]
theorem eS (acc:List C3) (l:List Nd) (n:Nd):aQ acc (l++[n])=(aw n).foldl aG (aQ acc l):=by
 induction l generalizing acc with
 |nil=>rfl
 |cons x l ih=>simp only[VN,aQ,ih]
theorem pD (l:List C3) (p:C3):(aG l p).length<=l.length+1:=by
 unfold aG;split
 . omega
 . have:(l.takeWhile (fun q=>ac q p)).length+(l.dropWhile (fun q=>ac q p)).length=l.length:=by rw[<-U4,V2]
   simp only[U4,U3];omega
theorem ej (c:List C3):∀acc:List C3,(c.foldl aG acc).length<=acc.length+c.length:=by
 induction c with
 |nil=>intro acc;simp
 |cons p c ih=>intro acc;have:=ih (aG acc p);have:=pD acc p;simp only[Wc,U3];omega
theorem pE (h:Hd):(fN h).length<=400:=by
 unfold fN da;split
 . rename_i hh;obtain⟨hok,h4⟩:=hh;obtain⟨_,_,_,hc,hr⟩:=ij.1 hok;rw[V8,cR];have e1:h.tc-h.cc+1=(((h.tc-h.cc+1).toNat:Nat):Int):=by omega
   have e2:h.tr-h.cr+1=(((h.tr-h.cr+1).toNat:Nat):Int):=by omega
   unfold b9 at h4;rw[e1,e2] at h4;have:(((h.tr-h.cr+1).toNat*(h.tc-h.cc+1).toNat:Nat):Int)<=400:=by push_cast;rw[Int.mul_comm];exact h4
   omega
 . simp
theorem nY (h:Hd):(dH h).length<=400:=by
 unfold dH;cases decide (h.k=2)&&bE h.cs h.cc h.cr with
 |true=>have:=pD [] (h.cs,h.cc,h.cr);simp only[Ya];simp at this;omega
 | false=>
   cases decide (h.k=3) with
   |true=>have:=ej (fN h) [];have:=pE h;simp only[Ya,XK];simp at*;omega
   |false=>simp
mutual
theorem eC:∀a:Nd,(aw a).length<=400*jF a
 | .leaf h=>by have:=nY h;simp only[aw,jF];omega
 | .mk h l=>by have:=ki (dH h) l;have:=nY h;simp only[aw,jF];omega
theorem ki:∀(acc:List C3) (l:List Nd),(aQ acc l).length<=acc.length+400*cntL l
 |acc,[]=>by simp[aQ]
 |acc,n::l=>by have:=ki ((aw n).foldl aG acc) l;have:=ej (aw n) acc;have:=eC n;simp only[aQ,cntL];omega
end
theorem fO (L:List C3) (p:C3) (h:L.length<=900000):jN [.sl (L).isEmpty (jw (L)) ((L).map aa) none,.agg [.x (.string p.1),.x (.int .i64 p.2.1),.x (.int .i64 p.2.2)]]=some (.sl (aG L p).isEmpty (jw (aG L p)) ((aG L p).map aa) none):=by
 obtain⟨s,c,r⟩:=p;unfold jN;simp only[eR];rw[Va ⟨h,by cases L with|nil=>exact .inr ⟨rfl,rfl⟩|cons q L=>exact .inl rfl⟩];by_cases hin:gZ L (s,c,r)=true
 . have e:aG L (s,c,r)=L:=Va hin;rw[Va hin,e]
 . have e:aG L (s,c,r)=L.takeWhile (fun q=>ac q (s,c,r))++(s,c,r)::L.dropWhile (fun q=>ac q (s,c,r)):=Vh hin;have e2:(aG L (s,c,r)).isEmpty=false:=by rw[e];cases L.takeWhile (fun q=>ac q (s,c,r))<;>rfl
   rw[Vh hin];simp only[jw,e2,VF,Vc]
theorem wY (l:List Nd) (i:Nat):cntL (l.take i)<=cntL l:=by
 have key:∀(a b:List Nd),cntL (a++b)=cntL a+cntL b:=by
  intro a b
  induction a with
  |nil=>simp[cntL]
  |cons x a ih=>simp only[VN,cntL,ih,Xn]
 have:=key (l.take i) (l.drop i);rw[W2] at this;omega
def ek (nd:Nd):Option V:=if jF nd<=400 then some (.sl (aw nd).isEmpty (jw (aw nd)) ((aw nd).map aa) none) else none
theorem lC {nd:Nd} (h:jF nd<=400):ek nd=some (.sl (aw nd).isEmpty (jw (aw nd)) ((aw nd).map aa) none):=Va h
variable {p:C3}
theorem nZ (h:l[i]?=some p):jw l=3:=by
 cases l with
 |nil=>simp at h
 |cons q l=>rfl
theorem fC {c:List C3} (h:c[i]?=some p) (acc:List C3):(c.take (i+1)).foldl aG acc=aG ((c.take i).foldl aG acc) p:=by
 have:c.take (i+1)=c.take i++[p]:=by rw[List.take_add_one,h];rfl
 rw[this,Xl];rfl
theorem BE : bM 30 (FE c9 ek):=by
 refine yS jF (fun a w=>Tryz.call30 a w) (fun n ih=>?_);refine av (E:=au [(30,(FE c9 fun a=>if jF a<n then ek a else none)),(36,jN),(59,db),(58,bU)]) (k:=1) (aM _ ⟨ih,tE,wS,nF,trivial⟩) (by kernel_rfl) Tryz.func30 rfl (fun a w=>Tryz.call30 a w) Tryz.ntmps30 (by kernel_rfl) (by decide) (by decide) ?_;intro us r hF hdat;obtain⟨nd,hus,hG⟩:=aZ hF;clear hF;subst hus;obtain⟨hlt,hF⟩:=bv hG;clear hG;unfold ek at hF;obtain⟨h400,hF⟩:=bv hF;cases hF;clear hdat;simp only[c9];obtain⟨k,op,nm,vk,vn,vs,cs,cc,cr,ts,tc,tr,l,nl,sz,hh,hl,hf,hs⟩:=bS nd;have hrec:∀(i:Nat) (c:Nd),l[i]?=some c->(FE c9 fun a=>if jF a<n then ek a else none) [am c]=some (.sl (aw c).isEmpty (jw (aw c)) ((aw c).map aa) none)∧(aw c).length<=160000:=fun i c hc=>by have h1:=HK (nd:=nd) (c:=c) (i:=i) (by rw[hl];exact hc);have:=eC c;exact⟨(bC iT _ c).trans ((Va (by omega)).trans (lC (by omega))),by omega⟩
 have hlen:l.length<400:=by have:=Es nd;rw[hl] at this;omega
 have hcl:cntL l<=400:=by have:=iS nd;rw[hl] at this;omega
 have hbl:=nY nd.hd;have hrl:∀i,(aQ (dH nd.hd) (l.take i)).length<=170000:=fun i=>by have:=ki (dH nd.hd) (l.take i);have:=wY l i;omega
 rw[hf,BD,hl];refine⟨rfl,?_⟩;rw[hh] at hbl hrl⊢;by_cases h2:k=2
 . subst h2;cases hr:bE cs cc cr
   . have eb:dH ⟨2,op,nm,vk,vn,vs,cs,cc,cr,ts,tc,tr⟩=[]:=by simp[dH,hr]
     rw[eb] at hrl⊢;simp +decide (maxDischargeDepth:=200) only[go_sem,bU,hr];refine aI (X:={i:Nat//i<=l.length}) (fun i=>[(1,.ptr 1 0),(2,.sl true 0 [] none),(3,.sl (aQ ([]) (l.take i.1)).isEmpty (jw (aQ ([]) (l.take i.1))) ((aQ ([]) (l.take i.1)).map aa) none),(6,.x (.int .i64 ((i.1:Nat):Int)))]) (fun _=>[(1,[.x (.int .i64 2),.x (.string op),.x (.string nm),.x (.int .i64 vk),.x (.int .i64 vn),.x (.string vs),.x (.string cs),.x (.int .i64 cc),.x (.int .i64 cr),.x (.string ts),.x (.int .i64 tc),.x (.int .i64 tr),.sl nl sz (l.map am) none])]) (fun i=>l.length-i.1) ⟨0,by omega⟩ (by simp +decide only[go_sem,VW,aQ]<;>(repeat' first|rfl|constructor)) (by simp +decide only[go_sem]<;>(repeat' first|rfl|constructor)) (fun⟨i,hi0⟩=>?_);by_cases hi:i<l.length
     . obtain⟨c,hc1,hc2⟩:=kd hi;obtain rfl:=jq hs hi;obtain⟨hcc,hcl2⟩:=hrec i c hc1;obtain⟨k',op',nm',vk',vn',vs',cs',cc',cr',ts',tc',tr',l',nl',sz',hh',hl',hf',hs'⟩:=bS c;rw[hf'] at hc2 hcc;have c1:decide ((i:Int)<(l.length:Int))=true:=iO (by omega);have c2:(0:Int)<=(i:Int):=by omega
       have c4:=aF (i:=i) (by omega);have ht:=aS hc1;have e:aQ ([]) (l.take (i+1))=(aw c).foldl aG (aQ ([]) (l.take i)):=by rw[ht,eS]
       have hal:=hrl i;generalize aQ ([]) (l.take i)=acc at hal e;generalize aw c=q at hcl2 hcc e;simp +decide (maxDischargeDepth:=200) only[go_sem,eq,c1,c2,c4,hc2,hcc];refine aI (X:={j:Nat//j<=q.length}) (fun j=>[(1,.ptr 1 0),(2,.sl true 0 [] none),(3,.sl ((q.take j.1).foldl aG acc).isEmpty (jw ((q.take j.1).foldl aG acc)) (((q.take j.1).foldl aG acc).map aa) none),(6,.x (.int .i64 ((i:Nat):Int))),(7,.sl (q).isEmpty (jw (q)) ((q).map aa) none),(8,.x (.int .i64 ((j.1:Nat):Int)))]) (fun _=>[(1,[.x (.int .i64 2),.x (.string op),.x (.string nm),.x (.int .i64 vk),.x (.int .i64 vn),.x (.string vs),.x (.string cs),.x (.int .i64 cc),.x (.int .i64 cr),.x (.string ts),.x (.int .i64 tc),.x (.int .i64 tr),.sl nl 13 (l.map am) none])]) (fun j=>q.length-j.1) ⟨0,by omega⟩ (by simp +decide only[go_sem,VW,Xq]<;>(repeat' first|rfl|constructor)) (by simp +decide only[go_sem]<;>(repeat' first|rfl|constructor)) (fun⟨j,hj0⟩=>?_);by_cases hj:j<q.length
       . obtain⟨p,hp⟩:=nK hj;have d1:decide ((j:Int)<(q.length:Int))=true:=iO (by omega);have d2:(0:Int)<=(j:Int):=by omega
         have d4:=aF (i:=j) (by omega);have d5:=ca hp;have d6:=nZ hp;have hfl:=ej (q.take j) acc;have d7:=fO ((q.take j).foldl aG acc) p (by rw[Vj] at hfl;omega);have d8:=fC hp acc;simp +decide (maxDischargeDepth:=200) only[go_sem,eq,d1,d2,d4,d5,d6,d7,bg];refine⟨⟨j+1,by omega⟩,?_,?_,?_⟩
         . simp +decide (maxDischargeDepth:=200) only[go_sem,d8,d6]
         . simp +decide (maxDischargeDepth:=200) only[go_sem]
         . simp only;omega
       . have d1:decide ((j:Int)<(q.length:Int))=false:=tl (by omega);have d9:q.take j=q:=Vp (by omega);simp +decide (maxDischargeDepth:=200) only[go_sem,eq,d1,d9,c4];refine⟨⟨i+1,by omega⟩,?_,?_,?_⟩
         . simp +decide (maxDischargeDepth:=200) only[go_sem,e]
         . simp +decide (maxDischargeDepth:=200) only[go_sem]
         . simp only;omega
     . have c1:decide ((i:Int)<(l.length:Int))=false:=tl (by omega);have e:l.take i=l:=Vp (by omega);simp +decide (maxDischargeDepth:=200) only[go_sem,eq,c1,e]
   . have eb:dH ⟨2,op,nm,vk,vn,vs,cs,cc,cr,ts,tc,tr⟩=aG [] (cs,cc,cr):=by simp[dH,hr]
     have q0:jN [.sl true 0 [] none,.agg [.x (.string cs),.x (.int .i64 cc),.x (.int .i64 cr)]]=some (.sl (aG [] (cs,cc,cr)).isEmpty (jw (aG [] (cs,cc,cr))) ((aG [] (cs,cc,cr)).map aa) none):=fO [] (cs,cc,cr) (by simp);rw[eb] at hrl⊢;generalize aG [] (cs,cc,cr)=base at hrl q0⊢;simp +decide (maxDischargeDepth:=200) only[go_sem,bU,hr,q0];refine aI (X:={i:Nat//i<=l.length}) (fun i=>[(1,.ptr 1 0),(2,.sl true 0 [] none),(3,.sl (aQ (base) (l.take i.1)).isEmpty (jw (aQ (base) (l.take i.1))) ((aQ (base) (l.take i.1)).map aa) none),(6,.x (.int .i64 ((i.1:Nat):Int)))]) (fun _=>[(1,[.x (.int .i64 2),.x (.string op),.x (.string nm),.x (.int .i64 vk),.x (.int .i64 vn),.x (.string vs),.x (.string cs),.x (.int .i64 cc),.x (.int .i64 cr),.x (.string ts),.x (.int .i64 tc),.x (.int .i64 tr),.sl nl sz (l.map am) none])]) (fun i=>l.length-i.1) ⟨0,by omega⟩ (by simp +decide only[go_sem,VW,aQ]<;>(repeat' first|rfl|constructor)) (by simp +decide only[go_sem]<;>(repeat' first|rfl|constructor)) (fun⟨i,hi0⟩=>?_);by_cases hi:i<l.length
     . obtain⟨c,hc1,hc2⟩:=kd hi;obtain rfl:=jq hs hi;obtain⟨hcc,hcl2⟩:=hrec i c hc1;obtain⟨k',op',nm',vk',vn',vs',cs',cc',cr',ts',tc',tr',l',nl',sz',hh',hl',hf',hs'⟩:=bS c;rw[hf'] at hc2 hcc;have c1:decide ((i:Int)<(l.length:Int))=true:=iO (by omega);have c2:(0:Int)<=(i:Int):=by omega
       have c4:=aF (i:=i) (by omega);have ht:=aS hc1;have e:aQ (base) (l.take (i+1))=(aw c).foldl aG (aQ (base) (l.take i)):=by rw[ht,eS]
       have hal:=hrl i;generalize aQ (base) (l.take i)=acc at hal e;generalize aw c=q at hcl2 hcc e;simp +decide (maxDischargeDepth:=200) only[go_sem,eq,c1,c2,c4,hc2,hcc];refine aI (X:={j:Nat//j<=q.length}) (fun j=>[(1,.ptr 1 0),(2,.sl true 0 [] none),(3,.sl ((q.take j.1).foldl aG acc).isEmpty (jw ((q.take j.1).foldl aG acc)) (((q.take j.1).foldl aG acc).map aa) none),(6,.x (.int .i64 ((i:Nat):Int))),(7,.sl (q).isEmpty (jw (q)) ((q).map aa) none),(8,.x (.int .i64 ((j.1:Nat):Int)))]) (fun _=>[(1,[.x (.int .i64 2),.x (.string op),.x (.string nm),.x (.int .i64 vk),.x (.int .i64 vn),.x (.string vs),.x (.string cs),.x (.int .i64 cc),.x (.int .i64 cr),.x (.string ts),.x (.int .i64 tc),.x (.int .i64 tr),.sl nl 13 (l.map am) none])]) (fun j=>q.length-j.1) ⟨0,by omega⟩ (by simp +decide only[go_sem,VW,Xq]<;>(repeat' first|rfl|constructor)) (by simp +decide only[go_sem]<;>(repeat' first|rfl|constructor)) (fun⟨j,hj0⟩=>?_);by_cases hj:j<q.length
       . obtain⟨p,hp⟩:=nK hj;have d1:decide ((j:Int)<(q.length:Int))=true:=iO (by omega);have d2:(0:Int)<=(j:Int):=by omega
         have d4:=aF (i:=j) (by omega);have d5:=ca hp;have d6:=nZ hp;have hfl:=ej (q.take j) acc;have d7:=fO ((q.take j).foldl aG acc) p (by rw[Vj] at hfl;omega);have d8:=fC hp acc;simp +decide (maxDischargeDepth:=200) only[go_sem,eq,d1,d2,d4,d5,d6,d7,bg];refine⟨⟨j+1,by omega⟩,?_,?_,?_⟩
         . simp +decide (maxDischargeDepth:=200) only[go_sem,d8,d6]
         . simp +decide (maxDischargeDepth:=200) only[go_sem]
         . simp only;omega
       . have d1:decide ((j:Int)<(q.length:Int))=false:=tl (by omega);have d9:q.take j=q:=Vp (by omega);simp +decide (maxDischargeDepth:=200) only[go_sem,eq,d1,d9,c4];refine⟨⟨i+1,by omega⟩,?_,?_,?_⟩
         . simp +decide (maxDischargeDepth:=200) only[go_sem,e]
         . simp +decide (maxDischargeDepth:=200) only[go_sem]
         . simp only;omega
     . have c1:decide ((i:Int)<(l.length:Int))=false:=tl (by omega);have e:l.take i=l:=Vp (by omega);simp +decide (maxDischargeDepth:=200) only[go_sem,eq,c1,e]
 . have k2 : decide (k=2)=false:=tl h2;by_cases h3:k=3
   . subst h3;have eb:dH ⟨3,op,nm,vk,vn,vs,cs,cc,cr,ts,tc,tr⟩=(fN ⟨3,op,nm,vk,vn,vs,cs,cc,cr,ts,tc,tr⟩).foldl aG []:=by simp[dH]
     have hrg:=pE ⟨3,op,nm,vk,vn,vs,cs,cc,cr,ts,tc,tr⟩;have hrg2:=ej (fN ⟨3,op,nm,vk,vn,vs,cs,cc,cr,ts,tc,tr⟩) [];cases hA:da cs cc cr ts tc tr with
     | none=>
       have er:fN ⟨3,op,nm,vk,vn,vs,cs,cc,cr,ts,tc,tr⟩=[]:=by unfold fN;rw[hA];rfl
       rw[er] at eb;have eb:dH ⟨3,op,nm,vk,vn,vs,cs,cc,cr,ts,tc,tr⟩=[]:=eb;have hC:db [.agg [.x (.string cs),.x (.int .i64 cc),.x (.int .i64 cr),.x (.string ts),.x (.int .i64 tc),.x (.int .i64 tr)]]=some (.sl true 0 [] none):=by unfold db;simp only[hA]
       rw[eb] at hrl⊢;simp +decide (maxDischargeDepth:=200) only[go_sem,hC];refine aI (X:=Unit) (fun _=>[(1,.ptr 1 0),(2,.sl true 0 [] none),(3,.sl true 0 [] none),(4,.sl true 0 [] none),(5,.x (.int .i64 0))]) (fun _=>[(1,[.x (.int .i64 3),.x (.string op),.x (.string nm),.x (.int .i64 vk),.x (.int .i64 vn),.x (.string vs),.x (.string cs),.x (.int .i64 cc),.x (.int .i64 cr),.x (.string ts),.x (.int .i64 tc),.x (.int .i64 tr),.sl nl sz (l.map am) none])]) (fun _=>0) () (by simp +decide only[go_sem]<;>(repeat' first|rfl|constructor)) (by simp +decide only[go_sem]<;>(repeat' first|rfl|constructor)) (fun _=>?_);simp +decide (maxDischargeDepth:=200) only[go_sem];refine aI (X:={i:Nat//i<=l.length}) (fun i=>[(1,.ptr 1 0),(2,.sl true 0 [] none),(3,.sl (aQ ([]) (l.take i.1)).isEmpty (jw (aQ ([]) (l.take i.1))) ((aQ ([]) (l.take i.1)).map aa) none),(6,.x (.int .i64 ((i.1:Nat):Int)))]) (fun _=>[(1,[.x (.int .i64 3),.x (.string op),.x (.string nm),.x (.int .i64 vk),.x (.int .i64 vn),.x (.string vs),.x (.string cs),.x (.int .i64 cc),.x (.int .i64 cr),.x (.string ts),.x (.int .i64 tc),.x (.int .i64 tr),.sl nl sz (l.map am) none])]) (fun i=>l.length-i.1) ⟨0,by omega⟩ (by simp +decide only[go_sem,VW,aQ]<;>(repeat' first|rfl|constructor)) (by simp +decide only[go_sem]<;>(repeat' first|rfl|constructor)) (fun⟨i,hi0⟩=>?_);by_cases hi:i<l.length
       . obtain⟨c,hc1,hc2⟩:=kd hi;obtain rfl:=jq hs hi;obtain⟨hcc,hcl2⟩:=hrec i c hc1;obtain⟨k',op',nm',vk',vn',vs',cs',cc',cr',ts',tc',tr',l',nl',sz',hh',hl',hf',hs'⟩:=bS c;rw[hf'] at hc2 hcc;have c1:decide ((i:Int)<(l.length:Int))=true:=iO (by omega);have c2:(0:Int)<=(i:Int):=by omega
         have c4:=aF (i:=i) (by omega);have ht:=aS hc1;have e:aQ ([]) (l.take (i+1))=(aw c).foldl aG (aQ ([]) (l.take i)):=by rw[ht,eS]
         have hal:=hrl i;generalize aQ ([]) (l.take i)=acc at hal e;generalize aw c=q at hcl2 hcc e;simp +decide (maxDischargeDepth:=200) only[go_sem,eq,c1,c2,c4,hc2,hcc];refine aI (X:={j:Nat//j<=q.length}) (fun j=>[(1,.ptr 1 0),(2,.sl true 0 [] none),(3,.sl ((q.take j.1).foldl aG acc).isEmpty (jw ((q.take j.1).foldl aG acc)) (((q.take j.1).foldl aG acc).map aa) none),(6,.x (.int .i64 ((i:Nat):Int))),(7,.sl (q).isEmpty (jw (q)) ((q).map aa) none),(8,.x (.int .i64 ((j.1:Nat):Int)))]) (fun _=>[(1,[.x (.int .i64 3),.x (.string op),.x (.string nm),.x (.int .i64 vk),.x (.int .i64 vn),.x (.string vs),.x (.string cs),.x (.int .i64 cc),.x (.int .i64 cr),.x (.string ts),.x (.int .i64 tc),.x (.int .i64 tr),.sl nl 13 (l.map am) none])]) (fun j=>q.length-j.1) ⟨0,by omega⟩ (by simp +decide only[go_sem,VW,Xq]<;>(repeat' first|rfl|constructor)) (by simp +decide only[go_sem]<;>(repeat' first|rfl|constructor)) (fun⟨j,hj0⟩=>?_);by_cases hj:j<q.length
         . obtain⟨p,hp⟩:=nK hj;have d1:decide ((j:Int)<(q.length:Int))=true:=iO (by omega);have d2:(0:Int)<=(j:Int):=by omega
           have d4:=aF (i:=j) (by omega);have d5:=ca hp;have d6:=nZ hp;have hfl:=ej (q.take j) acc;have d7:=fO ((q.take j).foldl aG acc) p (by rw[Vj] at hfl;omega);have d8:=fC hp acc;simp +decide (maxDischargeDepth:=200) only[go_sem,eq,d1,d2,d4,d5,d6,d7,bg];refine⟨⟨j+1,by omega⟩,?_,?_,?_⟩
           . simp +decide (maxDischargeDepth:=200) only[go_sem,d8,d6]
           . simp +decide (maxDischargeDepth:=200) only[go_sem]
           . simp only;omega
         . have d1:decide ((j:Int)<(q.length:Int))=false:=tl (by omega);have d9:q.take j=q:=Vp (by omega);simp +decide (maxDischargeDepth:=200) only[go_sem,eq,d1,d9,c4];refine⟨⟨i+1,by omega⟩,?_,?_,?_⟩
           . simp +decide (maxDischargeDepth:=200) only[go_sem,e]
           . simp +decide (maxDischargeDepth:=200) only[go_sem]
           . simp only;omega
       . have c1:decide ((i:Int)<(l.length:Int))=false:=tl (by omega);have e:l.take i=l:=Vp (by omega);simp +decide (maxDischargeDepth:=200) only[go_sem,eq,c1,e]
     | some q0=>
       have er:fN ⟨3,op,nm,vk,vn,vs,cs,cc,cr,ts,tc,tr⟩=q0:=by unfold fN;rw[hA];rfl
       rw[er] at eb hrg hrg2;have hC:db [.agg [.x (.string cs),.x (.int .i64 cc),.x (.int .i64 cr),.x (.string ts),.x (.int .i64 tc),.x (.int .i64 tr)]]=some (.sl false 3 (q0.map aa) none):=by unfold db;simp only[hA]
       rw[eb] at hrl⊢;simp +decide (maxDischargeDepth:=200) only[go_sem,hC];refine aI (X:={j:Nat//j<=q0.length}) (fun j=>[(1,.ptr 1 0),(2,.sl true 0 [] none),(3,.sl ((q0.take j.1).foldl aG []).isEmpty (jw ((q0.take j.1).foldl aG [])) (((q0.take j.1).foldl aG []).map aa) none),(4,.sl false 3 (q0.map aa) none),(5,.x (.int .i64 ((j.1:Nat):Int)))]) (fun _=>[(1,[.x (.int .i64 3),.x (.string op),.x (.string nm),.x (.int .i64 vk),.x (.int .i64 vn),.x (.string vs),.x (.string cs),.x (.int .i64 cc),.x (.int .i64 cr),.x (.string ts),.x (.int .i64 tc),.x (.int .i64 tr),.sl nl sz (l.map am) none])]) (fun j=>q0.length-j.1) ⟨0,by omega⟩ (by simp +decide only[go_sem,VW,Xq]<;>(repeat' first|rfl|constructor)) (by simp +decide only[go_sem]<;>(repeat' first|rfl|constructor)) (fun⟨j,hj0⟩=>?_);by_cases hj:j<q0.length
       . obtain⟨p,hp⟩:=nK hj;have d1:decide ((j:Int)<(q0.length:Int))=true:=iO (by omega);have d2:(0:Int)<=(j:Int):=by omega
         have d4:=aF (i:=j) (by omega);have d5:=ca hp;have hfl:=ej (q0.take j) [];have d7:=fO ((q0.take j).foldl aG []) p (by rw[Vj] at hfl;simp only[VB] at hfl;omega);have d8:=fC hp [];simp +decide (maxDischargeDepth:=200) only[go_sem,eq,d1,d2,d4,d5,d7,bg];refine⟨⟨j+1,by omega⟩,?_,?_,?_⟩
         . simp +decide (maxDischargeDepth:=200) only[go_sem,d8]
         . simp +decide (maxDischargeDepth:=200) only[go_sem]
         . simp only;omega
       . have d1:decide ((j:Int)<(q0.length:Int))=false:=tl (by omega);have d9:q0.take j=q0:=Vp (by omega);simp +decide (maxDischargeDepth:=200) only[go_sem,eq,d1,d9];generalize q0.foldl aG []=base at hrl hrg2⊢;refine aI (X:={i:Nat//i<=l.length}) (fun i=>[(1,.ptr 1 0),(2,.sl true 0 [] none),(3,.sl (aQ (base) (l.take i.1)).isEmpty (jw (aQ (base) (l.take i.1))) ((aQ (base) (l.take i.1)).map aa) none),(6,.x (.int .i64 ((i.1:Nat):Int)))]) (fun _=>[(1,[.x (.int .i64 3),.x (.string op),.x (.string nm),.x (.int .i64 vk),.x (.int .i64 vn),.x (.string vs),.x (.string cs),.x (.int .i64 cc),.x (.int .i64 cr),.x (.string ts),.x (.int .i64 tc),.x (.int .i64 tr),.sl nl sz (l.map am) none])]) (fun i=>l.length-i.1) ⟨0,by omega⟩ (by simp +decide only[go_sem,VW,aQ]<;>(repeat' first|rfl|constructor)) (by simp +decide only[go_sem]<;>(repeat' first|rfl|constructor)) (fun⟨i,hi0⟩=>?_);by_cases hi:i<l.length
         . obtain⟨c,hc1,hc2⟩:=kd hi;obtain rfl:=jq hs hi;obtain⟨hcc,hcl2⟩:=hrec i c hc1;obtain⟨k',op',nm',vk',vn',vs',cs',cc',cr',ts',tc',tr',l',nl',sz',hh',hl',hf',hs'⟩:=bS c;rw[hf'] at hc2 hcc;have c1:decide ((i:Int)<(l.length:Int))=true:=iO (by omega);have c2:(0:Int)<=(i:Int):=by omega
           have c4:=aF (i:=i) (by omega);have ht:=aS hc1;have e:aQ (base) (l.take (i+1))=(aw c).foldl aG (aQ (base) (l.take i)):=by rw[ht,eS]
           have hal:=hrl i;generalize aQ (base) (l.take i)=acc at hal e;generalize aw c=q at hcl2 hcc e;simp +decide (maxDischargeDepth:=200) only[go_sem,eq,c1,c2,c4,hc2,hcc];refine aI (X:={j:Nat//j<=q.length}) (fun j=>[(1,.ptr 1 0),(2,.sl true 0 [] none),(3,.sl ((q.take j.1).foldl aG acc).isEmpty (jw ((q.take j.1).foldl aG acc)) (((q.take j.1).foldl aG acc).map aa) none),(6,.x (.int .i64 ((i:Nat):Int))),(7,.sl (q).isEmpty (jw (q)) ((q).map aa) none),(8,.x (.int .i64 ((j.1:Nat):Int)))]) (fun _=>[(1,[.x (.int .i64 3),.x (.string op),.x (.string nm),.x (.int .i64 vk),.x (.int .i64 vn),.x (.string vs),.x (.string cs),.x (.int .i64 cc),.x (.int .i64 cr),.x (.string ts),.x (.int .i64 tc),.x (.int .i64 tr),.sl nl 13 (l.map am) none])]) (fun j=>q.length-j.1) ⟨0,by omega⟩ (by simp +decide only[go_sem,VW,Xq]<;>(repeat' first|rfl|constructor)) (by simp +decide only[go_sem]<;>(repeat' first|rfl|constructor)) (fun⟨j,hj0⟩=>?_);by_cases hj:j<q.length
           . obtain⟨p,hp⟩:=nK hj;have d1:decide ((j:Int)<(q.length:Int))=true:=iO (by omega);have d2:(0:Int)<=(j:Int):=by omega
             have d4:=aF (i:=j) (by omega);have d5:=ca hp;have d6:=nZ hp;have hfl:=ej (q.take j) acc;have d7:=fO ((q.take j).foldl aG acc) p (by rw[Vj] at hfl;omega);have d8:=fC hp acc;simp +decide (maxDischargeDepth:=200) only[go_sem,eq,d1,d2,d4,d5,d6,d7,bg];refine⟨⟨j+1,by omega⟩,?_,?_,?_⟩
             . simp +decide (maxDischargeDepth:=200) only[go_sem,d8,d6]
             . simp +decide (maxDischargeDepth:=200) only[go_sem]
             . simp only;omega
           . have d1:decide ((j:Int)<(q.length:Int))=false:=tl (by omega);have d9:q.take j=q:=Vp (by omega);simp +decide (maxDischargeDepth:=200) only[go_sem,eq,d1,d9,c4];refine⟨⟨i+1,by omega⟩,?_,?_,?_⟩
             . simp +decide (maxDischargeDepth:=200) only[go_sem,e]
             . simp +decide (maxDischargeDepth:=200) only[go_sem]
             . simp only;omega
         . have c1:decide ((i:Int)<(l.length:Int))=false:=tl (by omega);have e:l.take i=l:=Vp (by omega);simp +decide (maxDischargeDepth:=200) only[go_sem,eq,c1,e]
   . have k3:decide (k=3)=false:=tl h3;have eb:dH ⟨k,op,nm,vk,vn,vs,cs,cc,cr,ts,tc,tr⟩=[]:=by simp[dH,h2,h3]
     rw[eb] at hrl⊢;simp +decide (maxDischargeDepth:=200) only[go_sem,k2,k3];refine aI (X:={i:Nat//i<=l.length}) (fun i=>[(1,.ptr 1 0),(2,.sl true 0 [] none),(3,.sl (aQ ([]) (l.take i.1)).isEmpty (jw (aQ ([]) (l.take i.1))) ((aQ ([]) (l.take i.1)).map aa) none),(6,.x (.int .i64 ((i.1:Nat):Int)))]) (fun _=>[(1,[.x (.int .i64 k),.x (.string op),.x (.string nm),.x (.int .i64 vk),.x (.int .i64 vn),.x (.string vs),.x (.string cs),.x (.int .i64 cc),.x (.int .i64 cr),.x (.string ts),.x (.int .i64 tc),.x (.int .i64 tr),.sl nl sz (l.map am) none])]) (fun i=>l.length-i.1) ⟨0,by omega⟩ (by simp +decide only[go_sem,VW,aQ]<;>(repeat' first|rfl|constructor)) (by simp +decide only[go_sem]<;>(repeat' first|rfl|constructor)) (fun⟨i,hi0⟩=>?_);by_cases hi:i<l.length
     . obtain⟨c,hc1,hc2⟩:=kd hi;obtain rfl:=jq hs hi;obtain⟨hcc,hcl2⟩:=hrec i c hc1;obtain⟨k',op',nm',vk',vn',vs',cs',cc',cr',ts',tc',tr',l',nl',sz',hh',hl',hf',hs'⟩:=bS c;rw[hf'] at hc2 hcc;have c1:decide ((i:Int)<(l.length:Int))=true:=iO (by omega);have c2:(0:Int)<=(i:Int):=by omega
       have c4:=aF (i:=i) (by omega);have ht:=aS hc1;have e:aQ ([]) (l.take (i+1))=(aw c).foldl aG (aQ ([]) (l.take i)):=by rw[ht,eS]
       have hal:=hrl i;generalize aQ ([]) (l.take i)=acc at hal e;generalize aw c=q at hcl2 hcc e;simp +decide (maxDischargeDepth:=200) only[go_sem,eq,c1,c2,c4,hc2,hcc];refine aI (X:={j:Nat//j<=q.length}) (fun j=>[(1,.ptr 1 0),(2,.sl true 0 [] none),(3,.sl ((q.take j.1).foldl aG acc).isEmpty (jw ((q.take j.1).foldl aG acc)) (((q.take j.1).foldl aG acc).map aa) none),(6,.x (.int .i64 ((i:Nat):Int))),(7,.sl (q).isEmpty (jw (q)) ((q).map aa) none),(8,.x (.int .i64 ((j.1:Nat):Int)))]) (fun _=>[(1,[.x (.int .i64 k),.x (.string op),.x (.string nm),.x (.int .i64 vk),.x (.int .i64 vn),.x (.string vs),.x (.string cs),.x (.int .i64 cc),.x (.int .i64 cr),.x (.string ts),.x (.int .i64 tc),.x (.int .i64 tr),.sl nl 13 (l.map am) none])]) (fun j=>q.length-j.1) ⟨0,by omega⟩ (by simp +decide only[go_sem,VW,Xq]<;>(repeat' first|rfl|constructor)) (by simp +decide only[go_sem]<;>(repeat' first|rfl|constructor)) (fun⟨j,hj0⟩=>?_);by_cases hj:j<q.length
       . obtain⟨p,hp⟩:=nK hj;have d1:decide ((j:Int)<(q.length:Int))=true:=iO (by omega);have d2:(0:Int)<=(j:Int):=by omega
         have d4:=aF (i:=j) (by omega);have d5:=ca hp;have d6:=nZ hp;have hfl:=ej (q.take j) acc;have d7:=fO ((q.take j).foldl aG acc) p (by rw[Vj] at hfl;omega);have d8:=fC hp acc;simp +decide (maxDischargeDepth:=200) only[go_sem,eq,d1,d2,d4,d5,d6,d7,bg];refine⟨⟨j+1,by omega⟩,?_,?_,?_⟩
         . simp +decide (maxDischargeDepth:=200) only[go_sem,d8,d6]
         . simp +decide (maxDischargeDepth:=200) only[go_sem]
         . simp only;omega
       . have d1:decide ((j:Int)<(q.length:Int))=false:=tl (by omega);have d9:q.take j=q:=Vp (by omega);simp +decide (maxDischargeDepth:=200) only[go_sem,eq,d1,d9,c4];refine⟨⟨i+1,by omega⟩,?_,?_,?_⟩
         . simp +decide (maxDischargeDepth:=200) only[go_sem,e]
         . simp +decide (maxDischargeDepth:=200) only[go_sem]
         . simp only;omega
     . have c1:decide ((i:Int)<(l.length:Int))=false:=tl (by omega);have e:l.take i=l:=Vp (by omega);simp +decide (maxDischargeDepth:=200) only[go_sem,eq,c1,e]
end Go.Proofs.YtalkmhjanlljhaaGreat
