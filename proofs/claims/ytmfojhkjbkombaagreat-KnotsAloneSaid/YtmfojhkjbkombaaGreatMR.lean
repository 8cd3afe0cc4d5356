/- The reference's rows of cells that are read. -/
import Derived.Test.YtmfojhkjbkombaaGreatML
import Derived.Test.YtmfojhkjbkombaaGreatMPO
import Derived.Test.YtmfojhkjbkombaaGreatMT
namespace Go.Proofs.YtmfojhkjbkombaaGreat
set_option linter.unusedSimpArgs false
set_option maxHeartbeats 8000000
set_option maxRecDepth 100000
open Go Go.RowKit
attribute [go_sem] Tryz.results13 Tryz.results28 Tryz.results30
variable {E:Env} {st:St}
theorem iU {ops:List Oper} {K:St->Prop} (ents:List (Nat×Nat×Nat×V)) (bs:List (Nat×List V)) (ps:List (Nat×Nat×Nat)) (full:Nat) (hf:2^ops.length-1=full) (h:iN ops ps=true) (h0:fu st (iQ ents 0)∧fR st bs) (ht:xF E ops ents bs ps)
 (hk:K (au (iQ ents full) bs)):ED E ops st K:=Ap ents bs ps h h0 ht (hf▸hk)
theorem CN (l:List (Nat×(List V->Option V))) (M:Nat->Bool) (lp:List (Nat×(List V->Option (V×List (List V))))) (any:Nat->Bool) (k:Nat) (b:Nat->Option (List V)):aB (aV l M lp (fun _=>false) any) k b=b:=rfl
attribute [go_sem] CN
theorem CO {a:Code} {K:Out->St->Prop} (i n:Nat) {es:List V} {n0:Nat} {k0:Option Nat} (h:st.t i= .sl true n0 es k0) (he:es=[])
 (hr:kg (run E a) ⟨upd st.t i (.sl true n es none),st.b⟩ K):kg (run E a) st K:=by
 subst he;obtain⟨X,I,μ,x0,h0,hx⟩:=hr;refine⟨X,I,μ,x0,⟨fun j=>?_,h0.b⟩,hx⟩;have:=h0.t j;simp only[aE] at this;split at this
 . rename_i e;subst e;rw[h];rcases this with e|e|⟨_,_,_,_,e1,e2⟩
   . exact .inl e
   . exact .inr (.inr ⟨_,_,_,_,e,rfl⟩)
   . exact .inr (.inr ⟨_,_,_,_,e1,rfl⟩)
 . exact this
def cb:List V->Option V
 | [.sl _ sz es none,.agg [.x (.string s),.x (.int .i64 c),.x (.int .i64 r)]]=>match cellsOf es with
   |some l=>if l.length<=1000000∧(sz=3∨l=[]) then some (.x (.bool (l.any fun p=>eI p (s,c,r)))) else none
   |none=>none
 |_=>none
variable {l:List C3}
theorem ub {nl:Bool} {sz:Nat} (s:ByteArray) (c r:Int) (h:l.length<=1000000) (hs:sz=3∨l=[]):cb [.sl nl sz (l.map aa) none,.agg [.x (.string s),.x (.int .i64 c),.x (.int .i64 r)]]=some (.x (.bool (l.any fun p=>eI p (s,c,r)))):=by unfold cb;simp only[iT];exact YG ⟨h,hs⟩
theorem uc:cM 13 cb:=by
 refine aT (E:=aV [] (fun _=>false) [] (fun _=>false) (fun _=>false)) (k:=2) (fQ _ _ _ _ _ trivial trivial) A0a Tryz.func13 rfl (fun a w=>Tryz.call13 a w) Tryz.ntmps13 A0a A0c A0c ?_;intro us r hF hdat;unfold cb at hF;split at hF
 case h_2=>cases hF
 rename_i nl sz es s c r;split at hF
 case h_2=>cases hF
 rename_i l hl;split at hF
 case isFalse=>cases hF
 rename_i hle;obtain⟨hle,hs3⟩:=hle;cases hF;refine⟨rfl,?_⟩;obtain rfl:=jO hl;clear hl;have hsz:(((l.map aa).length:Nat):Int)=(l.length:Int):=by rw[eq]
 simp +decide (maxDischargeDepth:=200) only[go_sem,Nat.reduceBEq];refine bc (X:={i:Nat//i<=l.length∧∀(j:Nat) (p:C3),j<i->l[j]?=some p->eI p (s,c,r)=false}) (fun i=>[(0,.sl nl sz (l.map aa) none),(3,.ptr 3 0),(4,.x (.bool false)),(5,.x (.int .i64 i.1))]) (fun _=>[(3,[.x (.string s),.x (.int .i64 c),.x (.int .i64 r)])]) (fun i=>l.length-i.1) ⟨0,A0b,fun j k hj=>by omega⟩ (by simp +decide only[go_sem];rfl) A06 (fun⟨i,hi,hz⟩=>?_);by_cases hil:i<l.length
 . obtain rfl:sz=3:=hs3.resolve_right (by rintro rfl;simp at hil);obtain⟨⟨s1,c1,r1⟩,hb⟩:=rk hil;have d0:decide ((i:Int)<(l.length:Int))=true:=Yz A0b;have k2:(0:Int)<=(i:Int):=A0b
   have k4:=aD (i:=i) A0b;have k5:=dB hb;cases hq:eI (s1,c1,r1) (s,c,r)
   . simp +decide (maxDischargeDepth:=200) only[go_sem,Nat.reduceBEq,hsz,d0,k2,k4,k5,bJ,Sr,hq];refine⟨⟨i+1,A0b,fun j p hj hp=>?_⟩,?_,?_,by simp only;omega⟩
     . by_cases hji:j=i
       . subst hji;rw[hb] at hp;cases hp;exact hq
       . exact hz j p A0b hp
     . simp +decide only[go_sem]
     . simp +decide only[go_sem]
   . have e:(l.any fun p=>eI p (s,c,r))=true:=Z2.2 ⟨_,YB hb,hq⟩;simp +decide (maxDischargeDepth:=200) only[go_sem,Nat.reduceBEq,hsz,d0,k2,k4,k5,bJ,Sr,hq,e]
 . have d0:decide ((i:Int)<(l.length:Int))=false:=YA A0b;have e:(l.any fun p=>eI p (s,c,r))=false:=by rw[List.any_eq_false];intro p hp;obtain⟨j,hj⟩:=ZW hp;simp[hz j p (by have:=(iO.1 hj).1;omega) hj]
   simp +decide (maxDischargeDepth:=200) only[go_sem,Nat.reduceBEq,hsz,d0,e]
def ae (p q:C3):Bool:=dJ p.1 p.2.1 p.2.2 q.1 q.2.1 q.2.2
def mo (l:List C3) (p:C3):Bool:=l.any fun q=>eI q p
def aQ (l:List C3) (p:C3):List C3:=if mo l p=true then l else l.takeWhile (fun q=>ae q p)++p::l.dropWhile (fun q=>ae q p)
theorem gy {α:Type} (f:α->Bool):∀(l:List α) (i:Nat),i<=l.length->(∀(j:Nat) (q:α),j<i->l[j]?=some q->f q=true)->(∀q,l[i]?=some q->f q=false)->l.takeWhile f=l.take i∧l.dropWhile f=l.drop i
 |[],i,_,_,_=>by simp
 |q::l,0,_,_,h=>by have:=h q rfl;simp[List.takeWhile,List.dropWhile,this]
 |q::l,i+1,hi,h1,h2=>by have hq:=h1 0 q A0b rfl;obtain⟨e1,e2⟩:=gy f l i A0k (fun j q hj hq=>h1 (j+1) q A0b A1e) (fun q hq=>h2 q A1e);simp[List.takeWhile,List.dropWhile,hq,e1,e2]
def pR:List V->Option V
 | [.sl nl sz es none,.agg [.x (.string s),.x (.int .i64 c),.x (.int .i64 r)]]=>match cellsOf es with
   |some l=>if l.length<=900000∧(sz=3∨nl=true∧l=[]) then some (if mo l (s,c,r)=true then .sl nl sz es none else .sl false 3 ((aQ l (s,c,r)).map aa) none) else none
   |none=>none
 |_=>none
theorem mq {i:Nat}:List.take ((i:Int).toNat-0) (l.map aa)=(l.take i).map aa:=by simp[List.map_take]
theorem mr {i:Nat}:List.take ((((l.map aa).length:Nat):Int).toNat-(i:Int).toNat) (List.drop (i:Int).toNat (l.map aa))=(l.drop i).map aa:=by rw[tl,tl,List.map_drop,YS A0j]
theorem kr (hP:E.P=Tryz.prog) {a b:List C3} (h:a.length+b.length<=1000000) (st:St) (d tok sz:Nat) (nl:Bool) (t':Option Nat) (hs:sz=3∨b.map aa=[]):
 bq E st (some d) 37 (.sl false 3 (a.map aa) (some tok)) (.sl nl sz (b.map aa) t')=some ⟨upd (strip tok (strip d st.t)) d (.sl false 3 ((a++b).map aa) (some d)),aB E tok (aB E d st.b)⟩:=by
 have e1:bm E.P 37=some 3:=by rw[hP];exact ns
 have e2:bT E.P 37=some 32:=by rw[hP];exact nt
 have e3:=nu;rw[<-hP] at e3;unfold bq;simp only[e1,e2,e3];rw[YG ⟨A0c,rfl,trivial,hs,(YK.2 fun u hu=>by obtain⟨p,_,rfl⟩:=YR.1 hu;rfl),by rw[eq,eq];omega,by rw[eq,eq];omega⟩,Y4]
theorem jc (hP:E.P=Tryz.prog) {b:List C3} (h:b.length<=1000000) (st:St) (d n sz:Nat) (nl:Bool) (t':Option Nat) (hs:sz=3∨b.map aa=[]):
 bq E st (some d) 37 (.sl true n [] none) (.sl nl sz (b.map aa) t')=some ⟨upd (strip d st.t) d (.sl (b.map aa).isEmpty 3 (b.map aa) (some d)),aB E d st.b⟩:=by
 have e1:bm E.P 37=some 3:=by rw[hP];exact ns
 have e2:bT E.P 37=some 32:=by rw[hP];exact nt
 have e3:=nu;rw[<-hP] at e3;unfold bq;simp only[e1,e2,e3];rw[YG ⟨A0c,rfl,hs,(YK.2 fun u hu=>by obtain⟨p,_,rfl⟩:=YR.1 hu;rfl),A0v,A0v⟩];rfl
theorem jd (hP:E.P=Tryz.prog) {a:List C3} (h:a.length<=1000000) (s:ByteArray) (c r:Int) (st:St) (d tok:Nat) (nl:Bool) (t':Option Nat):
 bq E st (some d) 37 (.sl (a.map aa).isEmpty 3 (a.map aa) (some tok)) (.sl nl 3 [.agg [.x (.string s),.x (.int .i64 c),.x (.int .i64 r)]] t')=some ⟨upd (strip tok (strip d st.t)) d (.sl false 3 ((a++[(s,c,r)]).map aa) (some d)),aB E tok (aB E d st.b)⟩:=by
 rw[Y4];exact cZ (E:=E) (n:=3) (by rw[hP];exact ns) (by rw[hP];exact nt) (by rw[hP];exact nu) A0c rfl rfl A0v A0v st d tok nl t'
theorem Gn :cM 30 pR:=by
 refine aT (E:=aV [(13,cb),(42,bh)] (fun _=>false) [] (fun _=>false) (fun i=>i==6)) (k:=2) (fQ _ _ _ _ _ ⟨uc,pP,trivial⟩ trivial) A0a Tryz.func30 rfl (fun a w=>Tryz.call30 a w) Tryz.ntmps30 A0a A0c A0c ?_;intro us r hF hdat;unfold pR at hF;split at hF
 case h_2=>cases hF
 rename_i nl sz es s c r;split at hF
 case h_2=>cases hF
 rename_i l hl;split at hF
 case isFalse=>cases hF
 rename_i hle;obtain⟨hle,hs3⟩:=hle;cases hF;refine⟨rfl,?_⟩;obtain rfl:=jO hl;clear hl;have hsz:(((l.map aa).length:Nat):Int)=(l.length:Int):=by rw[eq]
 have hh:=ub (nl:=nl) (sz:=sz) (l:=l) s c r A0b (hs3.imp id And.right);by_cases hin:mo l (s,c,r)=true
 . rw[YG hin];have hin':(l.any fun p=>eI p (s,c,r))=true:=hin;rw[hin'] at hh;simp +decide (maxDischargeDepth:=200) only[go_sem,Nat.reduceBEq,hh]
 . rw [YL hin];have e:aQ l (s,c,r)=l.takeWhile (fun q=>ae q (s,c,r))++(s,c,r)::l.dropWhile (fun q=>ae q (s,c,r)):=YL hin;have hin':(l.any fun p=>eI p (s,c,r))=false:=by revert hin;unfold mo;cases(l.any fun p=>eI p (s,c,r))<;>simp
   rw[hin'] at hh;rcases hs3 with rfl|⟨rfl,hl0⟩
   . simp +decide (maxDischargeDepth:=200) only[go_sem,Nat.reduceBEq,hh];refine bc (X:={i:Nat//i<=l.length∧∀(j:Nat) (p:C3),j<i->l[j]?=some p->ae p (s,c,r)=true}) (fun i=>[(0,.sl nl 3 (l.map aa) none),(3,.ptr 3 0),(4,.sl true 0 [] none),(5,.x (.int .i64 i.1))]) (fun _=>[(3,[.x (.string s),.x (.int .i64 c),.x (.int .i64 r)])]) (fun i=>l.length-i.1) ⟨0,A0b,fun j k hj=>by omega⟩ A05 A1b (fun⟨i,hi,hz⟩=>?_);by_cases hil:i<l.length
     . obtain⟨⟨s1,c1,r1⟩,hb⟩:=rk hil;have d0:decide ((i:Int)<(l.length:Int))=true:=Yz A0b;have k2:(0:Int)<=(i:Int):=A0b
       have k4:=aD (i:=i) A0b;have k5:=dB hb;cases hq:dJ s1 c1 r1 s c r
       . obtain⟨e1,e2⟩:=gy (fun q=>ae q (s,c,r)) l i hi hz (fun q hq'=>by rw[hb] at hq';cases hq';exact hq);have ef:aQ l (s,c,r)=(l.take i++[(s,c,r)])++l.drop i:=by rw[e,e1,e2];simp
         rw[ef];simp +decide (maxDischargeDepth:=200) only[go_sem,Nat.reduceBEq,hsz,d0,k2,k4,k5,bJ,bh,hq];have g1:∀(st:St),bq (aV [(13,cb),(42,bh)] (fun _=>false) [] (fun _=>false) (fun i=>i==6)) st (some 27) 37 (.sl true 0 [] none) (.sl nl 3 ((l.take i).map aa) none)=_:=fun st=>jc (E:=aV [(13,cb),(42,bh)] (fun _=>false) [] (fun _=>false) (fun i=>i==6)) rfl (b:=l.take i) A0A st 27 0 3 nl none (.inl rfl)
         have g2:∀(st:St) (tok:Nat),bq (aV [(13,cb),(42,bh)] (fun _=>false) [] (fun _=>false) (fun i=>i==6)) st (some 30) 37 (.sl ((l.take i).map aa).isEmpty 3 ((l.take i).map aa) (some tok)) (.sl false 3 [.agg [.x (.string s),.x (.int .i64 c),.x (.int .i64 r)]] none)=_:=fun st tok=>jd (E:=aV [(13,cb),(42,bh)] (fun _=>false) [] (fun _=>false) (fun i=>i==6)) rfl (a:=l.take i) A0A s c r st 30 tok false none
         have g3:∀(st:St) (tok:Nat),bq (aV [(13,cb),(42,bh)] (fun _=>false) [] (fun _=>false) (fun i=>i==6)) st (some 34) 37 (.sl false 3 ((l.take i++[(s,c,r)]).map aa) (some tok)) (.sl nl 3 ((l.drop i).map aa) none)=_:=fun st tok=>kr (E:=aV [(13,cb),(42,bh)] (fun _=>false) [] (fun _=>false) (fun i=>i==6)) rfl (a:=l.take i++[(s,c,r)]) (b:=l.drop i) A0C st 34 tok 3 nl none (.inl rfl)
         have i0:(0:Int)<=(i:Int):=A0b
         have i1:(i:Int)<=(((l.map aa).length:Nat):Int):=A0v
         refine iU [(0,0,0,.sl nl 3 (l.map aa) none),(0,0,3,.ptr 3 0),(0,2048,4,.sl true 0 [] none),(0,0,5,.x (.int .i64 (i:Int))),(1,0,24,.sl nl 3 (l.map aa) none),(2,0,25,.x (.int .i64 (i:Int))),(4,0,26,.sl nl 3 ((l.take i).map aa) none),(8,64,27,.sl ((l.take i).map aa).isEmpty 3 ((l.take i).map aa) (some 27)),(16,0,28,.agg [.x (.string s),.x (.int .i64 c),.x (.int .i64 r)]),(32,0,29,.sl false 3 [.agg [.x (.string s),.x (.int .i64 c),.x (.int .i64 r)]] none),(64,1024,30,.sl false 3 ((l.take i++[(s,c,r)]).map aa) (some 30)),(128,0,31,.sl nl 3 (l.map aa) none),(256,0,32,.x (.int .i64 (i:Int))),(512,0,33,.sl nl 3 ((l.drop i).map aa) none),(1024,2048,34,.sl false 3 (((l.take i++[(s,c,r)])++l.drop i).map aa) (some 34)),(2048,0,4,.sl false 3 (((l.take i++[(s,c,r)])++l.drop i).map aa) (some 34))] [(3,[.x (.string s),.x (.int .i64 c),.x (.int .i64 r)])] [(0,0,1),(0,1,2),(0,4,16),(0,7,128),(0,8,256),(1,1,3),(1,4,17),(1,7,129),(1,8,257),(2,0,3),(2,4,18),(2,7,130),(2,8,258),(16,0,17),(16,1,18),(16,5,48),(16,7,144),(16,8,272),(128,0,129),(128,1,130),(128,4,144),(128,8,384),(256,0,257),(256,1,258),(256,4,272),(256,7,384),(3,2,7),(3,4,19),(3,7,131),(3,8,259),(17,1,19),(17,5,49),(17,7,145),(17,8,273),(129,1,131),(129,4,145),(129,8,385),(257,1,259),(257,4,273),(257,7,385),(18,0,19),(18,5,50),(18,7,146),(18,8,274),(130,0,131),(130,4,146),(130,8,386),(258,0,259),(258,4,274),(258,7,386),(48,0,49),(48,1,50),(48,7,176),(48,8,304),(144,0,145),(144,1,146),(144,5,176),(144,8,400),(272,0,273),(272,1,274),(272,5,304),(272,7,400),(384,0,385),(384,1,386),(384,4,400),(384,9,896),(7,3,15),(7,4,23),(7,7,135),(7,8,263),(19,2,23),(19,5,51),(19,7,147),(19,8,275),(131,2,135),(131,4,147),(131,8,387),(259,2,263),(259,4,275),(259,7,387),(49,1,51),(49,7,177),(49,8,305),(145,1,147),(145,5,177),(145,8,401),(273,1,275),(273,5,305),(273,7,401),(385,1,387),(385,4,401),(385,9,897),(50,0,51),(50,7,178),(50,8,306),(146,0,147),(146,5,178),(146,8,402),(274,0,275),(274,5,306),(274,7,402),(386,0,387),(386,4,402),(386,9,898),(176,0,177),(176,1,178),(176,8,432),(304,0,305),(304,1,306),(304,7,432),(400,0,401),(400,1,402),(400,5,432),(400,9,912),(896,0,897),(896,1,898),(896,4,912),(15,4,31),(15,7,143),(15,8,271),(23,3,31),(23,5,55),(23,7,151),(23,8,279),(135,3,143),(135,4,151),(135,8,391),(263,3,271),(263,4,279),(263,7,391),(51,2,55),(51,7,179),(51,8,307),(147,2,151),(147,5,179),(147,8,403),(275,2,279),(275,5,307),(275,7,403),(387,2,391),(387,4,403),(387,9,899),(177,1,179),(177,8,433),(305,1,307),(305,7,433),(401,1,403),(401,5,433),(401,9,913),(897,1,899),(897,4,913),(178,0,179),(178,8,434),(306,0,307),(306,7,434),(402,0,403),(402,5,434),(402,9,914),(898,0,899),(898,4,914),(432,0,433),(432,1,434),(432,9,944),(912,0,913),(912,1,914),(912,5,944),(31,5,63),(31,7,159),(31,8,287),(143,4,159),(143,8,399),(271,4,287),(271,7,399),(55,3,63),(55,7,183),(55,8,311),(151,3,159),(151,5,183),(151,8,407),(279,3,287),(279,5,311),(279,7,407),(391,3,399),(391,4,407),(391,9,903),(179,2,183),(179,8,435),(307,2,311),(307,7,435),(403,2,407),(403,5,435),(403,9,915),(899,2,903),(899,4,915),(433,1,435),(433,9,945),(913,1,915),(913,5,945),(434,0,435),(434,9,946),(914,0,915),(914,5,946),(944,0,945),(944,1,946),(63,6,127),(63,7,191),(63,8,319),(159,5,191),(159,8,415),(287,5,319),(287,7,415),(399,4,415),(399,9,911),(183,3,191),(183,8,439),(311,3,319),(311,7,439),(407,3,415),(407,5,439),(407,9,919),(903,3,911),(903,4,919),(435,2,439),(435,9,947),(915,2,919),(915,5,947),(945,1,947),(946,0,947),(127,7,255),(127,8,383),(191,6,255),(191,8,447),(319,6,383),(319,7,447),(415,5,447),(415,9,927),(911,4,927),(439,3,447),(439,9,951),(919,3,927),(919,5,951),(947,2,951),(255,8,511),(383,7,511),(447,6,511),(447,9,959),(927,5,959),(951,3,959),(511,9,1023),(959,6,1023),(1023,10,2047),(2047,11,4095)] 4095 A0a A0a ?_ ?_ ?_
         . simp +decide (maxDischargeDepth:=200) only[go_sem]
         . simp +decide (maxDischargeDepth:=200) only[go_sem,mq,mr,g1,g2,g3,i0,i1]
         . simp +decide (maxDischargeDepth:=200) only[go_sem,Nat.reduceBEq]
       . simp +decide (maxDischargeDepth:=200) only[go_sem,Nat.reduceBEq,hsz,d0,k2,k4,k5,bJ,bh,hq];refine⟨⟨i+1,A0b,fun j p hj hp=>?_⟩,?_,?_,by simp only;omega⟩
         . by_cases hji:j=i
           . subst hji;rw[hb] at hp;cases hp;exact hq
           . exact hz j p A0b hp
         . simp +decide (maxDischargeDepth:=200) only[go_sem]
         . simp +decide (maxDischargeDepth:=200) only[go_sem]
     . have d0:decide ((i:Int)<(l.length:Int))=false:=YA A0b;obtain⟨e1,e2⟩:=gy (fun q=>ae q (s,c,r)) l i hi hz (fun q hq'=>by rw[Y1 A0b] at hq';cases hq');have ef:aQ l (s,c,r)=(l.take i++[(s,c,r)])++l.drop i:=by rw[e,e1,e2];simp
       rw[ef];simp +decide (maxDischargeDepth:=200) only[go_sem,Nat.reduceBEq,hsz,d0];have g1:∀(st:St),bq (aV [(13,cb),(42,bh)] (fun _=>false) [] (fun _=>false) (fun i=>i==6)) st (some 27) 37 (.sl true 0 [] none) (.sl nl 3 ((l.take i).map aa) none)=_:=fun st=>jc (E:=aV [(13,cb),(42,bh)] (fun _=>false) [] (fun _=>false) (fun i=>i==6)) rfl (b:=l.take i) A0A st 27 0 3 nl none (.inl rfl)
       have g2:∀(st:St) (tok:Nat),bq (aV [(13,cb),(42,bh)] (fun _=>false) [] (fun _=>false) (fun i=>i==6)) st (some 30) 37 (.sl ((l.take i).map aa).isEmpty 3 ((l.take i).map aa) (some tok)) (.sl false 3 [.agg [.x (.string s),.x (.int .i64 c),.x (.int .i64 r)]] none)=_:=fun st tok=>jd (E:=aV [(13,cb),(42,bh)] (fun _=>false) [] (fun _=>false) (fun i=>i==6)) rfl (a:=l.take i) A0A s c r st 30 tok false none
       have g3:∀(st:St) (tok:Nat),bq (aV [(13,cb),(42,bh)] (fun _=>false) [] (fun _=>false) (fun i=>i==6)) st (some 34) 37 (.sl false 3 ((l.take i++[(s,c,r)]).map aa) (some tok)) (.sl nl 3 ((l.drop i).map aa) none)=_:=fun st tok=>kr (E:=aV [(13,cb),(42,bh)] (fun _=>false) [] (fun _=>false) (fun i=>i==6)) rfl (a:=l.take i++[(s,c,r)]) (b:=l.drop i) A0C st 34 tok 3 nl none (.inl rfl)
       have i0:(0:Int)<=(i:Int):=A0b
       have i1:(i:Int)<=(((l.map aa).length:Nat):Int):=A0v
       refine iU [(0,0,0,.sl nl 3 (l.map aa) none),(0,0,3,.ptr 3 0),(0,2048,4,.sl true 0 [] none),(0,0,5,.x (.int .i64 (i:Int))),(1,0,24,.sl nl 3 (l.map aa) none),(2,0,25,.x (.int .i64 (i:Int))),(4,0,26,.sl nl 3 ((l.take i).map aa) none),(8,64,27,.sl ((l.take i).map aa).isEmpty 3 ((l.take i).map aa) (some 27)),(16,0,28,.agg [.x (.string s),.x (.int .i64 c),.x (.int .i64 r)]),(32,0,29,.sl false 3 [.agg [.x (.string s),.x (.int .i64 c),.x (.int .i64 r)]] none),(64,1024,30,.sl false 3 ((l.take i++[(s,c,r)]).map aa) (some 30)),(128,0,31,.sl nl 3 (l.map aa) none),(256,0,32,.x (.int .i64 (i:Int))),(512,0,33,.sl nl 3 ((l.drop i).map aa) none),(1024,2048,34,.sl false 3 (((l.take i++[(s,c,r)])++l.drop i).map aa) (some 34)),(2048,0,4,.sl false 3 (((l.take i++[(s,c,r)])++l.drop i).map aa) (some 34))] [(3,[.x (.string s),.x (.int .i64 c),.x (.int .i64 r)])] [(0,0,1),(0,1,2),(0,4,16),(0,7,128),(0,8,256),(1,1,3),(1,4,17),(1,7,129),(1,8,257),(2,0,3),(2,4,18),(2,7,130),(2,8,258),(16,0,17),(16,1,18),(16,5,48),(16,7,144),(16,8,272),(128,0,129),(128,1,130),(128,4,144),(128,8,384),(256,0,257),(256,1,258),(256,4,272),(256,7,384),(3,2,7),(3,4,19),(3,7,131),(3,8,259),(17,1,19),(17,5,49),(17,7,145),(17,8,273),(129,1,131),(129,4,145),(129,8,385),(257,1,259),(257,4,273),(257,7,385),(18,0,19),(18,5,50),(18,7,146),(18,8,274),(130,0,131),(130,4,146),(130,8,386),(258,0,259),(258,4,274),(258,7,386),(48,0,49),(48,1,50),(48,7,176),(48,8,304),(144,0,145),(144,1,146),(144,5,176),(144,8,400),(272,0,273),(272,1,274),(272,5,304),(272,7,400),(384,0,385),(384,1,386),(384,4,400),(384,9,896),(7,3,15),(7,4,23),(7,7,135),(7,8,263),(19,2,23),(19,5,51),(19,7,147),(19,8,275),(131,2,135),(131,4,147),(131,8,387),(259,2,263),(259,4,275),(259,7,387),(49,1,51),(49,7,177),(49,8,305),(145,1,147),(145,5,177),(145,8,401),(273,1,275),(273,5,305),(273,7,401),(385,1,387),(385,4,401),(385,9,897),(50,0,51),(50,7,178),(50,8,306),(146,0,147),(146,5,178),(146,8,402),(274,0,275),(274,5,306),(274,7,402),(386,0,387),(386,4,402),(386,9,898),(176,0,177),(176,1,178),(176,8,432),(304,0,305),(304,1,306),(304,7,432),(400,0,401),(400,1,402),(400,5,432),(400,9,912),(896,0,897),(896,1,898),(896,4,912),(15,4,31),(15,7,143),(15,8,271),(23,3,31),(23,5,55),(23,7,151),(23,8,279),(135,3,143),(135,4,151),(135,8,391),(263,3,271),(263,4,279),(263,7,391),(51,2,55),(51,7,179),(51,8,307),(147,2,151),(147,5,179),(147,8,403),(275,2,279),(275,5,307),(275,7,403),(387,2,391),(387,4,403),(387,9,899),(177,1,179),(177,8,433),(305,1,307),(305,7,433),(401,1,403),(401,5,433),(401,9,913),(897,1,899),(897,4,913),(178,0,179),(178,8,434),(306,0,307),(306,7,434),(402,0,403),(402,5,434),(402,9,914),(898,0,899),(898,4,914),(432,0,433),(432,1,434),(432,9,944),(912,0,913),(912,1,914),(912,5,944),(31,5,63),(31,7,159),(31,8,287),(143,4,159),(143,8,399),(271,4,287),(271,7,399),(55,3,63),(55,7,183),(55,8,311),(151,3,159),(151,5,183),(151,8,407),(279,3,287),(279,5,311),(279,7,407),(391,3,399),(391,4,407),(391,9,903),(179,2,183),(179,8,435),(307,2,311),(307,7,435),(403,2,407),(403,5,435),(403,9,915),(899,2,903),(899,4,915),(433,1,435),(433,9,945),(913,1,915),(913,5,945),(434,0,435),(434,9,946),(914,0,915),(914,5,946),(944,0,945),(944,1,946),(63,6,127),(63,7,191),(63,8,319),(159,5,191),(159,8,415),(287,5,319),(287,7,415),(399,4,415),(399,9,911),(183,3,191),(183,8,439),(311,3,319),(311,7,439),(407,3,415),(407,5,439),(407,9,919),(903,3,911),(903,4,919),(435,2,439),(435,9,947),(915,2,919),(915,5,947),(945,1,947),(946,0,947),(127,7,255),(127,8,383),(191,6,255),(191,8,447),(319,6,383),(319,7,447),(415,5,447),(415,9,927),(911,4,927),(439,3,447),(439,9,951),(919,3,927),(919,5,951),(947,2,951),(255,8,511),(383,7,511),(447,6,511),(447,9,959),(927,5,959),(951,3,959),(511,9,1023),(959,6,1023),(1023,10,2047),(2047,11,4095)] 4095 A0a A0a ?_ ?_ ?_
       . simp +decide (maxDischargeDepth:=200) only[go_sem]
       . simp +decide (maxDischargeDepth:=200) only[go_sem,mq,mr,g1,g2,g3,i0,i1]
       . simp +decide (maxDischargeDepth:=200) only[go_sem,Nat.reduceBEq]
   . simp +decide (maxDischargeDepth:=200) only[go_sem,Nat.reduceBEq,hh];refine CO 0 3 (es:=l.map aa) (n0:=sz) (k0:=none) rfl (by rw[hl0];rfl) ?_;refine bc (X:={i:Nat//i<=l.length∧∀(j:Nat) (p:C3),j<i->l[j]?=some p->ae p (s,c,r)=true}) (fun i=>[(0,.sl true 3 (l.map aa) none),(3,.ptr 3 0),(4,.sl true 0 [] none),(5,.x (.int .i64 i.1))]) (fun _=>[(3,[.x (.string s),.x (.int .i64 c),.x (.int .i64 r)])]) (fun i=>l.length-i.1) ⟨0,A0b,fun j k hj=>by omega⟩ A05 A1b (fun⟨i,hi,hz⟩=>?_);by_cases hil:i<l.length
     . obtain⟨⟨s1,c1,r1⟩,hb⟩:=rk hil;have d0:decide ((i:Int)<(l.length:Int))=true:=Yz A0b;have k2:(0:Int)<=(i:Int):=A0b
       have k4:=aD (i:=i) A0b;have k5:=dB hb;cases hq:dJ s1 c1 r1 s c r
       . obtain⟨e1,e2⟩:=gy (fun q=>ae q (s,c,r)) l i hi hz (fun q hq'=>by rw[hb] at hq';cases hq';exact hq);have ef:aQ l (s,c,r)=(l.take i++[(s,c,r)])++l.drop i:=by rw[e,e1,e2];simp
         rw[ef];simp +decide (maxDischargeDepth:=200) only[go_sem,Nat.reduceBEq,hsz,d0,k2,k4,k5,bJ,bh,hq];have g1:∀(st:St),bq (aV [(13,cb),(42,bh)] (fun _=>false) [] (fun _=>false) (fun i=>i==6)) st (some 27) 37 (.sl true 0 [] none) (.sl true 3 ((l.take i).map aa) none)=_:=fun st=>jc (E:=aV [(13,cb),(42,bh)] (fun _=>false) [] (fun _=>false) (fun i=>i==6)) rfl (b:=l.take i) A0A st 27 0 3 true none (.inl rfl)
         have g2:∀(st:St) (tok:Nat),bq (aV [(13,cb),(42,bh)] (fun _=>false) [] (fun _=>false) (fun i=>i==6)) st (some 30) 37 (.sl ((l.take i).map aa).isEmpty 3 ((l.take i).map aa) (some tok)) (.sl false 3 [.agg [.x (.string s),.x (.int .i64 c),.x (.int .i64 r)]] none)=_:=fun st tok=>jd (E:=aV [(13,cb),(42,bh)] (fun _=>false) [] (fun _=>false) (fun i=>i==6)) rfl (a:=l.take i) A0A s c r st 30 tok false none
         have g3:∀(st:St) (tok:Nat),bq (aV [(13,cb),(42,bh)] (fun _=>false) [] (fun _=>false) (fun i=>i==6)) st (some 34) 37 (.sl false 3 ((l.take i++[(s,c,r)]).map aa) (some tok)) (.sl true 3 ((l.drop i).map aa) none)=_:=fun st tok=>kr (E:=aV [(13,cb),(42,bh)] (fun _=>false) [] (fun _=>false) (fun i=>i==6)) rfl (a:=l.take i++[(s,c,r)]) (b:=l.drop i) A0C st 34 tok 3 true none (.inl rfl)
         have i0:(0:Int)<=(i:Int):=A0b
         have i1:(i:Int)<=(((l.map aa).length:Nat):Int):=A0v
         refine iU [(0,0,0,.sl true 3 (l.map aa) none),(0,0,3,.ptr 3 0),(0,2048,4,.sl true 0 [] none),(0,0,5,.x (.int .i64 (i:Int))),(1,0,24,.sl true 3 (l.map aa) none),(2,0,25,.x (.int .i64 (i:Int))),(4,0,26,.sl true 3 ((l.take i).map aa) none),(8,64,27,.sl ((l.take i).map aa).isEmpty 3 ((l.take i).map aa) (some 27)),(16,0,28,.agg [.x (.string s),.x (.int .i64 c),.x (.int .i64 r)]),(32,0,29,.sl false 3 [.agg [.x (.string s),.x (.int .i64 c),.x (.int .i64 r)]] none),(64,1024,30,.sl false 3 ((l.take i++[(s,c,r)]).map aa) (some 30)),(128,0,31,.sl true 3 (l.map aa) none),(256,0,32,.x (.int .i64 (i:Int))),(512,0,33,.sl true 3 ((l.drop i).map aa) none),(1024,2048,34,.sl false 3 (((l.take i++[(s,c,r)])++l.drop i).map aa) (some 34)),(2048,0,4,.sl false 3 (((l.take i++[(s,c,r)])++l.drop i).map aa) (some 34))] [(3,[.x (.string s),.x (.int .i64 c),.x (.int .i64 r)])] [(0,0,1),(0,1,2),(0,4,16),(0,7,128),(0,8,256),(1,1,3),(1,4,17),(1,7,129),(1,8,257),(2,0,3),(2,4,18),(2,7,130),(2,8,258),(16,0,17),(16,1,18),(16,5,48),(16,7,144),(16,8,272),(128,0,129),(128,1,130),(128,4,144),(128,8,384),(256,0,257),(256,1,258),(256,4,272),(256,7,384),(3,2,7),(3,4,19),(3,7,131),(3,8,259),(17,1,19),(17,5,49),(17,7,145),(17,8,273),(129,1,131),(129,4,145),(129,8,385),(257,1,259),(257,4,273),(257,7,385),(18,0,19),(18,5,50),(18,7,146),(18,8,274),(130,0,131),(130,4,146),(130,8,386),(258,0,259),(258,4,274),(258,7,386),(48,0,49),(48,1,50),(48,7,176),(48,8,304),(144,0,145),(144,1,146),(144,5,176),(144,8,400),(272,0,273),(272,1,274),(272,5,304),(272,7,400),(384,0,385),(384,1,386),(384,4,400),(384,9,896),(7,3,15),(7,4,23),(7,7,135),(7,8,263),(19,2,23),(19,5,51),(19,7,147),(19,8,275),(131,2,135),(131,4,147),(131,8,387),(259,2,263),(259,4,275),(259,7,387),(49,1,51),(49,7,177),(49,8,305),(145,1,147),(145,5,177),(145,8,401),(273,1,275),(273,5,305),(273,7,401),(385,1,387),(385,4,401),(385,9,897),(50,0,51),(50,7,178),(50,8,306),(146,0,147),(146,5,178),(146,8,402),(274,0,275),(274,5,306),(274,7,402),(386,0,387),(386,4,402),(386,9,898),(176,0,177),(176,1,178),(176,8,432),(304,0,305),(304,1,306),(304,7,432),(400,0,401),(400,1,402),(400,5,432),(400,9,912),(896,0,897),(896,1,898),(896,4,912),(15,4,31),(15,7,143),(15,8,271),(23,3,31),(23,5,55),(23,7,151),(23,8,279),(135,3,143),(135,4,151),(135,8,391),(263,3,271),(263,4,279),(263,7,391),(51,2,55),(51,7,179),(51,8,307),(147,2,151),(147,5,179),(147,8,403),(275,2,279),(275,5,307),(275,7,403),(387,2,391),(387,4,403),(387,9,899),(177,1,179),(177,8,433),(305,1,307),(305,7,433),(401,1,403),(401,5,433),(401,9,913),(897,1,899),(897,4,913),(178,0,179),(178,8,434),(306,0,307),(306,7,434),(402,0,403),(402,5,434),(402,9,914),(898,0,899),(898,4,914),(432,0,433),(432,1,434),(432,9,944),(912,0,913),(912,1,914),(912,5,944),(31,5,63),(31,7,159),(31,8,287),(143,4,159),(143,8,399),(271,4,287),(271,7,399),(55,3,63),(55,7,183),(55,8,311),(151,3,159),(151,5,183),(151,8,407),(279,3,287),(279,5,311),(279,7,407),(391,3,399),(391,4,407),(391,9,903),(179,2,183),(179,8,435),(307,2,311),(307,7,435),(403,2,407),(403,5,435),(403,9,915),(899,2,903),(899,4,915),(433,1,435),(433,9,945),(913,1,915),(913,5,945),(434,0,435),(434,9,946),(914,0,915),(914,5,946),(944,0,945),(944,1,946),(63,6,127),(63,7,191),(63,8,319),(159,5,191),(159,8,415),(287,5,319),(287,7,415),(399,4,415),(399,9,911),(183,3,191),(183,8,439),(311,3,319),(311,7,439),(407,3,415),(407,5,439),(407,9,919),(903,3,911),(903,4,919),(435,2,439),(435,9,947),(915,2,919),(915,5,947),(945,1,947),(946,0,947),(127,7,255),(127,8,383),(191,6,255),(191,8,447),(319,6,383),(319,7,447),(415,5,447),(415,9,927),(911,4,927),(439,3,447),(439,9,951),(919,3,927),(919,5,951),(947,2,951),(255,8,511),(383,7,511),(447,6,511),(447,9,959),(927,5,959),(951,3,959),(511,9,1023),(959,6,1023),(1023,10,2047),(2047,11,4095)] 4095 A0a A0a ?_ ?_ ?_
         . simp +decide (maxDischargeDepth:=200) only[go_sem]
         . simp +decide (maxDischargeDepth:=200) only[go_sem,mq,mr,g1,g2,g3,i0,i1]
         . simp +decide (maxDischargeDepth:=200) only[go_sem,Nat.reduceBEq]
       . simp +decide (maxDischargeDepth:=200) only[go_sem,Nat.reduceBEq,hsz,d0,k2,k4,k5,bJ,bh,hq];refine⟨⟨i+1,A0b,fun j p hj hp=>?_⟩,?_,?_,by simp only;omega⟩
         . by_cases hji:j=i
           . subst hji;rw[hb] at hp;cases hp;exact hq
           . exact hz j p A0b hp
         . simp +decide (maxDischargeDepth:=200) only[go_sem]
         . simp +decide (maxDischargeDepth:=200) only[go_sem]
     . have d0:decide ((i:Int)<(l.length:Int))=false:=YA A0b;obtain⟨e1,e2⟩:=gy (fun q=>ae q (s,c,r)) l i hi hz (fun q hq'=>by rw[Y1 A0b] at hq';cases hq');have ef:aQ l (s,c,r)=(l.take i++[(s,c,r)])++l.drop i:=by rw[e,e1,e2];simp
       rw[ef];simp +decide (maxDischargeDepth:=200) only[go_sem,Nat.reduceBEq,hsz,d0];have g1:∀(st:St),bq (aV [(13,cb),(42,bh)] (fun _=>false) [] (fun _=>false) (fun i=>i==6)) st (some 27) 37 (.sl true 0 [] none) (.sl true 3 ((l.take i).map aa) none)=_:=fun st=>jc (E:=aV [(13,cb),(42,bh)] (fun _=>false) [] (fun _=>false) (fun i=>i==6)) rfl (b:=l.take i) A0A st 27 0 3 true none (.inl rfl)
       have g2:∀(st:St) (tok:Nat),bq (aV [(13,cb),(42,bh)] (fun _=>false) [] (fun _=>false) (fun i=>i==6)) st (some 30) 37 (.sl ((l.take i).map aa).isEmpty 3 ((l.take i).map aa) (some tok)) (.sl false 3 [.agg [.x (.string s),.x (.int .i64 c),.x (.int .i64 r)]] none)=_:=fun st tok=>jd (E:=aV [(13,cb),(42,bh)] (fun _=>false) [] (fun _=>false) (fun i=>i==6)) rfl (a:=l.take i) A0A s c r st 30 tok false none
       have g3:∀(st:St) (tok:Nat),bq (aV [(13,cb),(42,bh)] (fun _=>false) [] (fun _=>false) (fun i=>i==6)) st (some 34) 37 (.sl false 3 ((l.take i++[(s,c,r)]).map aa) (some tok)) (.sl true 3 ((l.drop i).map aa) none)=_:=fun st tok=>kr (E:=aV [(13,cb),(42,bh)] (fun _=>false) [] (fun _=>false) (fun i=>i==6)) rfl (a:=l.take i++[(s,c,r)]) (b:=l.drop i) A0C st 34 tok 3 true none (.inl rfl)
       have i0:(0:Int)<=(i:Int):=A0b
       have i1:(i:Int)<=(((l.map aa).length:Nat):Int):=A0v
       refine iU [(0,0,0,.sl true 3 (l.map aa) none),(0,0,3,.ptr 3 0),(0,2048,4,.sl true 0 [] none),(0,0,5,.x (.int .i64 (i:Int))),(1,0,24,.sl true 3 (l.map aa) none),(2,0,25,.x (.int .i64 (i:Int))),(4,0,26,.sl true 3 ((l.take i).map aa) none),(8,64,27,.sl ((l.take i).map aa).isEmpty 3 ((l.take i).map aa) (some 27)),(16,0,28,.agg [.x (.string s),.x (.int .i64 c),.x (.int .i64 r)]),(32,0,29,.sl false 3 [.agg [.x (.string s),.x (.int .i64 c),.x (.int .i64 r)]] none),(64,1024,30,.sl false 3 ((l.take i++[(s,c,r)]).map aa) (some 30)),(128,0,31,.sl true 3 (l.map aa) none),(256,0,32,.x (.int .i64 (i:Int))),(512,0,33,.sl true 3 ((l.drop i).map aa) none),(1024,2048,34,.sl false 3 (((l.take i++[(s,c,r)])++l.drop i).map aa) (some 34)),(2048,0,4,.sl false 3 (((l.take i++[(s,c,r)])++l.drop i).map aa) (some 34))] [(3,[.x (.string s),.x (.int .i64 c),.x (.int .i64 r)])] [(0,0,1),(0,1,2),(0,4,16),(0,7,128),(0,8,256),(1,1,3),(1,4,17),(1,7,129),(1,8,257),(2,0,3),(2,4,18),(2,7,130),(2,8,258),(16,0,17),(16,1,18),(16,5,48),(16,7,144),(16,8,272),(128,0,129),(128,1,130),(128,4,144),(128,8,384),(256,0,257),(256,1,258),(256,4,272),(256,7,384),(3,2,7),(3,4,19),(3,7,131),(3,8,259),(17,1,19),(17,5,49),(17,7,145),(17,8,273),(129,1,131),(129,4,145),(129,8,385),(257,1,259),(257,4,273),(257,7,385),(18,0,19),(18,5,50),(18,7,146),(18,8,274),(130,0,131),(130,4,146),(130,8,386),(258,0,259),(258,4,274),(258,7,386),(48,0,49),(48,1,50),(48,7,176),(48,8,304),(144,0,145),(144,1,146),(144,5,176),(144,8,400),(272,0,273),(272,1,274),(272,5,304),(272,7,400),(384,0,385),(384,1,386),(384,4,400),(384,9,896),(7,3,15),(7,4,23),(7,7,135),(7,8,263),(19,2,23),(19,5,51),(19,7,147),(19,8,275),(131,2,135),(131,4,147),(131,8,387),(259,2,263),(259,4,275),(259,7,387),(49,1,51),(49,7,177),(49,8,305),(145,1,147),(145,5,177),(145,8,401),(273,1,275),(273,5,305),(273,7,401),(385,1,387),(385,4,401),(385,9,897),(50,0,51),(50,7,178),(50,8,306),(146,0,147),(146,5,178),(146,8,402),(274,0,275),(274,5,306),(274,7,402),(386,0,387),(386,4,402),(386,9,898),(176,0,177),(176,1,178),(176,8,432),(304,0,305),(304,1,306),(304,7,432),(400,0,401),(400,1,402),(400,5,432),(400,9,912),(896,0,897),(896,1,898),(896,4,912),(15,4,31),(15,7,143),(15,8,271),(23,3,31),(23,5,55),(23,7,151),(23,8,279),(135,3,143),(135,4,151),(135,8,391),(263,3,271),(263,4,279),(263,7,391),(51,2,55),(51,7,179),(51,8,307),(147,2,151),(147,5,179),(147,8,403),(275,2,279),(275,5,307),(275,7,403),(387,2,391),(387,4,403),(387,9,899),(177,1,179),(177,8,433),(305,1,307),(305,7,433),(401,1,403),(401,5,433),(401,9,913),(897,1,899),(897,4,913),(178,0,179),(178,8,434),(306,0,307),(306,7,434),(402,0,403),(402,5,434),(402,9,914),(898,0,899),(898,4,914),(432,0,433),(432,1,434),(432,9,944),(912,0,913),(912,1,914),(912,5,944),(31,5,63),(31,7,159),(31,8,287),(143,4,159),(143,8,399),(271,4,287),(271,7,399),(55,3,63),(55,7,183),(55,8,311),(151,3,159),(151,5,183),(151,8,407),(279,3,287),(279,5,311),(279,7,407),(391,3,399),(391,4,407),(391,9,903),(179,2,183),(179,8,435),(307,2,311),(307,7,435),(403,2,407),(403,5,435),(403,9,915),(899,2,903),(899,4,915),(433,1,435),(433,9,945),(913,1,915),(913,5,945),(434,0,435),(434,9,946),(914,0,915),(914,5,946),(944,0,945),(944,1,946),(63,6,127),(63,7,191),(63,8,319),(159,5,191),(159,8,415),(287,5,319),(287,7,415),(399,4,415),(399,9,911),(183,3,191),(183,8,439),(311,3,319),(311,7,439),(407,3,415),(407,5,439),(407,9,919),(903,3,911),(903,4,919),(435,2,439),(435,9,947),(915,2,919),(915,5,947),(945,1,947),(946,0,947),(127,7,255),(127,8,383),(191,6,255),(191,8,447),(319,6,383),(319,7,447),(415,5,447),(415,9,927),(911,4,927),(439,3,447),(439,9,951),(919,3,927),(919,5,951),(947,2,951),(255,8,511),(383,7,511),(447,6,511),(447,9,959),(927,5,959),(951,3,959),(511,9,1023),(959,6,1023),(1023,10,2047),(2047,11,4095)] 4095 A0a A0a ?_ ?_ ?_
       . simp +decide (maxDischargeDepth:=200) only[go_sem]
       . simp +decide (maxDischargeDepth:=200) only[go_sem,mq,mr,g1,g2,g3,i0,i1]
       . simp +decide (maxDischargeDepth:=200) only[go_sem,Nat.reduceBEq]
def kJ (l:List C3):Nat:=if l.isEmpty then 0 else 3
def fZ (h:Hd):List C3:=(jP h.cs h.cc h.cr h.ts h.tc h.tr).getD []
def dU (h:Hd):List C3:=bif decide (h.k=2)&&cG h.cs h.cc h.cr then aQ [] (h.cs,h.cc,h.cr) else bif decide (h.k=3) then (fZ h).foldl aQ [] else []
mutual
def aM:Nd->List C3
 | .leaf h=>dU h
 | .mk h l=>aR (dU h) l
def aR:List C3->List Nd->List C3
 |acc,[]=>acc
 |acc,n::l=>aR ((aM n).foldl aQ acc) l
end
theorem CP (a:Nd):aM a=aR (dU a.hd) a.ks:=by cases a<;>simp only[aM,aR,Nd.hd,Nd.ks]
theorem eJ (acc:List C3) (l:List Nd) (n:Nd):aR acc (l++[n])=(aM n).foldl aQ (aR acc l):=by
 induction l generalizing acc with
 |nil=>rfl
 |cons x l ih=>simp only[Zz,aR,ih]
theorem pS (l:List C3) (p:C3):(aQ l p).length<=l.length+1:=by
 unfold aQ;split
 . omega
 . have:(l.takeWhile (fun q=>ae q p)).length+(l.dropWhile (fun q=>ae q p)).length=l.length:=by rw[<-YD,ZH]
   simp only[YD,YI];omega
theorem dV (c:List C3):∀acc:List C3,(c.foldl aQ acc).length<=acc.length+c.length:=by
 induction c with
 |nil=>intro acc;simp
 |cons p c ih=>intro acc;have:=ih (aQ acc p);have:=pS acc p;simp only[ZR,YI];omega
theorem pT (h:Hd):(fZ h).length<=400:=by
 unfold fZ jP;split
 . rename_i hh;obtain⟨hok,h4⟩:=hh;obtain⟨_,_,_,hc,hr⟩:=ri.1 hok;rw[Z1,ia];have e1:h.tc-h.cc+1=(((h.tc-h.cc+1).toNat:Nat):Int):=A0b
   have e2:h.tr-h.cr+1=(((h.tr-h.cr+1).toNat:Nat):Int):=A0b
   unfold dT at h4;rw[e1,e2] at h4;have:(((h.tr-h.cr+1).toNat*(h.tc-h.cc+1).toNat:Nat):Int)<=400:=by push_cast;rw[Int.mul_comm];exact h4
   omega
 . simp
theorem nM (h:Hd):(dU h).length<=400:=by
 unfold dU;cases decide (h.k=2)&&cG h.cs h.cc h.cr with
 |true=>have:=pS [] (h.cs,h.cc,h.cr);simp only[cond_true];simp at this;omega
 | false=>
   cases decide (h.k=3) with
   |true=>have:=dV (fZ h) [];have:=pT h;simp only[cond_true,cond_false];simp at*;omega
   |false=>simp
mutual
theorem fv:∀a:Nd,(aM a).length<=400*nH a
 | .leaf h=>by have:=nM h;simp only[aM,nH];omega
 | .mk h l=>by have:=jR (dU h) l;have:=nM h;simp only[aM,nH];omega
theorem jR:∀(acc:List C3) (l:List Nd),(aR acc l).length<=acc.length+400*cntL l
 |acc,[]=>by simp[aR]
 |acc,n::l=>by have:=jR ((aM n).foldl aQ acc) l;have:=dV (aM n) acc;have:=fv n;simp only[aR,cntL];omega
end
theorem fw (L:List C3) (p:C3) (h:L.length<=900000):pR [.sl (L).isEmpty (kJ (L)) ((L).map aa) none,.agg [.x (.string p.1),.x (.int .i64 p.2.1),.x (.int .i64 p.2.2)]]=some (.sl (aQ L p).isEmpty (kJ (aQ L p)) ((aQ L p).map aa) none):=by
 obtain⟨s,c,r⟩:=p;unfold pR;simp only[iT];rw[YG ⟨h,by cases L with|nil=>exact .inr ⟨rfl,rfl⟩|cons q L=>exact .inl rfl⟩];by_cases hin:mo L (s,c,r)=true
 . have e:aQ L (s,c,r)=L:=YG hin;rw[YG hin,e]
 . have e:aQ L (s,c,r)=L.takeWhile (fun q=>ae q (s,c,r))++(s,c,r)::L.dropWhile (fun q=>ae q (s,c,r)):=YL hin;have e2:(aQ L (s,c,r)).isEmpty=false:=by rw[e];cases L.takeWhile (fun q=>ae q (s,c,r))<;>rfl
   rw[YL hin];simp only[kJ,e2,Y2,YU]
theorem xY (l:List Nd) (i:Nat):cntL (l.take i)<=cntL l:=by
 have key:∀(a b:List Nd),cntL (a++b)=cntL a+cntL b:=by
  intro a b
  induction a with
  |nil=>simp[cntL]
  |cons x a ih=>simp only[Zz,cntL,ih,aba]
 have:=key (l.take i) (l.drop i);rw[aaz] at this;omega
def f0 (nd:Nd):Option V:=if nH nd<=400 then some (.sl (aM nd).isEmpty (kJ (aM nd)) ((aM nd).map aa) none) else none
theorem pU {nd:Nd} (h:nH nd<=400):f0 nd=some (.sl (aM nd).isEmpty (kJ (aM nd)) ((aM nd).map aa) none):=YG h
variable {p:C3}
theorem nN {i:Nat} (h:l[i]?=some p):kJ l=3:=by
 cases l with
 |nil=>simp at h
 |cons q l=>rfl
theorem fg {c:List C3} {i:Nat} (h:c[i]?=some p) (acc:List C3):(c.take (i+1)).foldl aQ acc=aQ ((c.take i).foldl aQ acc) p:=by
 have:c.take (i+1)=c.take i++[p]:=by rw[aby,h];rfl
 rw[this,aan];rfl
theorem CQ : cM 28 (FE nJ f0):=by
 refine Kq nH (fun a w=>Tryz.call28 a w) (fun n ih=>?_);refine aT (E:=ba [(28,(FE nJ fun a=>if nH a<n then f0 a else none)),(30,pR),(44,jQ),(43,dA)]) (k:=1) (bV _ ⟨ih,Gn,xX,nD,trivial⟩) A0a Tryz.func28 rfl (fun a w=>Tryz.call28 a w) Tryz.ntmps28 A0a A0c A0c ?_;intro us r hF hdat;obtain⟨nd,hus,hG⟩:=bE hF;clear hF;subst hus;obtain⟨hlt,hF⟩:=bX hG;clear hG;unfold f0 at hF;obtain⟨h400,hF⟩:=bX hF;cases hF;clear hdat;simp only[nJ];obtain⟨k,op,nm,vk,vn,vs,cs,cc,cr,ts,tc,tr,l,nl,sz,hh,hl,hf,hs⟩:=ed nd;have hrec:∀(i:Nat) (c:Nd),l[i]?=some c->(FE nJ fun a=>if nH a<n then f0 a else none) [aP c]=some (.sl (aM c).isEmpty (kJ (aM c)) ((aM c).map aa) none)∧(aM c).length<=160000:=fun i c hc=>by have h1:=Kx (nd:=nd) (c:=c) (i:=i) (by rw[hl];exact hc);have:=fv c;exact⟨(cq tZ _ c).trans ((YG A0b).trans (pU A0b)),A0b⟩
 have hlen:l.length<400:=by have:=Gi nd;rw[hl] at this;omega
 have hcl:cntL l<=400:=by have:=nI nd;rw[hl] at this;omega
 have hbl:=nM nd.hd;have hrl:∀i,(aR (dU nd.hd) (l.take i)).length<=170000:=fun i=>by have:=jR (dU nd.hd) (l.take i);have:=xY l i;omega
 rw[hf,CP,hl];refine⟨rfl,?_⟩;rw[hh] at hbl hrl⊢;by_cases h2:k=2
 . subst h2;cases hr:cG cs cc cr
   . have eb:dU ⟨2,op,nm,vk,vn,vs,cs,cc,cr,ts,tc,tr⟩=[]:=by simp[dU,hr]
     rw[eb] at hrl⊢;simp +decide (maxDischargeDepth:=200) only[go_sem,dA,hr];refine bc (X:={i:Nat//i<=l.length}) (fun i=>[(1,.ptr 1 0),(2,.sl true 0 [] none),(3,.sl (aR ([]) (l.take i.1)).isEmpty (kJ (aR ([]) (l.take i.1))) ((aR ([]) (l.take i.1)).map aa) none),(6,.x (.int .i64 ((i.1:Nat):Int)))]) (fun _=>[(1,[.x (.int .i64 2),.x (.string op),.x (.string nm),.x (.int .i64 vk),.x (.int .i64 vn),.x (.string vs),.x (.string cs),.x (.int .i64 cc),.x (.int .i64 cr),.x (.string ts),.x (.int .i64 tc),.x (.int .i64 tr),.sl nl sz (l.map aP) none])]) (fun i=>l.length-i.1) ⟨0,A0b⟩ A0x A0e (fun⟨i,hi0⟩=>?_);by_cases hi:i<l.length
     . obtain⟨c,hc1,hc2⟩:=nG hi;obtain rfl:=ko hs hi;obtain⟨hcc,hcl2⟩:=hrec i c hc1;obtain⟨k',op',nm',vk',vn',vs',cs',cc',cr',ts',tc',tr',l',nl',sz',hh',hl',hf',hs'⟩:=ed c;rw[hf'] at hc2 hcc;have c1:decide ((i:Int)<(l.length:Int))=true:=Yz A0b;have c2:(0:Int)<=(i:Int):=A0b
       have c4:=aD (i:=i) A0b;have ht:=aF hc1;have e:aR ([]) (l.take (i+1))=(aM c).foldl aQ (aR ([]) (l.take i)):=by rw[ht,eJ]
       have hal:=hrl i;generalize aR ([]) (l.take i)=acc at hal e;generalize aM c=q at hcl2 hcc e;simp +decide (maxDischargeDepth:=200) only[go_sem,eq,c1,c2,c4,hc2,hcc];refine bc (X:={j:Nat//j<=q.length}) (fun j=>[(1,.ptr 1 0),(2,.sl true 0 [] none),(3,.sl ((q.take j.1).foldl aQ acc).isEmpty (kJ ((q.take j.1).foldl aQ acc)) (((q.take j.1).foldl aQ acc).map aa) none),(6,.x (.int .i64 ((i:Nat):Int))),(7,.sl (q).isEmpty (kJ (q)) ((q).map aa) none),(8,.x (.int .i64 ((j.1:Nat):Int)))]) (fun _=>[(1,[.x (.int .i64 2),.x (.string op),.x (.string nm),.x (.int .i64 vk),.x (.int .i64 vn),.x (.string vs),.x (.string cs),.x (.int .i64 cc),.x (.int .i64 cr),.x (.string ts),.x (.int .i64 tc),.x (.int .i64 tr),.sl nl 13 (l.map aP) none])]) (fun j=>q.length-j.1) ⟨0,A0b⟩ A0r A0e (fun⟨j,hj0⟩=>?_);by_cases hj:j<q.length
       . obtain⟨p,hp⟩:=rk hj;have d1:decide ((j:Int)<(q.length:Int))=true:=Yz A0b;have d2:(0:Int)<=(j:Int):=A0b
         have d4:=aD (i:=j) A0b;have d5:=dB hp;have d6:=nN hp;have hfl:=dV (q.take j) acc;have d7:=fw ((q.take j).foldl aQ acc) p A0V;have d8:=fg hp acc;simp +decide (maxDischargeDepth:=200) only[go_sem,eq,d1,d2,d4,d5,d6,d7,bJ];refine⟨⟨j+1,A0b⟩,?_,?_,?_⟩
         . simp +decide (maxDischargeDepth:=200) only[go_sem,d8,d6]
         . simp +decide (maxDischargeDepth:=200) only[go_sem]
         . simp only;omega
       . have d1:decide ((j:Int)<(q.length:Int))=false:=YA A0b;have d9:q.take j=q:=YS A0b;simp +decide (maxDischargeDepth:=200) only[go_sem,eq,d1,d9,c4];refine⟨⟨i+1,A0b⟩,?_,?_,?_⟩
         . simp +decide (maxDischargeDepth:=200) only[go_sem,e]
         . simp +decide (maxDischargeDepth:=200) only[go_sem]
         . simp only;omega
     . have c1:decide ((i:Int)<(l.length:Int))=false:=YA A0b;have e:l.take i=l:=YS A0b;simp +decide (maxDischargeDepth:=200) only[go_sem,eq,c1,e]
   . have eb:dU ⟨2,op,nm,vk,vn,vs,cs,cc,cr,ts,tc,tr⟩=aQ [] (cs,cc,cr):=by simp[dU,hr]
     have q0:pR [.sl true 0 [] none,.agg [.x (.string cs),.x (.int .i64 cc),.x (.int .i64 cr)]]=some (.sl (aQ [] (cs,cc,cr)).isEmpty (kJ (aQ [] (cs,cc,cr))) ((aQ [] (cs,cc,cr)).map aa) none):=fw [] (cs,cc,cr) A0j;rw[eb] at hrl⊢;generalize aQ [] (cs,cc,cr)=base at hrl q0⊢;simp +decide (maxDischargeDepth:=200) only[go_sem,dA,hr,q0];refine bc (X:={i:Nat//i<=l.length}) (fun i=>[(1,.ptr 1 0),(2,.sl true 0 [] none),(3,.sl (aR (base) (l.take i.1)).isEmpty (kJ (aR (base) (l.take i.1))) ((aR (base) (l.take i.1)).map aa) none),(6,.x (.int .i64 ((i.1:Nat):Int)))]) (fun _=>[(1,[.x (.int .i64 2),.x (.string op),.x (.string nm),.x (.int .i64 vk),.x (.int .i64 vn),.x (.string vs),.x (.string cs),.x (.int .i64 cc),.x (.int .i64 cr),.x (.string ts),.x (.int .i64 tc),.x (.int .i64 tr),.sl nl sz (l.map aP) none])]) (fun i=>l.length-i.1) ⟨0,A0b⟩ A0x A0e (fun⟨i,hi0⟩=>?_);by_cases hi:i<l.length
     . obtain⟨c,hc1,hc2⟩:=nG hi;obtain rfl:=ko hs hi;obtain⟨hcc,hcl2⟩:=hrec i c hc1;obtain⟨k',op',nm',vk',vn',vs',cs',cc',cr',ts',tc',tr',l',nl',sz',hh',hl',hf',hs'⟩:=ed c;rw[hf'] at hc2 hcc;have c1:decide ((i:Int)<(l.length:Int))=true:=Yz A0b;have c2:(0:Int)<=(i:Int):=A0b
       have c4:=aD (i:=i) A0b;have ht:=aF hc1;have e:aR (base) (l.take (i+1))=(aM c).foldl aQ (aR (base) (l.take i)):=by rw[ht,eJ]
       have hal:=hrl i;generalize aR (base) (l.take i)=acc at hal e;generalize aM c=q at hcl2 hcc e;simp +decide (maxDischargeDepth:=200) only[go_sem,eq,c1,c2,c4,hc2,hcc];refine bc (X:={j:Nat//j<=q.length}) (fun j=>[(1,.ptr 1 0),(2,.sl true 0 [] none),(3,.sl ((q.take j.1).foldl aQ acc).isEmpty (kJ ((q.take j.1).foldl aQ acc)) (((q.take j.1).foldl aQ acc).map aa) none),(6,.x (.int .i64 ((i:Nat):Int))),(7,.sl (q).isEmpty (kJ (q)) ((q).map aa) none),(8,.x (.int .i64 ((j.1:Nat):Int)))]) (fun _=>[(1,[.x (.int .i64 2),.x (.string op),.x (.string nm),.x (.int .i64 vk),.x (.int .i64 vn),.x (.string vs),.x (.string cs),.x (.int .i64 cc),.x (.int .i64 cr),.x (.string ts),.x (.int .i64 tc),.x (.int .i64 tr),.sl nl 13 (l.map aP) none])]) (fun j=>q.length-j.1) ⟨0,A0b⟩ A0r A0e (fun⟨j,hj0⟩=>?_);by_cases hj:j<q.length
       . obtain⟨p,hp⟩:=rk hj;have d1:decide ((j:Int)<(q.length:Int))=true:=Yz A0b;have d2:(0:Int)<=(j:Int):=A0b
         have d4:=aD (i:=j) A0b;have d5:=dB hp;have d6:=nN hp;have hfl:=dV (q.take j) acc;have d7:=fw ((q.take j).foldl aQ acc) p A0V;have d8:=fg hp acc;simp +decide (maxDischargeDepth:=200) only[go_sem,eq,d1,d2,d4,d5,d6,d7,bJ];refine⟨⟨j+1,A0b⟩,?_,?_,?_⟩
         . simp +decide (maxDischargeDepth:=200) only[go_sem,d8,d6]
         . simp +decide (maxDischargeDepth:=200) only[go_sem]
         . simp only;omega
       . have d1:decide ((j:Int)<(q.length:Int))=false:=YA A0b;have d9:q.take j=q:=YS A0b;simp +decide (maxDischargeDepth:=200) only[go_sem,eq,d1,d9,c4];refine⟨⟨i+1,A0b⟩,?_,?_,?_⟩
         . simp +decide (maxDischargeDepth:=200) only[go_sem,e]
         . simp +decide (maxDischargeDepth:=200) only[go_sem]
         . simp only;omega
     . have c1:decide ((i:Int)<(l.length:Int))=false:=YA A0b;have e:l.take i=l:=YS A0b;simp +decide (maxDischargeDepth:=200) only[go_sem,eq,c1,e]
 . have k2 : decide (k=2)=false:=YA h2;by_cases h3:k=3
   . subst h3;have eb:dU ⟨3,op,nm,vk,vn,vs,cs,cc,cr,ts,tc,tr⟩=(fZ ⟨3,op,nm,vk,vn,vs,cs,cc,cr,ts,tc,tr⟩).foldl aQ []:=by simp[dU]
     have hrg:=pT ⟨3,op,nm,vk,vn,vs,cs,cc,cr,ts,tc,tr⟩;have hrg2:=dV (fZ ⟨3,op,nm,vk,vn,vs,cs,cc,cr,ts,tc,tr⟩) [];cases hA:jP cs cc cr ts tc tr with
     | none=>
       have er:fZ ⟨3,op,nm,vk,vn,vs,cs,cc,cr,ts,tc,tr⟩=[]:=by unfold fZ;rw[hA];rfl
       rw[er] at eb;have eb:dU ⟨3,op,nm,vk,vn,vs,cs,cc,cr,ts,tc,tr⟩=[]:=eb;have hC:jQ [.agg [.x (.string cs),.x (.int .i64 cc),.x (.int .i64 cr),.x (.string ts),.x (.int .i64 tc),.x (.int .i64 tr)]]=some (.sl true 0 [] none):=by unfold jQ;simp only[hA]
       rw[eb] at hrl⊢;simp +decide (maxDischargeDepth:=200) only[go_sem,hC];refine bc (X:=Unit) (fun _=>[(1,.ptr 1 0),(2,.sl true 0 [] none),(3,.sl true 0 [] none),(4,.sl true 0 [] none),(5,.x (.int .i64 0))]) (fun _=>[(1,[.x (.int .i64 3),.x (.string op),.x (.string nm),.x (.int .i64 vk),.x (.int .i64 vn),.x (.string vs),.x (.string cs),.x (.int .i64 cc),.x (.int .i64 cr),.x (.string ts),.x (.int .i64 tc),.x (.int .i64 tr),.sl nl sz (l.map aP) none])]) (fun _=>0) () A0e A0e (fun _=>?_);simp +decide (maxDischargeDepth:=200) only[go_sem];refine bc (X:={i:Nat//i<=l.length}) (fun i=>[(1,.ptr 1 0),(2,.sl true 0 [] none),(3,.sl (aR ([]) (l.take i.1)).isEmpty (kJ (aR ([]) (l.take i.1))) ((aR ([]) (l.take i.1)).map aa) none),(6,.x (.int .i64 ((i.1:Nat):Int)))]) (fun _=>[(1,[.x (.int .i64 3),.x (.string op),.x (.string nm),.x (.int .i64 vk),.x (.int .i64 vn),.x (.string vs),.x (.string cs),.x (.int .i64 cc),.x (.int .i64 cr),.x (.string ts),.x (.int .i64 tc),.x (.int .i64 tr),.sl nl sz (l.map aP) none])]) (fun i=>l.length-i.1) ⟨0,A0b⟩ A0x A0e (fun⟨i,hi0⟩=>?_);by_cases hi:i<l.length
       . obtain⟨c,hc1,hc2⟩:=nG hi;obtain rfl:=ko hs hi;obtain⟨hcc,hcl2⟩:=hrec i c hc1;obtain⟨k',op',nm',vk',vn',vs',cs',cc',cr',ts',tc',tr',l',nl',sz',hh',hl',hf',hs'⟩:=ed c;rw[hf'] at hc2 hcc;have c1:decide ((i:Int)<(l.length:Int))=true:=Yz A0b;have c2:(0:Int)<=(i:Int):=A0b
         have c4:=aD (i:=i) A0b;have ht:=aF hc1;have e:aR ([]) (l.take (i+1))=(aM c).foldl aQ (aR ([]) (l.take i)):=by rw[ht,eJ]
         have hal:=hrl i;generalize aR ([]) (l.take i)=acc at hal e;generalize aM c=q at hcl2 hcc e;simp +decide (maxDischargeDepth:=200) only[go_sem,eq,c1,c2,c4,hc2,hcc];refine bc (X:={j:Nat//j<=q.length}) (fun j=>[(1,.ptr 1 0),(2,.sl true 0 [] none),(3,.sl ((q.take j.1).foldl aQ acc).isEmpty (kJ ((q.take j.1).foldl aQ acc)) (((q.take j.1).foldl aQ acc).map aa) none),(6,.x (.int .i64 ((i:Nat):Int))),(7,.sl (q).isEmpty (kJ (q)) ((q).map aa) none),(8,.x (.int .i64 ((j.1:Nat):Int)))]) (fun _=>[(1,[.x (.int .i64 3),.x (.string op),.x (.string nm),.x (.int .i64 vk),.x (.int .i64 vn),.x (.string vs),.x (.string cs),.x (.int .i64 cc),.x (.int .i64 cr),.x (.string ts),.x (.int .i64 tc),.x (.int .i64 tr),.sl nl 13 (l.map aP) none])]) (fun j=>q.length-j.1) ⟨0,A0b⟩ A0r A0e (fun⟨j,hj0⟩=>?_);by_cases hj:j<q.length
         . obtain⟨p,hp⟩:=rk hj;have d1:decide ((j:Int)<(q.length:Int))=true:=Yz A0b;have d2:(0:Int)<=(j:Int):=A0b
           have d4:=aD (i:=j) A0b;have d5:=dB hp;have d6:=nN hp;have hfl:=dV (q.take j) acc;have d7:=fw ((q.take j).foldl aQ acc) p A0V;have d8:=fg hp acc;simp +decide (maxDischargeDepth:=200) only[go_sem,eq,d1,d2,d4,d5,d6,d7,bJ];refine⟨⟨j+1,A0b⟩,?_,?_,?_⟩
           . simp +decide (maxDischargeDepth:=200) only[go_sem,d8,d6]
           . simp +decide (maxDischargeDepth:=200) only[go_sem]
           . simp only;omega
         . have d1:decide ((j:Int)<(q.length:Int))=false:=YA A0b;have d9:q.take j=q:=YS A0b;simp +decide (maxDischargeDepth:=200) only[go_sem,eq,d1,d9,c4];refine⟨⟨i+1,A0b⟩,?_,?_,?_⟩
           . simp +decide (maxDischargeDepth:=200) only[go_sem,e]
           . simp +decide (maxDischargeDepth:=200) only[go_sem]
           . simp only;omega
       . have c1:decide ((i:Int)<(l.length:Int))=false:=YA A0b;have e:l.take i=l:=YS A0b;simp +decide (maxDischargeDepth:=200) only[go_sem,eq,c1,e]
     | some q0=>
       have er:fZ ⟨3,op,nm,vk,vn,vs,cs,cc,cr,ts,tc,tr⟩=q0:=by unfold fZ;rw[hA];rfl
       rw[er] at eb hrg hrg2;have hC:jQ [.agg [.x (.string cs),.x (.int .i64 cc),.x (.int .i64 cr),.x (.string ts),.x (.int .i64 tc),.x (.int .i64 tr)]]=some (.sl false 3 (q0.map aa) none):=by unfold jQ;simp only[hA]
       rw[eb] at hrl⊢;simp +decide (maxDischargeDepth:=200) only[go_sem,hC];refine bc (X:={j:Nat//j<=q0.length}) (fun j=>[(1,.ptr 1 0),(2,.sl true 0 [] none),(3,.sl ((q0.take j.1).foldl aQ []).isEmpty (kJ ((q0.take j.1).foldl aQ [])) (((q0.take j.1).foldl aQ []).map aa) none),(4,.sl false 3 (q0.map aa) none),(5,.x (.int .i64 ((j.1:Nat):Int)))]) (fun _=>[(1,[.x (.int .i64 3),.x (.string op),.x (.string nm),.x (.int .i64 vk),.x (.int .i64 vn),.x (.string vs),.x (.string cs),.x (.int .i64 cc),.x (.int .i64 cr),.x (.string ts),.x (.int .i64 tc),.x (.int .i64 tr),.sl nl sz (l.map aP) none])]) (fun j=>q0.length-j.1) ⟨0,A0b⟩ A0r A0e (fun⟨j,hj0⟩=>?_);by_cases hj:j<q0.length
       . obtain⟨p,hp⟩:=rk hj;have d1:decide ((j:Int)<(q0.length:Int))=true:=Yz A0b;have d2:(0:Int)<=(j:Int):=A0b
         have d4:=aD (i:=j) A0b;have d5:=dB hp;have hfl:=dV (q0.take j) [];have d7:=fw ((q0.take j).foldl aQ []) p (by rw[YQ] at hfl;simp only[Zd] at hfl;omega);have d8:=fg hp [];simp +decide (maxDischargeDepth:=200) only[go_sem,eq,d1,d2,d4,d5,d7,bJ];refine⟨⟨j+1,A0b⟩,?_,?_,?_⟩
         . simp +decide (maxDischargeDepth:=200) only[go_sem,d8]
         . simp +decide (maxDischargeDepth:=200) only[go_sem]
         . simp only;omega
       . have d1:decide ((j:Int)<(q0.length:Int))=false:=YA A0b;have d9:q0.take j=q0:=YS A0b;simp +decide (maxDischargeDepth:=200) only[go_sem,eq,d1,d9];generalize q0.foldl aQ []=base at hrl hrg2⊢;refine bc (X:={i:Nat//i<=l.length}) (fun i=>[(1,.ptr 1 0),(2,.sl true 0 [] none),(3,.sl (aR (base) (l.take i.1)).isEmpty (kJ (aR (base) (l.take i.1))) ((aR (base) (l.take i.1)).map aa) none),(6,.x (.int .i64 ((i.1:Nat):Int)))]) (fun _=>[(1,[.x (.int .i64 3),.x (.string op),.x (.string nm),.x (.int .i64 vk),.x (.int .i64 vn),.x (.string vs),.x (.string cs),.x (.int .i64 cc),.x (.int .i64 cr),.x (.string ts),.x (.int .i64 tc),.x (.int .i64 tr),.sl nl sz (l.map aP) none])]) (fun i=>l.length-i.1) ⟨0,A0b⟩ A0x A0e (fun⟨i,hi0⟩=>?_);by_cases hi:i<l.length
         . obtain⟨c,hc1,hc2⟩:=nG hi;obtain rfl:=ko hs hi;obtain⟨hcc,hcl2⟩:=hrec i c hc1;obtain⟨k',op',nm',vk',vn',vs',cs',cc',cr',ts',tc',tr',l',nl',sz',hh',hl',hf',hs'⟩:=ed c;rw[hf'] at hc2 hcc;have c1:decide ((i:Int)<(l.length:Int))=true:=Yz A0b;have c2:(0:Int)<=(i:Int):=A0b
           have c4:=aD (i:=i) A0b;have ht:=aF hc1;have e:aR (base) (l.take (i+1))=(aM c).foldl aQ (aR (base) (l.take i)):=by rw[ht,eJ]
           have hal:=hrl i;generalize aR (base) (l.take i)=acc at hal e;generalize aM c=q at hcl2 hcc e;simp +decide (maxDischargeDepth:=200) only[go_sem,eq,c1,c2,c4,hc2,hcc];refine bc (X:={j:Nat//j<=q.length}) (fun j=>[(1,.ptr 1 0),(2,.sl true 0 [] none),(3,.sl ((q.take j.1).foldl aQ acc).isEmpty (kJ ((q.take j.1).foldl aQ acc)) (((q.take j.1).foldl aQ acc).map aa) none),(6,.x (.int .i64 ((i:Nat):Int))),(7,.sl (q).isEmpty (kJ (q)) ((q).map aa) none),(8,.x (.int .i64 ((j.1:Nat):Int)))]) (fun _=>[(1,[.x (.int .i64 3),.x (.string op),.x (.string nm),.x (.int .i64 vk),.x (.int .i64 vn),.x (.string vs),.x (.string cs),.x (.int .i64 cc),.x (.int .i64 cr),.x (.string ts),.x (.int .i64 tc),.x (.int .i64 tr),.sl nl 13 (l.map aP) none])]) (fun j=>q.length-j.1) ⟨0,A0b⟩ A0r A0e (fun⟨j,hj0⟩=>?_);by_cases hj:j<q.length
           . obtain⟨p,hp⟩:=rk hj;have d1:decide ((j:Int)<(q.length:Int))=true:=Yz A0b;have d2:(0:Int)<=(j:Int):=A0b
             have d4:=aD (i:=j) A0b;have d5:=dB hp;have d6:=nN hp;have hfl:=dV (q.take j) acc;have d7:=fw ((q.take j).foldl aQ acc) p A0V;have d8:=fg hp acc;simp +decide (maxDischargeDepth:=200) only[go_sem,eq,d1,d2,d4,d5,d6,d7,bJ];refine⟨⟨j+1,A0b⟩,?_,?_,?_⟩
             . simp +decide (maxDischargeDepth:=200) only[go_sem,d8,d6]
             . simp +decide (maxDischargeDepth:=200) only[go_sem]
             . simp only;omega
           . have d1:decide ((j:Int)<(q.length:Int))=false:=YA A0b;have d9:q.take j=q:=YS A0b;simp +decide (maxDischargeDepth:=200) only[go_sem,eq,d1,d9,c4];refine⟨⟨i+1,A0b⟩,?_,?_,?_⟩
             . simp +decide (maxDischargeDepth:=200) only[go_sem,e]
             . simp +decide (maxDischargeDepth:=200) only[go_sem]
             . simp only;omega
         . have c1:decide ((i:Int)<(l.length:Int))=false:=YA A0b;have e:l.take i=l:=YS A0b;simp +decide (maxDischargeDepth:=200) only[go_sem,eq,c1,e]
   . have k3:decide (k=3)=false:=YA h3;have eb:dU ⟨k,op,nm,vk,vn,vs,cs,cc,cr,ts,tc,tr⟩=[]:=by simp[dU,h2,h3]
     rw[eb] at hrl⊢;simp +decide (maxDischargeDepth:=200) only[go_sem,k2,k3];refine bc (X:={i:Nat//i<=l.length}) (fun i=>[(1,.ptr 1 0),(2,.sl true 0 [] none),(3,.sl (aR ([]) (l.take i.1)).isEmpty (kJ (aR ([]) (l.take i.1))) ((aR ([]) (l.take i.1)).map aa) none),(6,.x (.int .i64 ((i.1:Nat):Int)))]) (fun _=>[(1,[.x (.int .i64 k),.x (.string op),.x (.string nm),.x (.int .i64 vk),.x (.int .i64 vn),.x (.string vs),.x (.string cs),.x (.int .i64 cc),.x (.int .i64 cr),.x (.string ts),.x (.int .i64 tc),.x (.int .i64 tr),.sl nl sz (l.map aP) none])]) (fun i=>l.length-i.1) ⟨0,A0b⟩ A0x A0e (fun⟨i,hi0⟩=>?_);by_cases hi:i<l.length
     . obtain⟨c,hc1,hc2⟩:=nG hi;obtain rfl:=ko hs hi;obtain⟨hcc,hcl2⟩:=hrec i c hc1;obtain⟨k',op',nm',vk',vn',vs',cs',cc',cr',ts',tc',tr',l',nl',sz',hh',hl',hf',hs'⟩:=ed c;rw[hf'] at hc2 hcc;have c1:decide ((i:Int)<(l.length:Int))=true:=Yz A0b;have c2:(0:Int)<=(i:Int):=A0b
       have c4:=aD (i:=i) A0b;have ht:=aF hc1;have e:aR ([]) (l.take (i+1))=(aM c).foldl aQ (aR ([]) (l.take i)):=by rw[ht,eJ]
       have hal:=hrl i;generalize aR ([]) (l.take i)=acc at hal e;generalize aM c=q at hcl2 hcc e;simp +decide (maxDischargeDepth:=200) only[go_sem,eq,c1,c2,c4,hc2,hcc];refine bc (X:={j:Nat//j<=q.length}) (fun j=>[(1,.ptr 1 0),(2,.sl true 0 [] none),(3,.sl ((q.take j.1).foldl aQ acc).isEmpty (kJ ((q.take j.1).foldl aQ acc)) (((q.take j.1).foldl aQ acc).map aa) none),(6,.x (.int .i64 ((i:Nat):Int))),(7,.sl (q).isEmpty (kJ (q)) ((q).map aa) none),(8,.x (.int .i64 ((j.1:Nat):Int)))]) (fun _=>[(1,[.x (.int .i64 k),.x (.string op),.x (.string nm),.x (.int .i64 vk),.x (.int .i64 vn),.x (.string vs),.x (.string cs),.x (.int .i64 cc),.x (.int .i64 cr),.x (.string ts),.x (.int .i64 tc),.x (.int .i64 tr),.sl nl 13 (l.map aP) none])]) (fun j=>q.length-j.1) ⟨0,A0b⟩ A0r A0e (fun⟨j,hj0⟩=>?_);by_cases hj:j<q.length
       . obtain⟨p,hp⟩:=rk hj;have d1:decide ((j:Int)<(q.length:Int))=true:=Yz A0b;have d2:(0:Int)<=(j:Int):=A0b
         have d4:=aD (i:=j) A0b;have d5:=dB hp;have d6:=nN hp;have hfl:=dV (q.take j) acc;have d7:=fw ((q.take j).foldl aQ acc) p A0V;have d8:=fg hp acc;simp +decide (maxDischargeDepth:=200) only[go_sem,eq,d1,d2,d4,d5,d6,d7,bJ];refine⟨⟨j+1,A0b⟩,?_,?_,?_⟩
         . simp +decide (maxDischargeDepth:=200) only[go_sem,d8,d6]
         . simp +decide (maxDischargeDepth:=200) only[go_sem]
         . simp only;omega
       . have d1:decide ((j:Int)<(q.length:Int))=false:=YA A0b;have d9:q.take j=q:=YS A0b;simp +decide (maxDischargeDepth:=200) only[go_sem,eq,d1,d9,c4];refine⟨⟨i+1,A0b⟩,?_,?_,?_⟩
         . simp +decide (maxDischargeDepth:=200) only[go_sem,e]
         . simp +decide (maxDischargeDepth:=200) only[go_sem]
         . simp only;omega
     . have c1:decide ((i:Int)<(l.length:Int))=false:=YA A0b;have e:l.take i=l:=YS A0b;simp +decide (maxDischargeDepth:=200) only[go_sem,eq,c1,e]
end Go.Proofs.YtmfojhkjbkombaaGreat
