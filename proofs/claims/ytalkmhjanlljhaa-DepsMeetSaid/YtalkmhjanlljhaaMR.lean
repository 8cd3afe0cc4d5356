/- The reference's rows of cells that are read. -/
import Derived.Test.YtalkmhjanlljhaaML
import Derived.Test.YtalkmhjanlljhaaMPO
import Derived.Test.YtalkmhjanlljhaaMT
namespace Go.Proofs.Ytalkmhjanlljhaa
set_option linter.unusedSimpArgs false
set_option maxHeartbeats 8000000
set_option maxRecDepth 100000
open Go Go.RowKit
attribute [go_sem] Try.results9
theorem zn (l:List (Nat×(List V->Option V))) (M:Nat->Bool) (lp:List (Nat×(List V->Option (V×List (List V))))) (any:Nat->Bool) (k:Nat) (b:Nat->Option (List V)):aC (br l M lp (fun _=>false) any) k b=b:=rfl
attribute [go_sem] zn
def nN:List V->Option V
 | [.sl _ sz es none,.agg [.x (.string s),.x (.int .i64 c),.x (.int .i64 r)]]=>match cellsOf es with
   |some l=>if l.length<=1000000∧(sz=3∨l=[]) then some (.x (.bool (l.any fun p=>eA p (s,c,r)))) else none
   |none=>none
 |_=>none
theorem Cq {nl:Bool} {sz:Nat} {l:List C3} (s:ByteArray) (c r:Int) (h:l.length<=1000000) (hs:sz=3∨l=[]):nN [.sl nl sz (l.map aa) none,.agg [.x (.string s),.x (.int .i64 c),.x (.int .i64 r)]]=some (.x (.bool (l.any fun p=>eA p (s,c,r)))):=by unfold nN;simp only[ku];exact S4 ⟨h,hs⟩
theorem Cr:cm 9 nN:=by
 refine aE (E:=br [] (fun _=>false) [] (fun _=>false) (fun _=>false)) (k:=2) (ic _ _ _ _ _ trivial trivial) (by kernel_rfl) Try.func9 rfl (fun a w=>Try.call9 a w) Try.ntmps9 (by kernel_rfl) (by decide) (by decide) ?_;intro us r hF hdat;unfold nN at hF;split at hF
 case h_2=>cases hF
 rename_i nl sz es s c r;split at hF
 case h_2=>cases hF
 rename_i l hl;split at hF
 case isFalse=>cases hF
 rename_i hle;obtain⟨hle,hs3⟩:=hle;cases hF;refine⟨rfl,?_⟩;obtain rfl:=lQ hl;clear hl;have hsz:(((l.map aa).length:Nat):Int)=(l.length:Int):=by rw[io]
 simp +decide (maxDischargeDepth:=200) only[go_sem,Nat.reduceBEq];refine bu (X:={i:Nat//i<=l.length∧∀(j:Nat) (p:C3),j<i->l[j]?=some p->eA p (s,c,r)=false}) (fun i=>[(0,.sl nl sz (l.map aa) none),(3,.ptr 3 0),(4,.x (.bool false)),(5,.x (.int .i64 i.1))]) (fun _=>[(3,[.x (.string s),.x (.int .i64 c),.x (.int .i64 r)])]) (fun i=>l.length-i.1) ⟨0,by omega,fun j k hj=>by omega⟩ (by simp +decide only[go_sem];rfl) (by simp +decide only[go_sem]) (fun⟨i,hi,hz⟩=>?_);by_cases hil:i<l.length
 . obtain rfl:sz=3:=hs3.resolve_right (by rintro rfl;simp at hil);obtain⟨⟨s1,c1,r1⟩,hb⟩:=RK hil;have d0:decide ((i:Int)<(l.length:Int))=true:=Io (by omega);have k2:(0:Int)<=(i:Int):=by omega
   have k4:=bp (i:=i) (by omega);have k5:=ge hb;cases hq:eA (s1,c1,r1) (s,c,r)
   . simp +decide (maxDischargeDepth:=200) only[go_sem,Nat.reduceBEq,hsz,d0,k2,k4,k5,dB,RJ,hq];refine⟨⟨i+1,by omega,fun j p hj hp=>?_⟩,?_,?_,by simp only;omega⟩
     . by_cases hji:j=i
       . subst hji;rw[hb] at hp;cases hp;exact hq
       . exact hz j p (by omega) hp
     . simp +decide only[go_sem]
     . simp +decide only[go_sem]
   . have e:(l.any fun p=>eA p (s,c,r))=true:=T8.2 ⟨_,S9 hb,hq⟩;simp +decide (maxDischargeDepth:=200) only[go_sem,Nat.reduceBEq,hsz,d0,k2,k4,k5,dB,RJ,hq,e]
 . have d0:decide ((i:Int)<(l.length:Int))=false:=SP (by omega);have e:(l.any fun p=>eA p (s,c,r))=false:=by rw[List.any_eq_false];intro p hp;obtain⟨j,hj⟩:=TN hp;simp[hz j p (by have:=(iO.1 hj).1;omega) hj]
   simp +decide (maxDischargeDepth:=200) only[go_sem,Nat.reduceBEq,hsz,d0,e]
def ac (p q:C3):Bool:=gM p.1 p.2.1 p.2.2 q.1 q.2.1 q.2.2
def uM (l:List C3) (p:C3):Bool:=l.any fun q=>eA q p
def eO (l:List C3) (p:C3):List C3:=if uM l p=true then l else l.takeWhile (fun q=>ac q p)++p::l.dropWhile (fun q=>ac q p)
def GA (l:List C3):Nat:=if l.isEmpty then 0 else 3
def l8 (h:Hd):List C3:=(dC h.cs h.cc h.cr h.ts h.tc h.tr).getD []
def jC (h:Hd):List C3:=bif decide (h.k=2)&&bM h.cs h.cc h.cr then eO [] (h.cs,h.cc,h.cr) else bif decide (h.k=3) then (l8 h).foldl eO [] else []
mutual
def aJ:Nd->List C3
 | .leaf h=>jC h
 | .mk h l=>eP (jC h) l
def eP:List C3->List Nd->List C3
 |acc,[]=>acc
 |acc,n::l=>eP ((aJ n).foldl eO acc) l
end
theorem nO (l:List C3) (p:C3):(eO l p).length<=l.length+1:=by
 unfold eO;split
 . omega
 . have:(l.takeWhile (fun q=>ac q p)).length+(l.dropWhile (fun q=>ac q p)).length=l.length:=by rw[<-SQ,Ub]
   simp only[SQ,SV];omega
theorem rm (c:List C3):∀acc:List C3,(c.foldl eO acc).length<=acc.length+c.length:=by
 induction c with
 |nil=>intro acc;simp
 |cons p c ih=>intro acc;have:=ih (eO acc p);have:=nO acc p;simp only[Uh,SV];omega
theorem zo (h:Hd):(l8 h).length<=400:=by
 unfold l8 dC;split
 . rename_i hh;obtain⟨hok,h4⟩:=hh;obtain⟨_,_,_,hc,hr⟩:=jv.1 hok;rw[TQ,dm];have e1:h.tc-h.cc+1=(((h.tc-h.cc+1).toNat:Nat):Int):=by omega
   have e2:h.tr-h.cr+1=(((h.tr-h.cr+1).toNat:Nat):Int):=by omega
   unfold cI at h4;rw[e1,e2] at h4;have:(((h.tr-h.cr+1).toNat*(h.tc-h.cc+1).toNat:Nat):Int)<=400:=by push_cast;rw[Int.mul_comm];exact h4
   omega
 . simp
theorem ro (h:Hd):(jC h).length<=400:=by
 unfold jC;cases decide (h.k=2)&&bM h.cs h.cc h.cr with
 |true=>have:=nO [] (h.cs,h.cc,h.cr);simp only[VN];simp at this;omega
 | false=>
   cases decide (h.k=3) with
   |true=>have:=rm (l8 h) [];have:=zo h;simp only[VN,Vy];simp at*;omega
   |false=>simp
mutual
theorem jb:∀a:Nd,(aJ a).length<=400*kN a
 | .leaf h=>by have:=ro h;simp only[aJ,kN];omega
 | .mk h l=>by have:=l9 (jC h) l;have:=ro h;simp only[aJ,kN];omega
theorem l9:∀(acc:List C3) (l:List Nd),(eP acc l).length<=acc.length+400*cntL l
 |acc,[]=>by simp[eP]
 |acc,n::l=>by have:=l9 ((aJ n).foldl eO acc) l;have:=rm (aJ n) acc;have:=jb n;simp only[eP,cntL];omega
end
def ma (nd:Nd):Option V:=if kN nd<=400 then some (.sl (aJ nd).isEmpty (GA (aJ nd)) ((aJ nd).map aa) none) else none
theorem zp {nd:Nd} (h:kN nd<=400):ma nd=some (.sl (aJ nd).isEmpty (GA (aJ nd)) ((aJ nd).map aa) none):=S4 h
end Go.Proofs.Ytalkmhjanlljhaa
