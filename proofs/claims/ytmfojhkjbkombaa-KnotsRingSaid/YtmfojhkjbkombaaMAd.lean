/- Which values may be: package value and the reference, as functions of plain data. -/
import Derived.Test.YtmfojhkjbkombaaMPO
import Derived.Shelf.Strconv.AtoiAll
import Derived.KernelRfl
import Derived.Lib.Bytealg
namespace Go.Proofs.Ytmfojhkjbkombaa
set_option linter.unusedSimpArgs false
set_option maxHeartbeats 2000000
set_option maxRecDepth 100000
open Go Go.RowKit
attribute [go_sem] Try.results56 Try.results80 Try.results86 Try.results88 Try.results89
def NP (k n:Int) (s:ByteArray):Bool:=
 bif decide (k=0) then decide (n=0)&&decide (s=⟨#[]⟩) else bif decide (k=1) then decide (s=⟨#[]⟩) else bif decide (k=2) then decide (n=0)&&decide ((s.size:Int)<=200) else
  bif decide (k=3) then (decide (n=0)||decide (n=1))&&decide (s=⟨#[]⟩) else bif decide (k=4) then decide (1<=n)&&(decide (n<=7)&&decide (s=⟨#[]⟩)) else false
theorem CY:dA 88 iQ:=by
 refine aV (E:=aF []) (k:=1) (bO _ trivial) A0a Try.func88 rfl (fun a w=>Try.call88 a w) Try.ntmps88 A0a A0b A0b ?_;intro us r hF hdat;unfold iQ at hF;split at hF
 case h_2=>cases hF
 rename_i b;cases hF;refine⟨rfl,?_⟩;by_cases h:97<=b
 . have h1:=Zk h;simp +decide (maxDischargeDepth:=200) only[go_sem,h1,ia]
 . have h1:=Zl h;simp +decide (maxDischargeDepth:=200) only[go_sem,h1,ia]
theorem CZ:dA 89 kY:=by
 refine aV (E:=aF []) (k:=1) (bO _ trivial) A0a Try.func89 rfl (fun a w=>Try.call89 a w) Try.ntmps89 A0a A0b A0b ?_;intro us r hF hdat;unfold kY at hF;split at hF
 case h_2=>cases hF
 rename_i b;cases hF;refine⟨rfl,?_⟩;by_cases h:48<=b
 . have h1:=Zk h;simp +decide (maxDischargeDepth:=200) only[go_sem,h1,nC]
 . have h1:=Zl h;simp +decide (maxDischargeDepth:=200) only[go_sem,h1,nC]
def ub (b:Int):Bool:=ia b||nC b
def eC (s:ByteArray):Bool:=decide (1<=s.size)&&decide (s.size<=8)&&ia (fj s 0)&&(List.range s.size).all fun j=>j==0||ub (fj s j)
def mh:List V->Option V
 |[.x (.string s)]=>some (.x (.bool (eC s)))
 |_=>none
variable {s:ByteArray}
theorem uc (h:s.size<1):eC s=false:=by simp[eC];omega
theorem yq (h:8<s.size):eC s=false:=by simp[eC];omega
theorem ud (h:ia (fj s 0)=false):eC s=false:=by simp[eC,h]
theorem Gw {j:Nat} (h0:1<=j) (hj:j<s.size) (h:ub (fj s j)=false):eC s=false:=by
 cases hn:eC s with
 |false=>rfl
 |true=>simp only[eC,Zq] at hn;have:=Zw.1 hn.2 j (ZT.2 hj);simp[h] at this;omega
theorem C0 (h1:1<=s.size) (h8:s.size<=8) (hs:ia (fj s 0)=true) (h:∀j:Nat,1<=j->j<s.size->ub (fj s j)=true):eC s=true:=by
 simp only[eC,Zq,ZV];refine⟨⟨⟨h1,h8⟩,hs⟩,Zw.2 fun j hj=>?_⟩;rw[ZT] at hj;by_cases h0:j=0
 . simp[h0]
 . simp[h j A0c hj]
theorem Gx : dA 86 mh:=by
 refine aV (E:=aF [(88,iQ),(89,kY)]) (k:=1) (bO _ ⟨CY,CZ,trivial⟩) A0a Try.func86 rfl (fun a w=>Try.call86 a w) Try.ntmps86 A0a A0b A0b ?_;intro us r hF hdat;unfold mh at hF;split at hF
 case h_2=>cases hF
 rename_i s;cases hF;refine⟨rfl,?_⟩;by_cases hl:s.size<1
 . have e:=uc hl;have h1:decide ((s.size:Int)<1)=true:=Zk A0c;simp +decide (maxDischargeDepth:=200) only[go_sem,h1,e]
 . by_cases hg:8<s.size
   . have e:=yq hg;have h1:decide ((s.size:Int)<1)=false:=Zl A0c;have h2:decide (8<(s.size:Int))=true:=Zk A0c;simp +decide (maxDischargeDepth:=200) only[go_sem,h1,h2,e]
   . have h1 :decide ((s.size:Int)<1)=false:=Zl A0c;have h2:decide (8<(s.size:Int))=false:=Zl A0c;have h3:(0:Int)<(s.size:Int):=A0c
     cases hs:ia (fj s 0)
     . have e:=ud hs;simp +decide (maxDischargeDepth:=200) only[go_sem,h1,h2,h3,hs,e,iQ]
     . simp +decide (maxDischargeDepth:=200) only[go_sem,h1,h2,h3,hs,iQ];refine dt (X:={i:Nat//1<=i∧i<=s.size∧∀j:Nat,1<=j->j<i->ub (fj s j)=true}) (fun i=>[(0,.x (.string s)),(3,.x (.int .i64 i.1))]) (fun _=>[]) (fun i=>s.size-i.1) ⟨1,A0c,A0c,fun j h1 h2=>by omega⟩ (by simp +decide only[go_sem];rfl) trivial (fun⟨i,hi1,hi2,hok⟩=>?_);by_cases hi:i<s.size
       . have c1:decide ((i:Int)<(s.size:Int))=true:=Zk A0c;have c2:(0:Int)<=(i:Int):=A0c
         have c3:(i:Int)<(s.size:Int):=A0c
         have c4:=aQ (i:=i) A0c;cases hb:ia (fj s i)
         . cases hb2:nC (fj s i)
           . have e:=Gw hi1 hi (show ub (fj s i)=false by simp[ub,hb,hb2]);simp +decide (maxDischargeDepth:=200) only[go_sem,c1,c2,c3,c4,hb,hb2,e,iQ,kY]
           . simp +decide (maxDischargeDepth:=200) only[go_sem,c1,c2,c3,c4,hb,hb2,iQ,kY];refine⟨⟨i+1,A0c,A0c,fun j h1 h2=>?_⟩,?_,trivial,?_⟩
             rotate_left
             . simp +decide only[go_sem]
             . simp only;omega
             by_cases hj:j=i
             . subst hj;simp[ub,hb2]
             . exact hok j h1 A0c
         . simp +decide (maxDischargeDepth:=200) only[go_sem,c1,c2,c3,c4,hb,iQ,kY];refine⟨⟨i+1,A0c,A0c,fun j h1 h2=>?_⟩,?_,trivial,?_⟩
           rotate_left
           . simp +decide only[go_sem]
           . simp only;omega
           by_cases hj:j=i
           . subst hj;simp[ub,hb]
           . exact hok j h1 A0c
       . have c1:decide ((i:Int)<(s.size:Int))=false:=Zl A0c;have e:=C0 (s:=s) A0c A0c hs (fun j h1 h2=>hok j h1 A0c);simp +decide (maxDischargeDepth:=200) only[go_sem,c1,e]
def bV (s:ByteArray) (c r:Int):Bool:=eC s&&decide (1<=c)&&decide (c<=702)&&decide (1<=r)&&decide (r<=999)
variable {c r:Int}
theorem fv:bV s c r=true↔eC s=true∧1<=c∧c<=702∧1<=r∧r<=999:=by simp[bV,and_assoc]
abbrev cl (s:ByteArray) (c r:Int):V:= .agg [.x (.string s),.x (.int .i64 c),.x (.int .i64 r)]
attribute [go_sem] cl
def eX:List V->Option V
 |[.agg [.x (.string s),.x (.int .i64 c),.x (.int .i64 r)]]=>some (.x (.bool (bV s c r)))
 |_=>none
theorem C1:dA 80 eX:=by
 refine aV (E:=aF [(86,mh)]) (k:=1) (bO _ ⟨Gx,trivial⟩) A0a Try.func80 rfl (fun a w=>Try.call80 a w) Try.ntmps80 A0a A0b A0b ?_;intro us r hF hdat;unfold eX at hF;split at hF
 case h_2=>cases hF
 rename_i s c r;cases hF;refine⟨rfl,?_⟩;cases hn:eC s
 . simp +decide (maxDischargeDepth:=200) only[go_sem,mh,hn,bV]
 . by_cases h1:1<=c
   . have d1:=Zk h1;by_cases h2:c<=702
     . have d2:=Zk h2;by_cases h3:1<=r
       . have d3:=Zk h3;simp +decide (maxDischargeDepth:=200) only[go_sem,mh,hn,bV,d1,d2,d3]
       . have d3:=Zl h3;simp +decide (maxDischargeDepth:=200) only[go_sem,mh,hn,bV,d1,d2,d3]
     . have d2:=Zl h2;simp +decide (maxDischargeDepth:=200) only[go_sem,mh,hn,bV,d1,d2]
   . have d1:=Zl h1;simp +decide (maxDischargeDepth:=200) only[go_sem,mh,hn,bV,d1]
def j7 (s:ByteArray) (c r:Int) (s':ByteArray) (c' r':Int):Bool:=bV s c r&&bV s' c' r'&&decide (s=s')&&decide (c<=c')&&decide (r<=r')
def cV (c r c' r':Int):Int:=(c'-c+1)*(r'-r+1)
variable {s':ByteArray} {c' r':Int}
theorem ku:j7 s c r s' c' r'=true↔bV s c r=true∧bV s' c' r'=true∧s=s'∧c<=c'∧r<=r':=by simp[j7,and_assoc]
theorem SO (h:bV s c r=false):j7 s c r s' c' r'=false:=by simp[j7,h]
theorem SP (h:bV s' c' r'=false):j7 s c r s' c' r'=false:=by simp[j7,h]
theorem SQ (h: ¬s=s'):j7 s c r s' c' r'=false:=by simp[j7,h]
theorem SR (h: ¬c<=c'):j7 s c r s' c' r'=false:=by simp[j7,h]
theorem SS (h: ¬r<=r'):j7 s c r s' c' r'=false:=by simp[j7,h]
def AJ (s:ByteArray) (c r:Int) (s':ByteArray) (c' r':Int):V:=
 if j7 s c r s' c' r'=true then .tup [.x (.int .i64 (cV c r c' r')),.x (.bool true)] else .tup [.x (.int .i64 0),.x (.bool false)]
theorem dQ (h:j7 s c r s' c' r'=false):AJ s c r s' c' r'= .tup [.x (.int .i64 0),.x (.bool false)]:=by unfold AJ;rw[Zs (by rw[h];decide)]
theorem ji (h:j7 s c r s' c' r'=true):AJ s c r s' c' r'= .tup [.x (.int .i64 (cV c r c' r')),.x (.bool true)]:=Zp h
theorem AK (h1:1<=c) (h2:c'<=702) (h3:1<=r) (h4:r'<=999) (h5:c<=c') (h6:r<=r'):1<=cV c r c' r'∧cV c r c' r'<=1000000:=by
 unfold cV;obtain⟨a,ha⟩:∃a:Nat,c'-c=a:=⟨(c'-c).toNat,A0c⟩;obtain⟨b,hb⟩:∃b:Nat,r'-r=b:=⟨(r'-r).toNat,A0c⟩;rw[ha,hb];have h:(a+1)*(b+1)<=702*999:=Nat.mul_le_mul A0c A0c;have h':1*1<=(a+1)*(b+1):=Nat.mul_le_mul A0c A0c;have e:((a:Int)+1)*((b:Int)+1)=(((a+1)*(b+1):Nat):Int):=by push_cast;rfl
 rw[e];omega
def fY:List V->Option V
 |[.agg [.x (.string s),.x (.int .i64 c),.x (.int .i64 r),.x (.string s'),.x (.int .i64 c'),.x (.int .i64 r')]]=>some (AJ s c r s' c' r')
 |_=>none
theorem ue:dA 56 fY:=by
 refine aV (E:=aF [(80,eX)]) (k:=1) (bO _ ⟨C1,trivial⟩) A0a Try.func56 rfl (fun a w=>Try.call56 a w) Try.ntmps56 A0a A0b A0b ?_;intro us r hF hdat;unfold fY at hF;split at hF
 case h_2=>cases hF
 rename_i s c r s' c' r';cases hF;refine⟨rfl,?_⟩;cases hR:bV s c r
 . rw[dQ (SO hR)];simp +decide (maxDischargeDepth:=200) only[go_sem,eX,hR]
 . cases hR':bV s' c' r'
   . rw[dQ (SP hR')];simp +decide (maxDischargeDepth:=200) only[go_sem,eX,hR,hR']
   . by_cases hs:s=s'
     . obtain⟨_,b1,b2,b3,b4⟩:=fv.1 hR;obtain⟨_,b1',b2',b3',b4'⟩:=fv.1 hR';have ds:=Zk hs;have w1:aw .i64 (c'-c)=c'-c:=aj A0j;have w2:aw .i64 (c'-c+1)=c'-c+1:=aj A0j;have w3:aw .i64 (r'-r)=r'-r:=aj A0j;have w4:aw .i64 (r'-r+1)=r'-r+1:=aj A0j;by_cases hc:c<=c'
       . by_cases hr:r<=r'
         . have ha:=AK b1 b2' b3 b4' hc hr;have w5:aw .i64 ((c'-c+1)*(r'-r+1))=cV c r c' r':=aj (by show inR (cV c r c' r');unfold inR;omega);rw[ji (ku.2 ⟨hR,hR',hs,hc,hr⟩)];have d1:decide (c'-c+1<1)=false:=Zl A0c;have d2:decide (r'-r+1<1)=false:=Zl A0c;simp +decide (maxDischargeDepth:=200) only[go_sem,eX,hR,hR',ds,w1,w2,w3,w4,w5,d1,d2]
         . have d1:decide (c'-c+1<1)=false:=Zl A0c;have d2:decide (r'-r+1<1)=true:=Zk A0c;rw[dQ (SS hr)];simp +decide (maxDischargeDepth:=200) only[go_sem,eX,hR,hR',ds,w1,w2,w3,w4,d1,d2]
       . have d1:decide (c'-c+1<1)=true:=Zk A0c;rw[dQ (SR hc)];simp +decide (maxDischargeDepth:=200) only[go_sem,eX,hR,hR',ds,w1,w2,w3,w4,d1]
     . have ds:=Zl hs;rw[dQ (SQ hs)];simp +decide (maxDischargeDepth:=200) only[go_sem,eX,hR,hR',ds]
def gr (b:UInt8):Bool:=decide (65<=b.toNat)&&decide (b.toNat<=90)
theorem Gy (h:eC s=true):s.size<=8:=by simp only[eC,Zq,ZV] at h;exact h.1.1.2
end Go.Proofs.Ytmfojhkjbkombaa
