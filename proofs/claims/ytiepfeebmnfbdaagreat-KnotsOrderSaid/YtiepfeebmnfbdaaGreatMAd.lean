/- MAd -/
import Derived.Test.YtiepfeebmnfbdaaGreatMPO
import Derived.Shelf.Strconv.AtoiAll
import Derived.Lib.Bytealg
namespace Go.Proofs.YtiepfeebmnfbdaaGreat
open Tryz
set_option linter.unusedSimpArgs false
set_option maxHeartbeats 2000000
set_option maxRecDepth 100000
open Go Go.RowKit
attribute [go_sem] results28 results40 results41 results53 results54 results75 results99 results105 results107 results108
theorem ZA{P:Prop}(h:P:=by have e:=pU hg;have h1:decide ((s.size:Int)<1)=false:=Io A0b;have h2:decide (8<(s.size:Int))=true:=ac0 A0b;simp +decide only[go_sem,h1,h2,e]):P:=h
theorem Z0{P:Prop}(h:P:=by have c1:decide ((i:Int)<s.size)=false:=Io A0b;have e:=sJ (s:=s) A0b A0b hs (fun j h1 h2=>hok j h1 A0b);simp +decide only[go_sem,c1,e]):P:=h
theorem Z1{P:Prop}(h:P:=by have e:=xc hi1 hi (show nD (eP s i)=false by simp[nD,hb,hb2]);simp +decide only[go_sem,c1,c2,c3,c4,hb,hb2,e,eC,fQ]):P:=h
theorem Z2{P:Prop}(h:P:=by simp +decide only[go_sem,f7,hn,bM,d1,d2,d3]):P:=h
theorem Z3{P:Prop}(h:P:=by have e:=ox hl;have h1:decide ((s.size:Int)<1)=true:=ac0 A0b;simp +decide only[go_sem,h1,e]):P:=h
theorem Z4{P:Prop}(h:P:=by simp +decide only[go_sem,h1,fj]):P:=h
theorem Z5{P:Prop}(h:P:=by simp +decide only[go_sem,h1,j8]):P:=h
theorem Z6{P:Prop}(h:P:=by have ds:=Io hs;rw[cU (QH hs)];simp +decide only[go_sem,cB,hR,hR',ds]):P:=h
def Sp(k n:Int)(s:ByteArray):Bool:=
 bif decide (k=0) then decide (n=0)&&decide (s=⟨#[]⟩) else bif decide (k=1) then decide (s=⟨#[]⟩) else bif decide (k=2) then decide (n=0)&&decide ((s.size:Int)<=200) else
  bif decide (k=3) then (decide (n=0)||decide (n=1))&&decide (s=⟨#[]⟩) else bif decide (k=4) then decide (1<=n)&&(decide (n<=7)&&decide (s=⟨#[]⟩)) else false
theorem F6:cg 107 eC:=by
 refine aE (E:=aI []) (k:=1) (aU _ trivial) A0a func107 rfl (fun a w=>call107 a w) ntmps107 A0a A0c A0c ?_;intro us r hF hdat;unfold eC at hF;split at hF
 case h_2=>cases hF
 rename_i b;cases hF;refine⟨rfl,?_⟩;by_cases h:97<=b
 . have h1:=ac0 h;exact Z4
 . have h1:=Io h;exact Z4
theorem F7:cg 108 fQ:=by
 refine aE (E:=aI []) (k:=1) (aU _ trivial) A0a func108 rfl (fun a w=>call108 a w) ntmps108 A0a A0c A0c ?_;intro us r hF hdat;unfold fQ at hF;split at hF
 case h_2=>cases hF
 rename_i b;cases hF;refine⟨rfl,?_⟩;by_cases h:48<=b
 . have h1:=ac0 h;exact Z5
 . have h1:=Io h;exact Z5
theorem Bl:cg 53 eC:=by
 refine aE (E:=aI []) (k:=1) (aU _ trivial) A0a func53 rfl (fun a w=>call53 a w) ntmps53 A0a A0c A0c ?_;intro us r hF hdat;unfold eC at hF;split at hF
 case h_2=>cases hF
 rename_i b;cases hF;refine⟨rfl,?_⟩;by_cases h:97<=b
 . have h1:=ac0 h;exact Z4
 . have h1:=Io h;exact Z4
theorem Bm:cg 54 fQ:=by
 refine aE (E:=aI []) (k:=1) (aU _ trivial) A0a func54 rfl (fun a w=>call54 a w) ntmps54 A0a A0c A0c ?_;intro us r hF hdat;unfold fQ at hF;split at hF
 case h_2=>cases hF
 rename_i b;cases hF;refine⟨rfl,?_⟩;by_cases h:48<=b
 . have h1:=ac0 h;exact Z5
 . have h1:=Io h;exact Z5
def nD(b:Int):Bool:=fj b||j8 b
def fh(s:ByteArray):Bool:=decide (1<=s.size)&&decide (s.size<=8)&&fj (eP s 0)&&(List.range s.size).all fun j=>j==0||nD (eP s j)
def f7:U->Option V
 |[.x (.string s)]=>some (.bool (fh s))
 |_=>none
variable{s:ByteArray}
theorem ox(h:s.size<1):fh s=false:=by simp[fh];omega
theorem pU(h:8<s.size):fh s=false:=by simp[fh];omega
theorem oy(h:fj (eP s 0)=false):fh s=false:=by simp[fh,h]
theorem xc{j:Nat}(h0:1<=j)(hj:j<s.size)(h:nD (eP s j)=false):fh s=false:=by
 cases hn:fh s with
 |false=>rfl
 |true=>simp only[fh,ado] at hn;have:=adr.1 hn.2 j (adU.2 hj);simp[h] at this;omega
theorem sJ(h1:1<=s.size)(h8:s.size<=8)(hs:fj (eP s 0)=true)(h:∀j:Nat,1<=j->j<s.size->nD (eP s j)=true):fh s=true:=by
 simp only[fh,ado,adS];refine⟨⟨⟨h1,h8⟩,hs⟩,adr.2 fun j hj=>?_⟩;rw[adU] at hj;by_cases h0:j=0
 . simp[h0]
 . simp[h j A0b hj]
theorem JX : cg 105 f7:=by
 refine aE (E:=aI [(107,eC),(108,fQ)]) (k:=1) (aU _ ⟨F6,F7,trivial⟩) A0a func105 rfl (fun a w=>call105 a w) ntmps105 A0a A0c A0c ?_;intro us r hF hdat;unfold f7 at hF;split at hF
 case h_2=>cases hF
 rename_i s;cases hF;refine⟨rfl,?_⟩;by_cases hl:s.size<1
 . exact Z3
 . by_cases hg:8<s.size
   . exact ZA
   . have h1 :decide ((s.size:Int)<1)=false:=Io A0b;have h2:decide (8<(s.size:Int))=false:=Io A0b;have h3:(0:Int)<(s.size:Int):=A0b
     cases hs:fj (eP s 0)
     . have e:=oy hs;simp +decide only[go_sem,h1,h2,h3,hs,e,eC]
     . simp +decide only[go_sem,h1,h2,h3,hs,eC];refine aT (X:={i:Nat//1<=i∧i<=s.size∧∀j:Nat,1<=j->j<i->nD (eP s j)=true}) (fun i=>[(0,.x (.string s)),(3,.i i.1)]) (fun _=>[]) (fun i=>s.size-i.1) ⟨1,A0b,A0b,fun j h1 h2=>by omega⟩ A1i trivial (fun⟨i,hi1,hi2,hok⟩=>?_);by_cases hi:i<s.size
       . have c1:decide ((i:Int)<s.size)=true:=ac0 A0b;have c2:(0:Int)<=(i:Int):=A0b
         have c3:(i:Int)<s.size:=A0b
         have c4:=ax (i:=i) A0b;cases hb:fj (eP s i)
         . cases hb2:j8 (eP s i)
           . exact Z1
           . simp +decide only[go_sem,c1,c2,c3,c4,hb,hb2,eC,fQ];refine⟨⟨i+1,A0b,A0b,fun j h1 h2=>?_⟩,?_,trivial,?_⟩
             rotate_left
             . simp +decide only[go_sem]
             . simp only;omega
             by_cases hj:j=i
             . subst hj;simp[nD,hb2]
             . exact hok j h1 A0b
         . simp +decide only[go_sem,c1,c2,c3,c4,hb,eC,fQ];refine⟨⟨i+1,A0b,A0b,fun j h1 h2=>?_⟩,?_,trivial,?_⟩
           rotate_left
           . simp +decide only[go_sem]
           . simp only;omega
           by_cases hj:j=i
           . subst hj;simp[nD,hb]
           . exact hok j h1 A0b
       . exact Z0
theorem F8 : cg 40 f7:=by
 refine aE (E:=aI [(53,eC),(54,fQ)]) (k:=1) (aU _ ⟨Bl,Bm,trivial⟩) A0a func40 rfl (fun a w=>call40 a w) ntmps40 A0a A0c A0c ?_;intro us r hF hdat;unfold f7 at hF;split at hF
 case h_2=>cases hF
 rename_i s;cases hF;refine⟨rfl,?_⟩;by_cases hl:s.size<1
 . exact Z3
 . by_cases hg:8<s.size
   . exact ZA
   . have h1 :decide ((s.size:Int)<1)=false:=Io A0b;have h2:decide (8<(s.size:Int))=false:=Io A0b;have h3:(0:Int)<(s.size:Int):=A0b
     cases hs:fj (eP s 0)
     . have e:=oy hs;simp +decide only[go_sem,h1,h2,h3,hs,e,eC]
     . simp +decide only[go_sem,h1,h2,h3,hs,eC];refine aT (X:={i:Nat//1<=i∧i<=s.size∧∀j:Nat,1<=j->j<i->nD (eP s j)=true}) (fun i=>[(0,.x (.string s)),(3,.i i.1)]) (fun _=>[]) (fun i=>s.size-i.1) ⟨1,A0b,A0b,fun j h1 h2=>by omega⟩ A1i trivial (fun⟨i,hi1,hi2,hok⟩=>?_);by_cases hi:i<s.size
       . have c1:decide ((i:Int)<s.size)=true:=ac0 A0b;have c2:(0:Int)<=(i:Int):=A0b
         have c3:(i:Int)<s.size:=A0b
         have c4:=ax (i:=i) A0b;cases hb:fj (eP s i)
         . cases hb2:j8 (eP s i)
           . exact Z1
           . simp +decide only[go_sem,c1,c2,c3,c4,hb,hb2,eC,fQ];refine⟨⟨i+1,A0b,A0b,fun j h1 h2=>?_⟩,?_,trivial,?_⟩
             rotate_left
             . simp +decide only[go_sem]
             . simp only;omega
             by_cases hj:j=i
             . subst hj;simp[nD,hb2]
             . exact hok j h1 A0b
         . simp +decide only[go_sem,c1,c2,c3,c4,hb,eC,fQ];refine⟨⟨i+1,A0b,A0b,fun j h1 h2=>?_⟩,?_,trivial,?_⟩
           rotate_left
           . simp +decide only[go_sem]
           . simp only;omega
           by_cases hj:j=i
           . subst hj;simp[nD,hb]
           . exact hok j h1 A0b
       . exact Z0
def bM(s:ByteArray)(c r:Int):Bool:=fh s&&decide (1<=c)&&decide (c<=702)&&decide (1<=r)&&decide (r<=999)
variable{c r:Int}
theorem eg:bM s c r=true↔fh s=true∧1<=c∧c<=702∧1<=r∧r<=999:=by simp[bM,and_assoc]
abbrev cl(s:ByteArray)(c r:Int):V:= .agg [.x (.string s),.i c,.i r]
attribute [go_sem] cl
def cB:U->Option V
 |[.agg [.x (.string s),.x (.int .i64 c),.x (.int .i64 r)]]=>some (.bool (bM s c r))
 |_=>none
theorem F9:cg 99 cB:=by
 refine aE (E:=aI [(105,f7)]) (k:=1) (aU _ ⟨JX,trivial⟩) A0a func99 rfl (fun a w=>call99 a w) ntmps99 A0a A0c A0c ?_;intro us r hF hdat;unfold cB at hF;split at hF
 case h_2=>cases hF
 rename_i s c r;cases hF;refine⟨rfl,?_⟩;cases hn:fh s
 . simp +decide only[go_sem,f7,hn,bM]
 . by_cases h1:1<=c
   . have d1:=ac0 h1;by_cases h2:c<=702
     . have d2:=ac0 h2;by_cases h3:1<=r
       . have d3:=ac0 h3;exact Z2
       . have d3:=Io h3;exact Z2
     . have d2:=Io h2;simp +decide only[go_sem,f7,hn,bM,d1,d2]
   . have d1:=Io h1;simp +decide only[go_sem,f7,hn,bM,d1]
theorem pV:cg 28 cB:=by
 refine aE (E:=aI [(40,f7)]) (k:=1) (aU _ ⟨F8,trivial⟩) A0a func28 rfl (fun a w=>call28 a w) ntmps28 A0a A0c A0c ?_;intro us r hF hdat;unfold cB at hF;split at hF
 case h_2=>cases hF
 rename_i s c r;cases hF;refine⟨rfl,?_⟩;cases hn:fh s
 . simp +decide only[go_sem,f7,hn,bM]
 . by_cases h1:1<=c
   . have d1:=ac0 h1;by_cases h2:c<=702
     . have d2:=ac0 h2;by_cases h3:1<=r
       . have d3:=ac0 h3;exact Z2
       . have d3:=Io h3;exact Z2
     . have d2:=Io h2;simp +decide only[go_sem,f7,hn,bM,d1,d2]
   . have d1:=Io h1;simp +decide only[go_sem,f7,hn,bM,d1]
def lV(s:ByteArray)(c r:Int)(s':ByteArray)(c' r':Int):Bool:=bM s c r&&bM s' c' r'&&decide (s=s')&&decide (c<=c')&&decide (r<=r')
def cE(c r c' r':Int):Int:=(c'-c+1)*(r'-r+1)
variable{s':ByteArray}{c' r':Int}
theorem jB:lV s c r s' c' r'=true↔bM s c r=true∧bM s' c' r'=true∧s=s'∧c<=c'∧r<=r':=by simp[lV,and_assoc]
theorem QF(h:bM s c r=false):lV s c r s' c' r'=false:=by simp[lV,h]
theorem QG(h:bM s' c' r'=false):lV s c r s' c' r'=false:=by simp[lV,h]
theorem QH(h: ¬s=s'):lV s c r s' c' r'=false:=by simp[lV,h]
theorem QI(h: ¬c<=c'):lV s c r s' c' r'=false:=by simp[lV,h]
theorem QK(h: ¬r<=r'):lV s c r s' c' r'=false:=by simp[lV,h]
def DM(s:ByteArray)(c r:Int)(s':ByteArray)(c' r':Int):V:=
 if lV s c r s' c' r'=true then .tup [.i (cE c r c' r'),.bool true] else .tup [.i 0,.bool false]
theorem cU(h:lV s c r s' c' r'=false):DM s c r s' c' r'= .tup [.i 0,.bool false]:=by unfold DM;rw[adq (by rw[h];decide)]
theorem gy(h:lV s c r s' c' r'=true):DM s c r s' c' r'= .tup [.i (cE c r c' r'),.bool true]:=adl h
theorem oR(h1:1<=c)(h2:c'<=702)(h3:1<=r)(h4:r'<=999)(h5:c<=c')(h6:r<=r'):1<=cE c r c' r'∧cE c r c' r'<=1000000:=by
 unfold cE;obtain⟨a,ha⟩:∃a:Nat,c'-c=a:=⟨(c'-c).toNat,A0b⟩;obtain⟨b,hb⟩:∃b:Nat,r'-r=b:=⟨(r'-r).toNat,A0b⟩;rw[ha,hb];have h:(a+1)*(b+1)<=702*999:=agq A0b A0b;have h':1*1<=(a+1)*(b+1):=agq A0b A0b;have e:((a:Int)+1)*((b:Int)+1)=(((a+1)*(b+1):Nat):Int):=by push_cast;rfl
 rw[e];omega
def eR:U->Option V
 |[.agg [.x (.string s),.x (.int .i64 c),.x (.int .i64 r),.x (.string s'),.x (.int .i64 c'),.x (.int .i64 r')]]=>some (DM s c r s' c' r')
 |_=>none
theorem xd:cg 75 eR:=by
 refine aE (E:=aI [(99,cB)]) (k:=1) (aU _ ⟨F9,trivial⟩) A0a func75 rfl (fun a w=>call75 a w) ntmps75 A0a A0c A0c ?_;intro us r hF hdat;unfold eR at hF;split at hF
 case h_2=>cases hF
 rename_i s c r s' c' r';cases hF;refine⟨rfl,?_⟩;cases hR:bM s c r
 . rw[cU (QF hR)];simp +decide only[go_sem,cB,hR]
 . cases hR':bM s' c' r'
   . rw[cU (QG hR')];simp +decide only[go_sem,cB,hR,hR']
   . by_cases hs:s=s'
     . obtain⟨_,b1,b2,b3,b4⟩:=eg.1 hR;obtain⟨_,b1',b2',b3',b4'⟩:=eg.1 hR';have ds:=ac0 hs;have w1:az .i64 (c'-c)=c'-c:=ak A0j;have w2:az .i64 (c'-c+1)=c'-c+1:=ak A0j;have w3:az .i64 (r'-r)=r'-r:=ak A0j;have w4:az .i64 (r'-r+1)=r'-r+1:=ak A0j;by_cases hc:c<=c'
       . by_cases hr:r<=r'
         . have ha:=oR b1 b2' b3 b4' hc hr;have w5:az .i64 ((c'-c+1)*(r'-r+1))=cE c r c' r':=ak A1A;rw[gy (jB.2 ⟨hR,hR',hs,hc,hr⟩)];have d1:decide (c'-c+1<1)=false:=Io A0b;have d2:decide (r'-r+1<1)=false:=Io A0b;simp +decide only[go_sem,cB,hR,hR',ds,w1,w2,w3,w4,w5,d1,d2]
         . have d1:decide (c'-c+1<1)=false:=Io A0b;have d2:decide (r'-r+1<1)=true:=ac0 A0b;rw[cU (QK hr)];simp +decide only[go_sem,cB,hR,hR',ds,w1,w2,w3,w4,d1,d2]
       . have d1:decide (c'-c+1<1)=true:=ac0 A0b;rw[cU (QI hc)];simp +decide only[go_sem,cB,hR,hR',ds,w1,w2,w3,w4,d1]
     . exact Z6
theorem Ga:cg 41 eR:=by
 refine aE (E:=aI [(28,cB)]) (k:=1) (aU _ ⟨pV,trivial⟩) A0a func41 rfl (fun a w=>call41 a w) ntmps41 A0a A0c A0c ?_;intro us r hF hdat;unfold eR at hF;split at hF
 case h_2=>cases hF
 rename_i s c r s' c' r';cases hF;refine⟨rfl,?_⟩;cases hR:bM s c r
 . rw[cU (QF hR)];simp +decide only[go_sem,cB,hR]
 . cases hR':bM s' c' r'
   . rw[cU (QG hR')];simp +decide only[go_sem,cB,hR,hR']
   . by_cases hs:s=s'
     . obtain⟨_,b1,b2,b3,b4⟩:=eg.1 hR;obtain⟨_,b1',b2',b3',b4'⟩:=eg.1 hR';have ds:=ac0 hs;have w1:az .i64 (c'-c)=c'-c:=ak A0j;have w2:az .i64 (c'-c+1)=c'-c+1:=ak A0j;have w3:az .i64 (r'-r)=r'-r:=ak A0j;have w4:az .i64 (r'-r+1)=r'-r+1:=ak A0j;by_cases hc:c<=c'
       . by_cases hr:r<=r'
         . have ha:=oR b1 b2' b3 b4' hc hr;have w5:az .i64 ((c'-c+1)*(r'-r+1))=cE c r c' r':=ak A1A;rw[gy (jB.2 ⟨hR,hR',hs,hc,hr⟩)];have d1:decide (c'<c)=false:=Io A0b;have d2:decide (r'<r)=false:=Io A0b;simp +decide only[go_sem,cB,hR,hR',ds,w1,w2,w3,w4,w5,d1,d2]
         . have d1:decide (c'<c)=false:=Io A0b;have d2:decide (r'<r)=true:=ac0 A0b;rw[cU (QK hr)];simp +decide only[go_sem,cB,hR,hR',ds,d1,d2]
       . have d1:decide (c'<c)=true:=ac0 A0b;rw[cU (QI hc)];simp +decide only[go_sem,cB,hR,hR',ds,d1]
     . exact Z6
def gr(b:UInt8):Bool:=decide (65<=b.toNat)&&decide (b.toNat<=90)
theorem xe(h:fh s=true):s.size<=8:=by simp only[fh,ado,adS] at h;exact h.1.1.2
