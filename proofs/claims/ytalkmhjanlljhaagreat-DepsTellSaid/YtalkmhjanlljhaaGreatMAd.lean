/- Which values may be: package value and the reference, as functions of plain data. -/
import Derived.Test.YtalkmhjanlljhaaGreatMPO
import Derived.Shelf.Strconv.AtoiAll
import Derived.KernelRfl
import Derived.Lib.Bytealg
namespace Go.Proofs.YtalkmhjanlljhaaGreat
set_option linter.unusedSimpArgs false
set_option maxHeartbeats 2000000
set_option maxRecDepth 100000
open Go Go.RowKit
attribute [go_sem] Tryz.results58 Tryz.results81 Tryz.results84 Tryz.results85 Tryz.results113 Tryz.results114 Tryz.results115 Tryz.results130 Tryz.results137 Tryz.results138
theorem A7:bM 137 dC:=by
 refine av (E:=au []) (k:=1) (aM _ trivial) (by kernel_rfl) Tryz.func137 rfl (fun a w=>Tryz.call137 a w) Tryz.ntmps137 (by kernel_rfl) (by decide) (by decide) ?_;intro us r hF hdat;unfold dC at hF;split at hF
 case h_2=>cases hF
 rename_i b;cases hF;refine⟨rfl,?_⟩;by_cases h:97<=b
 . have h1:=iO h;simp +decide (maxDischargeDepth:=200) only[go_sem,h1,eA]
 . have h1:=tl h;simp +decide (maxDischargeDepth:=200) only[go_sem,h1,eA]
theorem A8:bM 138 eZ:=by
 refine av (E:=au []) (k:=1) (aM _ trivial) (by kernel_rfl) Tryz.func138 rfl (fun a w=>Tryz.call138 a w) Tryz.ntmps138 (by kernel_rfl) (by decide) (by decide) ?_;intro us r hF hdat;unfold eZ at hF;split at hF
 case h_2=>cases hF
 rename_i b;cases hF;refine⟨rfl,?_⟩;by_cases h:48<=b
 . have h1:=iO h;simp +decide (maxDischargeDepth:=200) only[go_sem,h1,iR]
 . have h1:=tl h;simp +decide (maxDischargeDepth:=200) only[go_sem,h1,iR]
theorem wL:bM 114 dC:=by
 refine av (E:=au []) (k:=1) (aM _ trivial) (by kernel_rfl) Tryz.func114 rfl (fun a w=>Tryz.call114 a w) Tryz.ntmps114 (by kernel_rfl) (by decide) (by decide) ?_;intro us r hF hdat;unfold dC at hF;split at hF
 case h_2=>cases hF
 rename_i b;cases hF;refine⟨rfl,?_⟩;by_cases h:97<=b
 . have h1:=iO h;simp +decide (maxDischargeDepth:=200) only[go_sem,h1,eA]
 . have h1:=tl h;simp +decide (maxDischargeDepth:=200) only[go_sem,h1,eA]
theorem wM:bM 115 eZ:=by
 refine av (E:=au []) (k:=1) (aM _ trivial) (by kernel_rfl) Tryz.func115 rfl (fun a w=>Tryz.call115 a w) Tryz.ntmps115 (by kernel_rfl) (by decide) (by decide) ?_;intro us r hF hdat;unfold eZ at hF;split at hF
 case h_2=>cases hF
 rename_i b;cases hF;refine⟨rfl,?_⟩;by_cases h:48<=b
 . have h1:=iO h;simp +decide (maxDischargeDepth:=200) only[go_sem,h1,iR]
 . have h1:=tl h;simp +decide (maxDischargeDepth:=200) only[go_sem,h1,iR]
def lz (b:Int):Bool:=eA b||iR b
def ew (s:ByteArray):Bool:=decide (1<=s.size)&&decide (s.size<=8)&&eA (ea s 0)&&(List.range s.size).all fun j=>j==0||lz (ea s j)
def fg:List V->Option V
 |[.x (.string s)]=>some (.x (.bool (ew s)))
 |_=>none
variable {s:ByteArray}
theorem mc (h:s.size<1):ew s=false:=by simp[ew];omega
theorem nE (h:8<s.size):ew s=false:=by simp[ew];omega
theorem me (h:eA (ea s 0)=false):ew s=false:=by simp[ew,h]
theorem tb {j:Nat} (h0:1<=j) (hj:j<s.size) (h:lz (ea s j)=false):ew s=false:=by
 cases hn:ew s with
 |false=>rfl
 |true=>simp only[ew,U6] at hn;have:=U8.1 hn.2 j (VM.2 hj);simp[h] at this;omega
theorem pw (h1:1<=s.size) (h8:s.size<=8) (hs:eA (ea s 0)=true) (h:∀j:Nat,1<=j->j<s.size->lz (ea s j)=true):ew s=true:=by
 simp only[ew,U6,Vz];refine⟨⟨⟨h1,h8⟩,hs⟩,U8.2 fun j hj=>?_⟩;rw[VM] at hj;by_cases h0:j=0
 . simp[h0]
 . simp[h j (by omega) hj]
theorem El : bM 130 fg:=by
 refine av (E:=au [(137,dC),(138,eZ)]) (k:=1) (aM _ ⟨A7,A8,trivial⟩) (by kernel_rfl) Tryz.func130 rfl (fun a w=>Tryz.call130 a w) Tryz.ntmps130 (by kernel_rfl) (by decide) (by decide) ?_;intro us r hF hdat;unfold fg at hF;split at hF
 case h_2=>cases hF
 rename_i s;cases hF;refine⟨rfl,?_⟩;by_cases hl:s.size<1
 . have e:=mc hl;have h1:decide ((s.size:Int)<1)=true:=iO (by omega);simp +decide (maxDischargeDepth:=200) only[go_sem,h1,e]
 . by_cases hg:8<s.size
   . have e:=nE hg;have h1:decide ((s.size:Int)<1)=false:=tl (by omega);have h2:decide (8<(s.size:Int))=true:=iO (by omega);simp +decide (maxDischargeDepth:=200) only[go_sem,h1,h2,e]
   . have h1 :decide ((s.size:Int)<1)=false:=tl (by omega);have h2:decide (8<(s.size:Int))=false:=tl (by omega);have h3:(0:Int)<(s.size:Int):=by omega
     cases hs:eA (ea s 0)
     . have e:=me hs;simp +decide (maxDischargeDepth:=200) only[go_sem,h1,h2,h3,hs,e,dC]
     . simp +decide (maxDischargeDepth:=200) only[go_sem,h1,h2,h3,hs,dC];refine aI (X:={i:Nat//1<=i∧i<=s.size∧∀j:Nat,1<=j->j<i->lz (ea s j)=true}) (fun i=>[(0,.x (.string s)),(3,.x (.int .i64 i.1))]) (fun _=>[]) (fun i=>s.size-i.1) ⟨1,by omega,by omega,fun j h1 h2=>by omega⟩ (by simp +decide only[go_sem];rfl) trivial (fun⟨i,hi1,hi2,hok⟩=>?_);by_cases hi:i<s.size
       . have c1:decide ((i:Int)<(s.size:Int))=true:=iO (by omega);have c2:(0:Int)<=(i:Int):=by omega
         have c3:(i:Int)<(s.size:Int):=by omega
         have c4:=aF (i:=i) (by omega);cases hb:eA (ea s i)
         . cases hb2:iR (ea s i)
           . have e:=tb hi1 hi (show lz (ea s i)=false by simp[lz,hb,hb2]);simp +decide (maxDischargeDepth:=200) only[go_sem,c1,c2,c3,c4,hb,hb2,e,dC,eZ]
           . simp +decide (maxDischargeDepth:=200) only[go_sem,c1,c2,c3,c4,hb,hb2,dC,eZ];refine⟨⟨i+1,by omega,by omega,fun j h1 h2=>?_⟩,?_,trivial,?_⟩
             rotate_left
             . simp +decide only[go_sem]
             . simp only;omega
             by_cases hj:j=i
             . subst hj;simp[lz,hb2]
             . exact hok j h1 (by omega)
         . simp +decide (maxDischargeDepth:=200) only[go_sem,c1,c2,c3,c4,hb,dC,eZ];refine⟨⟨i+1,by omega,by omega,fun j h1 h2=>?_⟩,?_,trivial,?_⟩
           rotate_left
           . simp +decide only[go_sem]
           . simp only;omega
           by_cases hj:j=i
           . subst hj;simp[lz,hb]
           . exact hok j h1 (by omega)
       . have c1:decide ((i:Int)<(s.size:Int))=false:=tl (by omega);have e:=pw (s:=s) (by omega) (by omega) hs (fun j h1 h2=>hok j h1 (by omega));simp +decide (maxDischargeDepth:=200) only[go_sem,c1,e]
theorem A9 : bM 84 fg:=by
 refine av (E:=au [(114,dC),(115,eZ)]) (k:=1) (aM _ ⟨wL,wM,trivial⟩) (by kernel_rfl) Tryz.func84 rfl (fun a w=>Tryz.call84 a w) Tryz.ntmps84 (by kernel_rfl) (by decide) (by decide) ?_;intro us r hF hdat;unfold fg at hF;split at hF
 case h_2=>cases hF
 rename_i s;cases hF;refine⟨rfl,?_⟩;by_cases hl:s.size<1
 . have e:=mc hl;have h1:decide ((s.size:Int)<1)=true:=iO (by omega);simp +decide (maxDischargeDepth:=200) only[go_sem,h1,e]
 . by_cases hg:8<s.size
   . have e:=nE hg;have h1:decide ((s.size:Int)<1)=false:=tl (by omega);have h2:decide (8<(s.size:Int))=true:=iO (by omega);simp +decide (maxDischargeDepth:=200) only[go_sem,h1,h2,e]
   . have h1 :decide ((s.size:Int)<1)=false:=tl (by omega);have h2:decide (8<(s.size:Int))=false:=tl (by omega);have h3:(0:Int)<(s.size:Int):=by omega
     cases hs:eA (ea s 0)
     . have e:=me hs;simp +decide (maxDischargeDepth:=200) only[go_sem,h1,h2,h3,hs,e,dC]
     . simp +decide (maxDischargeDepth:=200) only[go_sem,h1,h2,h3,hs,dC];refine aI (X:={i:Nat//1<=i∧i<=s.size∧∀j:Nat,1<=j->j<i->lz (ea s j)=true}) (fun i=>[(0,.x (.string s)),(3,.x (.int .i64 i.1))]) (fun _=>[]) (fun i=>s.size-i.1) ⟨1,by omega,by omega,fun j h1 h2=>by omega⟩ (by simp +decide only[go_sem];rfl) trivial (fun⟨i,hi1,hi2,hok⟩=>?_);by_cases hi:i<s.size
       . have c1:decide ((i:Int)<(s.size:Int))=true:=iO (by omega);have c2:(0:Int)<=(i:Int):=by omega
         have c3:(i:Int)<(s.size:Int):=by omega
         have c4:=aF (i:=i) (by omega);cases hb:eA (ea s i)
         . cases hb2:iR (ea s i)
           . have e:=tb hi1 hi (show lz (ea s i)=false by simp[lz,hb,hb2]);simp +decide (maxDischargeDepth:=200) only[go_sem,c1,c2,c3,c4,hb,hb2,e,dC,eZ]
           . simp +decide (maxDischargeDepth:=200) only[go_sem,c1,c2,c3,c4,hb,hb2,dC,eZ];refine⟨⟨i+1,by omega,by omega,fun j h1 h2=>?_⟩,?_,trivial,?_⟩
             rotate_left
             . simp +decide only[go_sem]
             . simp only;omega
             by_cases hj:j=i
             . subst hj;simp[lz,hb2]
             . exact hok j h1 (by omega)
         . simp +decide (maxDischargeDepth:=200) only[go_sem,c1,c2,c3,c4,hb,dC,eZ];refine⟨⟨i+1,by omega,by omega,fun j h1 h2=>?_⟩,?_,trivial,?_⟩
           rotate_left
           . simp +decide only[go_sem]
           . simp only;omega
           by_cases hj:j=i
           . subst hj;simp[lz,hb]
           . exact hok j h1 (by omega)
       . have c1:decide ((i:Int)<(s.size:Int))=false:=tl (by omega);have e:=pw (s:=s) (by omega) (by omega) hs (fun j h1 h2=>hok j h1 (by omega));simp +decide (maxDischargeDepth:=200) only[go_sem,c1,e]
def bE (s:ByteArray) (c r:Int):Bool:=ew s&&decide (1<=c)&&decide (c<=702)&&decide (1<=r)&&decide (r<=999)
variable {c r:Int}
theorem dp:bE s c r=true↔ew s=true∧1<=c∧c<=702∧1<=r∧r<=999:=by simp[bE,and_assoc]
abbrev cl (s:ByteArray) (c r:Int):V:= .agg [.x (.string s),.x (.int .i64 c),.x (.int .i64 r)]
attribute [go_sem] cl
def bU:List V->Option V
 |[.agg [.x (.string s),.x (.int .i64 c),.x (.int .i64 r)]]=>some (.x (.bool (bE s c r)))
 |_=>none
theorem Ba:bM 113 bU:=by
 refine av (E:=au [(130,fg)]) (k:=1) (aM _ ⟨El,trivial⟩) (by kernel_rfl) Tryz.func113 rfl (fun a w=>Tryz.call113 a w) Tryz.ntmps113 (by kernel_rfl) (by decide) (by decide) ?_;intro us r hF hdat;unfold bU at hF;split at hF
 case h_2=>cases hF
 rename_i s c r;cases hF;refine⟨rfl,?_⟩;cases hn:ew s
 . simp +decide (maxDischargeDepth:=200) only[go_sem,fg,hn,bE]
 . by_cases h1:1<=c
   . have d1:=iO h1;by_cases h2:c<=702
     . have d2:=iO h2;by_cases h3:1<=r
       . have d3:=iO h3;simp +decide (maxDischargeDepth:=200) only[go_sem,fg,hn,bE,d1,d2,d3]
       . have d3:=tl h3;simp +decide (maxDischargeDepth:=200) only[go_sem,fg,hn,bE,d1,d2,d3]
     . have d2:=tl h2;simp +decide (maxDischargeDepth:=200) only[go_sem,fg,hn,bE,d1,d2]
   . have d1:=tl h1;simp +decide (maxDischargeDepth:=200) only[go_sem,fg,hn,bE,d1]
theorem nF:bM 58 bU:=by
 refine av (E:=au [(84,fg)]) (k:=1) (aM _ ⟨A9,trivial⟩) (by kernel_rfl) Tryz.func58 rfl (fun a w=>Tryz.call58 a w) Tryz.ntmps58 (by kernel_rfl) (by decide) (by decide) ?_;intro us r hF hdat;unfold bU at hF;split at hF
 case h_2=>cases hF
 rename_i s c r;cases hF;refine⟨rfl,?_⟩;cases hn:ew s
 . simp +decide (maxDischargeDepth:=200) only[go_sem,fg,hn,bE]
 . by_cases h1:1<=c
   . have d1:=iO h1;by_cases h2:c<=702
     . have d2:=iO h2;by_cases h3:1<=r
       . have d3:=iO h3;simp +decide (maxDischargeDepth:=200) only[go_sem,fg,hn,bE,d1,d2,d3]
       . have d3:=tl h3;simp +decide (maxDischargeDepth:=200) only[go_sem,fg,hn,bE,d1,d2,d3]
     . have d2:=tl h2;simp +decide (maxDischargeDepth:=200) only[go_sem,fg,hn,bE,d1,d2]
   . have d1:=tl h1;simp +decide (maxDischargeDepth:=200) only[go_sem,fg,hn,bE,d1]
def kq (s:ByteArray) (c r:Int) (s':ByteArray) (c' r':Int):Bool:=bE s c r&&bE s' c' r'&&decide (s=s')&&decide (c<=c')&&decide (r<=r')
def b9 (c r c' r':Int):Int:=(c'-c+1)*(r'-r+1)
variable {s':ByteArray} {c' r':Int}
theorem ij:kq s c r s' c' r'=true↔bE s c r=true∧bE s' c' r'=true∧s=s'∧c<=c'∧r<=r':=by simp[kq,and_assoc]
theorem Jb (h:bE s c r=false):kq s c r s' c' r'=false:=by simp[kq,h]
theorem Jc (h:bE s' c' r'=false):kq s c r s' c' r'=false:=by simp[kq,h]
theorem Jd (h: ¬s=s'):kq s c r s' c' r'=false:=by simp[kq,h]
theorem Je (h: ¬c<=c'):kq s c r s' c' r'=false:=by simp[kq,h]
theorem Jf (h: ¬r<=r'):kq s c r s' c' r'=false:=by simp[kq,h]
def yT (s:ByteArray) (c r:Int) (s':ByteArray) (c' r':Int):V:=
 if kq s c r s' c' r'=true then .tup [.x (.int .i64 (b9 c r c' r')),.x (.bool true)] else .tup [.x (.int .i64 0),.x (.bool false)]
theorem cx (h:kq s c r s' c' r'=false):yT s c r s' c' r'= .tup [.x (.int .i64 0),.x (.bool false)]:=by unfold yT;rw[Vh (by rw[h];decide)]
theorem fA (h:kq s c r s' c' r'=true):yT s c r s' c' r'= .tup [.x (.int .i64 (b9 c r c' r')),.x (.bool true)]:=Va h
theorem mC (h1:1<=c) (h2:c'<=702) (h3:1<=r) (h4:r'<=999) (h5:c<=c') (h6:r<=r'):1<=b9 c r c' r'∧b9 c r c' r'<=1000000:=by
 unfold b9;obtain⟨a,ha⟩:∃a:Nat,c'-c=a:=⟨(c'-c).toNat,by omega⟩;obtain⟨b,hb⟩:∃b:Nat,r'-r=b:=⟨(r'-r).toNat,by omega⟩;rw[ha,hb];have h:(a+1)*(b+1)<=702*999:=XP (by omega) (by omega);have h':1*1<=(a+1)*(b+1):=XP (by omega) (by omega);have e:((a:Int)+1)*((b:Int)+1)=(((a+1)*(b+1):Nat):Int):=by push_cast;rfl
 rw[e];omega
def dW:List V->Option V
 |[.agg [.x (.string s),.x (.int .i64 c),.x (.int .i64 r),.x (.string s'),.x (.int .i64 c'),.x (.int .i64 r')]]=>some (yT s c r s' c' r')
 |_=>none
theorem td:bM 81 dW:=by
 refine av (E:=au [(113,bU)]) (k:=1) (aM _ ⟨Ba,trivial⟩) (by kernel_rfl) Tryz.func81 rfl (fun a w=>Tryz.call81 a w) Tryz.ntmps81 (by kernel_rfl) (by decide) (by decide) ?_;intro us r hF hdat;unfold dW at hF;split at hF
 case h_2=>cases hF
 rename_i s c r s' c' r';cases hF;refine⟨rfl,?_⟩;cases hR:bE s c r
 . rw[cx (Jb hR)];simp +decide (maxDischargeDepth:=200) only[go_sem,bU,hR]
 . cases hR':bE s' c' r'
   . rw[cx (Jc hR')];simp +decide (maxDischargeDepth:=200) only[go_sem,bU,hR,hR']
   . by_cases hs:s=s'
     . obtain⟨_,b1,b2,b3,b4⟩:=dp.1 hR;obtain⟨_,b1',b2',b3',b4'⟩:=dp.1 hR';have ds:=iO hs;have w1:ax .i64 (c'-c)=c'-c:=ak (by unfold co;omega);have w2:ax .i64 (c'-c+1)=c'-c+1:=ak (by unfold co;omega);have w3:ax .i64 (r'-r)=r'-r:=ak (by unfold co;omega);have w4:ax .i64 (r'-r+1)=r'-r+1:=ak (by unfold co;omega);by_cases hc:c<=c'
       . by_cases hr:r<=r'
         . have ha:=mC b1 b2' b3 b4' hc hr;have w5:ax .i64 ((c'-c+1)*(r'-r+1))=b9 c r c' r':=ak (by show co (b9 c r c' r');unfold co;omega);rw[fA (ij.2 ⟨hR,hR',hs,hc,hr⟩)];have d1:decide (c'-c+1<1)=false:=tl (by omega);have d2:decide (r'-r+1<1)=false:=tl (by omega);simp +decide (maxDischargeDepth:=200) only[go_sem,bU,hR,hR',ds,w1,w2,w3,w4,w5,d1,d2]
         . have d1:decide (c'-c+1<1)=false:=tl (by omega);have d2:decide (r'-r+1<1)=true:=iO (by omega);rw[cx (Jf hr)];simp +decide (maxDischargeDepth:=200) only[go_sem,bU,hR,hR',ds,w1,w2,w3,w4,d1,d2]
       . have d1:decide (c'-c+1<1)=true:=iO (by omega);rw[cx (Je hc)];simp +decide (maxDischargeDepth:=200) only[go_sem,bU,hR,hR',ds,w1,w2,w3,w4,d1]
     . have ds:=tl hs;rw[cx (Jd hs)];simp +decide (maxDischargeDepth:=200) only[go_sem,bU,hR,hR',ds]
theorem Bb:bM 85 dW:=by
 refine av (E:=au [(58,bU)]) (k:=1) (aM _ ⟨nF,trivial⟩) (by kernel_rfl) Tryz.func85 rfl (fun a w=>Tryz.call85 a w) Tryz.ntmps85 (by kernel_rfl) (by decide) (by decide) ?_;intro us r hF hdat;unfold dW at hF;split at hF
 case h_2=>cases hF
 rename_i s c r s' c' r';cases hF;refine⟨rfl,?_⟩;cases hR:bE s c r
 . rw[cx (Jb hR)];simp +decide (maxDischargeDepth:=200) only[go_sem,bU,hR]
 . cases hR':bE s' c' r'
   . rw[cx (Jc hR')];simp +decide (maxDischargeDepth:=200) only[go_sem,bU,hR,hR']
   . by_cases hs:s=s'
     . obtain⟨_,b1,b2,b3,b4⟩:=dp.1 hR;obtain⟨_,b1',b2',b3',b4'⟩:=dp.1 hR';have ds:=iO hs;have w1:ax .i64 (c'-c)=c'-c:=ak (by unfold co;omega);have w2:ax .i64 (c'-c+1)=c'-c+1:=ak (by unfold co;omega);have w3:ax .i64 (r'-r)=r'-r:=ak (by unfold co;omega);have w4:ax .i64 (r'-r+1)=r'-r+1:=ak (by unfold co;omega);by_cases hc:c<=c'
       . by_cases hr:r<=r'
         . have ha:=mC b1 b2' b3 b4' hc hr;have w5:ax .i64 ((c'-c+1)*(r'-r+1))=b9 c r c' r':=ak (by show co (b9 c r c' r');unfold co;omega);rw[fA (ij.2 ⟨hR,hR',hs,hc,hr⟩)];have d1:decide (c'<c)=false:=tl (by omega);have d2:decide (r'<r)=false:=tl (by omega);simp +decide (maxDischargeDepth:=200) only[go_sem,bU,hR,hR',ds,w1,w2,w3,w4,w5,d1,d2]
         . have d1:decide (c'<c)=false:=tl (by omega);have d2:decide (r'<r)=true:=iO (by omega);rw[cx (Jf hr)];simp +decide (maxDischargeDepth:=200) only[go_sem,bU,hR,hR',ds,d1,d2]
       . have d1:decide (c'<c)=true:=iO (by omega);rw[cx (Je hc)];simp +decide (maxDischargeDepth:=200) only[go_sem,bU,hR,hR',ds,d1]
     . have ds:=tl hs;rw[cx (Jd hs)];simp +decide (maxDischargeDepth:=200) only[go_sem,bU,hR,hR',ds]
theorem tf (h:ew s=true):s.size<=8:=by simp only[ew,U6,Vz] at h;exact h.1.1.2
end Go.Proofs.YtalkmhjanlljhaaGreat
