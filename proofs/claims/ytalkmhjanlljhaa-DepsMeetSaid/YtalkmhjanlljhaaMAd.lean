/- Which values may be: package value and the reference, as functions of plain data. -/
import Derived.Test.YtalkmhjanlljhaaMPO
import Derived.Shelf.Strconv.AtoiAll
import Derived.KernelRfl
import Derived.Lib.Bytealg
namespace Go.Proofs.Ytalkmhjanlljhaa
set_option linter.unusedSimpArgs false
set_option maxHeartbeats 2000000
set_option maxRecDepth 100000
open Go Go.RowKit
attribute [go_sem] Try.results65 Try.results95 Try.results110 Try.results117 Try.results118
theorem yU:cm 117 gL:=by
 refine aE (E:=ar []) (k:=1) (aV _ trivial) (by kernel_rfl) Try.func117 rfl (fun a w=>Try.call117 a w) Try.ntmps117 (by kernel_rfl) (by decide) (by decide) ?_;intro us r hF hdat;unfold gL at hF;split at hF
 case h_2=>cases hF
 rename_i b;cases hF;refine⟨rfl,?_⟩;by_cases h:97<=b
 . have h1:=Io h;simp +decide (maxDischargeDepth:=200) only[go_sem,h1,gc]
 . have h1:=SP h;simp +decide (maxDischargeDepth:=200) only[go_sem,h1,gc]
theorem yV:cm 118 jW:=by
 refine aE (E:=ar []) (k:=1) (aV _ trivial) (by kernel_rfl) Try.func118 rfl (fun a w=>Try.call118 a w) Try.ntmps118 (by kernel_rfl) (by decide) (by decide) ?_;intro us r hF hdat;unfold jW at hF;split at hF
 case h_2=>cases hF
 rename_i b;cases hF;refine⟨rfl,?_⟩;by_cases h:48<=b
 . have h1:=Io h;simp +decide (maxDischargeDepth:=200) only[go_sem,h1,lO]
 . have h1:=SP h;simp +decide (maxDischargeDepth:=200) only[go_sem,h1,lO]
def qP (b:Int):Bool:=gc b||lO b
def d6 (s:ByteArray):Bool:=decide (1<=s.size)&&decide (s.size<=8)&&gc (e7 s 0)&&(List.range s.size).all fun j=>j==0||qP (e7 s j)
def kr:List V->Option V
 |[.x (.string s)]=>some (.x (.bool (d6 s)))
 |_=>none
variable {s:ByteArray}
theorem qQ (h:s.size<1):d6 s=false:=by simp[d6];omega
theorem ux (h:8<s.size):d6 s=false:=by simp[d6];omega
theorem qR (h:gc (e7 s 0)=false):d6 s=false:=by simp[d6,h]
theorem B4 {j:Nat} (h0:1<=j) (hj:j<s.size) (h:qP (e7 s j)=false):d6 s=false:=by
 cases hn:d6 s with
 |false=>rfl
 |true=>simp only[d6,SR] at hn;have:=SW.1 hn.2 j (TC.2 hj);simp[h] at this;omega
theorem yW (h1:1<=s.size) (h8:s.size<=8) (hs:gc (e7 s 0)=true) (h:∀j:Nat,1<=j->j<s.size->qP (e7 s j)=true):d6 s=true:=by
 simp only[d6,SR,Tk];refine⟨⟨⟨h1,h8⟩,hs⟩,SW.2 fun j hj=>?_⟩;rw[TC] at hj;by_cases h0:j=0
 . simp[h0]
 . simp[h j (by omega) hj]
theorem B6 : cm 110 kr:=by
 refine aE (E:=ar [(117,gL),(118,jW)]) (k:=1) (aV _ ⟨yU,yV,trivial⟩) (by kernel_rfl) Try.func110 rfl (fun a w=>Try.call110 a w) Try.ntmps110 (by kernel_rfl) (by decide) (by decide) ?_;intro us r hF hdat;unfold kr at hF;split at hF
 case h_2=>cases hF
 rename_i s;cases hF;refine⟨rfl,?_⟩;by_cases hl:s.size<1
 . have e:=qQ hl;have h1:decide ((s.size:Int)<1)=true:=Io (by omega);simp +decide (maxDischargeDepth:=200) only[go_sem,h1,e]
 . by_cases hg:8<s.size
   . have e:=ux hg;have h1:decide ((s.size:Int)<1)=false:=SP (by omega);have h2:decide (8<(s.size:Int))=true:=Io (by omega);simp +decide (maxDischargeDepth:=200) only[go_sem,h1,h2,e]
   . have h1 :decide ((s.size:Int)<1)=false:=SP (by omega);have h2:decide (8<(s.size:Int))=false:=SP (by omega);have h3:(0:Int)<(s.size:Int):=by omega
     cases hs:gc (e7 s 0)
     . have e:=qR hs;simp +decide (maxDischargeDepth:=200) only[go_sem,h1,h2,h3,hs,e,gL]
     . simp +decide (maxDischargeDepth:=200) only[go_sem,h1,h2,h3,hs,gL];refine bu (X:={i:Nat//1<=i∧i<=s.size∧∀j:Nat,1<=j->j<i->qP (e7 s j)=true}) (fun i=>[(0,.x (.string s)),(3,.x (.int .i64 i.1))]) (fun _=>[]) (fun i=>s.size-i.1) ⟨1,by omega,by omega,fun j h1 h2=>by omega⟩ (by simp +decide only[go_sem];rfl) trivial (fun⟨i,hi1,hi2,hok⟩=>?_);by_cases hi:i<s.size
       . have c1:decide ((i:Int)<(s.size:Int))=true:=Io (by omega);have c2:(0:Int)<=(i:Int):=by omega
         have c3:(i:Int)<(s.size:Int):=by omega
         have c4:=bp (i:=i) (by omega);cases hb:gc (e7 s i)
         . cases hb2:lO (e7 s i)
           . have e:=B4 hi1 hi (show qP (e7 s i)=false by simp[qP,hb,hb2]);simp +decide (maxDischargeDepth:=200) only[go_sem,c1,c2,c3,c4,hb,hb2,e,gL,jW]
           . simp +decide (maxDischargeDepth:=200) only[go_sem,c1,c2,c3,c4,hb,hb2,gL,jW];refine⟨⟨i+1,by omega,by omega,fun j h1 h2=>?_⟩,?_,trivial,?_⟩
             rotate_left
             . simp +decide only[go_sem]
             . simp only;omega
             by_cases hj:j=i
             . subst hj;simp[qP,hb2]
             . exact hok j h1 (by omega)
         . simp +decide (maxDischargeDepth:=200) only[go_sem,c1,c2,c3,c4,hb,gL,jW];refine⟨⟨i+1,by omega,by omega,fun j h1 h2=>?_⟩,?_,trivial,?_⟩
           rotate_left
           . simp +decide only[go_sem]
           . simp only;omega
           by_cases hj:j=i
           . subst hj;simp[qP,hb]
           . exact hok j h1 (by omega)
       . have c1:decide ((i:Int)<(s.size:Int))=false:=SP (by omega);have e:=yW (s:=s) (by omega) (by omega) hs (fun j h1 h2=>hok j h1 (by omega));simp +decide (maxDischargeDepth:=200) only[go_sem,c1,e]
def bM (s:ByteArray) (c r:Int):Bool:=d6 s&&decide (1<=c)&&decide (c<=702)&&decide (1<=r)&&decide (r<=999)
variable {c r:Int}
theorem gd:bM s c r=true↔d6 s=true∧1<=c∧c<=702∧1<=r∧r<=999:=by simp[bM,and_assoc]
abbrev cl (s:ByteArray) (c r:Int):V:= .agg [.x (.string s),.x (.int .i64 c),.x (.int .i64 r)]
attribute [go_sem] cl
def ey:List V->Option V
 |[.agg [.x (.string s),.x (.int .i64 c),.x (.int .i64 r)]]=>some (.x (.bool (bM s c r)))
 |_=>none
theorem yX:cm 95 ey:=by
 refine aE (E:=ar [(110,kr)]) (k:=1) (aV _ ⟨B6,trivial⟩) (by kernel_rfl) Try.func95 rfl (fun a w=>Try.call95 a w) Try.ntmps95 (by kernel_rfl) (by decide) (by decide) ?_;intro us r hF hdat;unfold ey at hF;split at hF
 case h_2=>cases hF
 rename_i s c r;cases hF;refine⟨rfl,?_⟩;cases hn:d6 s
 . simp +decide (maxDischargeDepth:=200) only[go_sem,kr,hn,bM]
 . by_cases h1:1<=c
   . have d1:=Io h1;by_cases h2:c<=702
     . have d2:=Io h2;by_cases h3:1<=r
       . have d3:=Io h3;simp +decide (maxDischargeDepth:=200) only[go_sem,kr,hn,bM,d1,d2,d3]
       . have d3:=SP h3;simp +decide (maxDischargeDepth:=200) only[go_sem,kr,hn,bM,d1,d2,d3]
     . have d2:=SP h2;simp +decide (maxDischargeDepth:=200) only[go_sem,kr,hn,bM,d1,d2]
   . have d1:=SP h1;simp +decide (maxDischargeDepth:=200) only[go_sem,kr,hn,bM,d1]
def ju (s:ByteArray) (c r:Int) (s':ByteArray) (c' r':Int):Bool:=bM s c r&&bM s' c' r'&&decide (s=s')&&decide (c<=c')&&decide (r<=r')
def cI (c r c' r':Int):Int:=(c'-c+1)*(r'-r+1)
variable {s':ByteArray} {c' r':Int}
theorem jv:ju s c r s' c' r'=true↔bM s c r=true∧bM s' c' r'=true∧s=s'∧c<=c'∧r<=r':=by simp[ju,and_assoc]
theorem MJ (h:bM s c r=false):ju s c r s' c' r'=false:=by simp[ju,h]
theorem MK (h:bM s' c' r'=false):ju s c r s' c' r'=false:=by simp[ju,h]
theorem ML (h: ¬s=s'):ju s c r s' c' r'=false:=by simp[ju,h]
theorem MM (h: ¬c<=c'):ju s c r s' c' r'=false:=by simp[ju,h]
theorem MN (h: ¬r<=r'):ju s c r s' c' r'=false:=by simp[ju,h]
def wx (s:ByteArray) (c r:Int) (s':ByteArray) (c' r':Int):V:=
 if ju s c r s' c' r'=true then .tup [.x (.int .i64 (cI c r c' r')),.x (.bool true)] else .tup [.x (.int .i64 0),.x (.bool false)]
theorem dA (h:ju s c r s' c' r'=false):wx s c r s' c' r'= .tup [.x (.int .i64 0),.x (.bool false)]:=by unfold wx;rw[S8 (by rw[h];decide)]
theorem ig (h:ju s c r s' c' r'=true):wx s c r s' c' r'= .tup [.x (.int .i64 (cI c r c' r')),.x (.bool true)]:=S4 h
theorem wy (h1:1<=c) (h2:c'<=702) (h3:1<=r) (h4:r'<=999) (h5:c<=c') (h6:r<=r'):1<=cI c r c' r'∧cI c r c' r'<=1000000:=by
 unfold cI;obtain⟨a,ha⟩:∃a:Nat,c'-c=a:=⟨(c'-c).toNat,by omega⟩;obtain⟨b,hb⟩:∃b:Nat,r'-r=b:=⟨(r'-r).toNat,by omega⟩;rw[ha,hb];have h:(a+1)*(b+1)<=702*999:=Nat.mul_le_mul (by omega) (by omega);have h':1*1<=(a+1)*(b+1):=Nat.mul_le_mul (by omega) (by omega);have e:((a:Int)+1)*((b:Int)+1)=(((a+1)*(b+1):Nat):Int):=by push_cast;rfl
 rw[e];omega
def fh:List V->Option V
 |[.agg [.x (.string s),.x (.int .i64 c),.x (.int .i64 r),.x (.string s'),.x (.int .i64 c'),.x (.int .i64 r')]]=>some (wx s c r s' c' r')
 |_=>none
theorem qS:cm 65 fh:=by
 refine aE (E:=ar [(95,ey)]) (k:=1) (aV _ ⟨yX,trivial⟩) (by kernel_rfl) Try.func65 rfl (fun a w=>Try.call65 a w) Try.ntmps65 (by kernel_rfl) (by decide) (by decide) ?_;intro us r hF hdat;unfold fh at hF;split at hF
 case h_2=>cases hF
 rename_i s c r s' c' r';cases hF;refine⟨rfl,?_⟩;cases hR:bM s c r
 . rw[dA (MJ hR)];simp +decide (maxDischargeDepth:=200) only[go_sem,ey,hR]
 . cases hR':bM s' c' r'
   . rw[dA (MK hR')];simp +decide (maxDischargeDepth:=200) only[go_sem,ey,hR,hR']
   . by_cases hs:s=s'
     . obtain⟨_,b1,b2,b3,b4⟩:=gd.1 hR;obtain⟨_,b1',b2',b3',b4'⟩:=gd.1 hR';have ds:=Io hs;have w1:aw .i64 (c'-c)=c'-c:=ak (by unfold bX;omega);have w2:aw .i64 (c'-c+1)=c'-c+1:=ak (by unfold bX;omega);have w3:aw .i64 (r'-r)=r'-r:=ak (by unfold bX;omega);have w4:aw .i64 (r'-r+1)=r'-r+1:=ak (by unfold bX;omega);by_cases hc:c<=c'
       . by_cases hr:r<=r'
         . have ha:=wy b1 b2' b3 b4' hc hr;have w5:aw .i64 ((c'-c+1)*(r'-r+1))=cI c r c' r':=ak (by show bX (cI c r c' r');unfold bX;omega);rw[ig (jv.2 ⟨hR,hR',hs,hc,hr⟩)];have d1:decide (c'-c+1<1)=false:=SP (by omega);have d2:decide (r'-r+1<1)=false:=SP (by omega);simp +decide (maxDischargeDepth:=200) only[go_sem,ey,hR,hR',ds,w1,w2,w3,w4,w5,d1,d2]
         . have d1:decide (c'-c+1<1)=false:=SP (by omega);have d2:decide (r'-r+1<1)=true:=Io (by omega);rw[dA (MN hr)];simp +decide (maxDischargeDepth:=200) only[go_sem,ey,hR,hR',ds,w1,w2,w3,w4,d1,d2]
       . have d1:decide (c'-c+1<1)=true:=Io (by omega);rw[dA (MM hc)];simp +decide (maxDischargeDepth:=200) only[go_sem,ey,hR,hR',ds,w1,w2,w3,w4,d1]
     . have ds:=SP hs;rw[dA (ML hs)];simp +decide (maxDischargeDepth:=200) only[go_sem,ey,hR,hR',ds]
theorem B7 (h:d6 s=true):s.size<=8:=by simp only[d6,SR,Tk] at h;exact h.1.1.2
end Go.Proofs.Ytalkmhjanlljhaa
