/- Which values may be: package value and the reference, as functions of plain data. -/
import Derived.Test.YtmfojhkjbkombaaGreatMPO
import Derived.Shelf.Strconv.AtoiAll
import Derived.KernelRfl
import Derived.Lib.Bytealg
namespace Go.Proofs.YtmfojhkjbkombaaGreat
set_option linter.unusedSimpArgs false
set_option maxHeartbeats 2000000
set_option maxRecDepth 100000
open Go Go.RowKit
attribute [go_sem] Tryz.results43 Tryz.results56 Tryz.results57 Tryz.results67 Tryz.results68
def Nu (k n:Int) (s:ByteArray):Bool:=
 bif decide (k=0) then decide (n=0)&&decide (s=⟨#[]⟩) else bif decide (k=1) then decide (s=⟨#[]⟩) else bif decide (k=2) then decide (n=0)&&decide ((s.size:Int)<=200) else
  bif decide (k=3) then (decide (n=0)||decide (n=1))&&decide (s=⟨#[]⟩) else bif decide (k=4) then decide (1<=n)&&(decide (n<=7)&&decide (s=⟨#[]⟩)) else false
theorem xO:cM 67 iR:=by
 refine aT (E:=ba []) (k:=1) (bV _ trivial) A0a Tryz.func67 rfl (fun a w=>Tryz.call67 a w) Tryz.ntmps67 A0a A0c A0c ?_;intro us r hF hdat;unfold iR at hF;split at hF
 case h_2=>cases hF
 rename_i b;cases hF;refine⟨rfl,?_⟩;by_cases h:97<=b
 . have h1:=Yz h;simp +decide (maxDischargeDepth:=200) only[go_sem,h1,gY]
 . have h1:=YA h;simp +decide (maxDischargeDepth:=200) only[go_sem,h1,gY]
theorem xP:cM 68 kT:=by
 refine aT (E:=ba []) (k:=1) (bV _ trivial) A0a Tryz.func68 rfl (fun a w=>Tryz.call68 a w) Tryz.ntmps68 A0a A0c A0c ?_;intro us r hF hdat;unfold kT at hF;split at hF
 case h_2=>cases hF
 rename_i b;cases hF;refine⟨rfl,?_⟩;by_cases h:48<=b
 . have h1:=Yz h;simp +decide (maxDischargeDepth:=200) only[go_sem,h1,nz]
 . have h1:=YA h;simp +decide (maxDischargeDepth:=200) only[go_sem,h1,nz]
def tS (b:Int):Bool:=gY b||nz b
def eH (s:ByteArray):Bool:=decide (1<=s.size)&&decide (s.size<=8)&&gY (fh s 0)&&(List.range s.size).all fun j=>j==0||tS (fh s j)
def l5:List V->Option V
 |[.x (.string s)]=>some (.x (.bool (eH s)))
 |_=>none
variable {s:ByteArray}
theorem tT (h:s.size<1):eH s=false:=by simp[eH];omega
theorem xQ (h:8<s.size):eH s=false:=by simp[eH];omega
theorem tU (h:gY (fh s 0)=false):eH s=false:=by simp[eH,h]
theorem Gc {j:Nat} (h0:1<=j) (hj:j<s.size) (h:tS (fh s j)=false):eH s=false:=by
 cases hn:eH s with
 |false=>rfl
 |true=>simp only[eH,YH] at hn;have:=YK.1 hn.2 j (Ze.2 hj);simp[h] at this;omega
theorem Cw (h1:1<=s.size) (h8:s.size<=8) (hs:gY (fh s 0)=true) (h:∀j:Nat,1<=j->j<s.size->tS (fh s j)=true):eH s=true:=by
 simp only[eH,YH,Zh];refine⟨⟨⟨h1,h8⟩,hs⟩,YK.2 fun j hj=>?_⟩;rw[Ze] at hj;by_cases h0:j=0
 . simp[h0]
 . simp[h j A0b hj]
theorem Cx : cM 56 l5:=by
 refine aT (E:=ba [(67,iR),(68,kT)]) (k:=1) (bV _ ⟨xO,xP,trivial⟩) A0a Tryz.func56 rfl (fun a w=>Tryz.call56 a w) Tryz.ntmps56 A0a A0c A0c ?_;intro us r hF hdat;unfold l5 at hF;split at hF
 case h_2=>cases hF
 rename_i s;cases hF;refine⟨rfl,?_⟩;by_cases hl:s.size<1
 . have e:=tT hl;have h1:decide ((s.size:Int)<1)=true:=Yz A0b;simp +decide (maxDischargeDepth:=200) only[go_sem,h1,e]
 . by_cases hg:8<s.size
   . have e:=xQ hg;have h1:decide ((s.size:Int)<1)=false:=YA A0b;have h2:decide (8<(s.size:Int))=true:=Yz A0b;simp +decide (maxDischargeDepth:=200) only[go_sem,h1,h2,e]
   . have h1 :decide ((s.size:Int)<1)=false:=YA A0b;have h2:decide (8<(s.size:Int))=false:=YA A0b;have h3:(0:Int)<(s.size:Int):=A0b
     cases hs:gY (fh s 0)
     . have e:=tU hs;simp +decide (maxDischargeDepth:=200) only[go_sem,h1,h2,h3,hs,e,iR]
     . simp +decide (maxDischargeDepth:=200) only[go_sem,h1,h2,h3,hs,iR];refine bc (X:={i:Nat//1<=i∧i<=s.size∧∀j:Nat,1<=j->j<i->tS (fh s j)=true}) (fun i=>[(0,.x (.string s)),(3,.x (.int .i64 i.1))]) (fun _=>[]) (fun i=>s.size-i.1) ⟨1,A0b,A0b,fun j h1 h2=>by omega⟩ (by simp +decide only[go_sem];rfl) trivial (fun⟨i,hi1,hi2,hok⟩=>?_);by_cases hi:i<s.size
       . have c1:decide ((i:Int)<(s.size:Int))=true:=Yz A0b;have c2:(0:Int)<=(i:Int):=A0b
         have c3:(i:Int)<(s.size:Int):=A0b
         have c4:=aD (i:=i) A0b;cases hb:gY (fh s i)
         . cases hb2:nz (fh s i)
           . have e:=Gc hi1 hi (show tS (fh s i)=false by simp[tS,hb,hb2]);simp +decide (maxDischargeDepth:=200) only[go_sem,c1,c2,c3,c4,hb,hb2,e,iR,kT]
           . simp +decide (maxDischargeDepth:=200) only[go_sem,c1,c2,c3,c4,hb,hb2,iR,kT];refine⟨⟨i+1,A0b,A0b,fun j h1 h2=>?_⟩,?_,trivial,?_⟩
             rotate_left
             . simp +decide only[go_sem]
             . simp only;omega
             by_cases hj:j=i
             . subst hj;simp[tS,hb2]
             . exact hok j h1 A0b
         . simp +decide (maxDischargeDepth:=200) only[go_sem,c1,c2,c3,c4,hb,iR,kT];refine⟨⟨i+1,A0b,A0b,fun j h1 h2=>?_⟩,?_,trivial,?_⟩
           rotate_left
           . simp +decide only[go_sem]
           . simp only;omega
           by_cases hj:j=i
           . subst hj;simp[tS,hb]
           . exact hok j h1 A0b
       . have c1:decide ((i:Int)<(s.size:Int))=false:=YA A0b;have e:=Cw (s:=s) A0b A0b hs (fun j h1 h2=>hok j h1 A0b);simp +decide (maxDischargeDepth:=200) only[go_sem,c1,e]
def cG (s:ByteArray) (c r:Int):Bool:=eH s&&decide (1<=c)&&decide (c<=702)&&decide (1<=r)&&decide (r<=999)
variable {c r:Int}
theorem g8:cG s c r=true↔eH s=true∧1<=c∧c<=702∧1<=r∧r<=999:=by simp[cG,and_assoc]
abbrev cl (s:ByteArray) (c r:Int):V:= .agg [.x (.string s),.x (.int .i64 c),.x (.int .i64 r)]
attribute [go_sem] cl
def dA:List V->Option V
 |[.agg [.x (.string s),.x (.int .i64 c),.x (.int .i64 r)]]=>some (.x (.bool (cG s c r)))
 |_=>none
theorem nD:cM 43 dA:=by
 refine aT (E:=ba [(56,l5)]) (k:=1) (bV _ ⟨Cx,trivial⟩) A0a Tryz.func43 rfl (fun a w=>Tryz.call43 a w) Tryz.ntmps43 A0a A0c A0c ?_;intro us r hF hdat;unfold dA at hF;split at hF
 case h_2=>cases hF
 rename_i s c r;cases hF;refine⟨rfl,?_⟩;cases hn:eH s
 . simp +decide (maxDischargeDepth:=200) only[go_sem,l5,hn,cG]
 . by_cases h1:1<=c
   . have d1:=Yz h1;by_cases h2:c<=702
     . have d2:=Yz h2;by_cases h3:1<=r
       . have d3:=Yz h3;simp +decide (maxDischargeDepth:=200) only[go_sem,l5,hn,cG,d1,d2,d3]
       . have d3:=YA h3;simp +decide (maxDischargeDepth:=200) only[go_sem,l5,hn,cG,d1,d2,d3]
     . have d2:=YA h2;simp +decide (maxDischargeDepth:=200) only[go_sem,l5,hn,cG,d1,d2]
   . have d1:=YA h1;simp +decide (maxDischargeDepth:=200) only[go_sem,l5,hn,cG,d1]
def rh (s:ByteArray) (c r:Int) (s':ByteArray) (c' r':Int):Bool:=cG s c r&&cG s' c' r'&&decide (s=s')&&decide (c<=c')&&decide (r<=r')
def dT (c r c' r':Int):Int:=(c'-c+1)*(r'-r+1)
variable {s':ByteArray} {c' r':Int}
theorem ri:rh s c r s' c' r'=true↔cG s c r=true∧cG s' c' r'=true∧s=s'∧c<=c'∧r<=r':=by simp[rh,and_assoc]
theorem Sl (h:cG s c r=false):rh s c r s' c' r'=false:=by simp[rh,h]
theorem Sm (h:cG s' c' r'=false):rh s c r s' c' r'=false:=by simp[rh,h]
theorem Sn (h: ¬s=s'):rh s c r s' c' r'=false:=by simp[rh,h]
theorem So (h: ¬c<=c'):rh s c r s' c' r'=false:=by simp[rh,h]
theorem Sp (h: ¬r<=r'):rh s c r s' c' r'=false:=by simp[rh,h]
def Ar (s:ByteArray) (c r:Int) (s':ByteArray) (c' r':Int):V:=
 if rh s c r s' c' r'=true then .tup [.x (.int .i64 (dT c r c' r')),.x (.bool true)] else .tup [.x (.int .i64 0),.x (.bool false)]
theorem gx (h:rh s c r s' c' r'=false):Ar s c r s' c' r'= .tup [.x (.int .i64 0),.x (.bool false)]:=by unfold Ar;rw[YL (by rw[h];decide)]
theorem pJ (h:rh s c r s' c' r'=true):Ar s c r s' c' r'= .tup [.x (.int .i64 (dT c r c' r')),.x (.bool true)]:=YG h
theorem As (h1:1<=c) (h2:c'<=702) (h3:1<=r) (h4:r'<=999) (h5:c<=c') (h6:r<=r'):1<=dT c r c' r'∧dT c r c' r'<=1000000:=by
 unfold dT;obtain⟨a,ha⟩:∃a:Nat,c'-c=a:=⟨(c'-c).toNat,A0b⟩;obtain⟨b,hb⟩:∃b:Nat,r'-r=b:=⟨(r'-r).toNat,A0b⟩;rw[ha,hb];have h:(a+1)*(b+1)<=702*999:=abz A0b A0b;have h':1*1<=(a+1)*(b+1):=abz A0b A0b;have e:((a:Int)+1)*((b:Int)+1)=(((a+1)*(b+1):Nat):Int):=by push_cast;rfl
 rw[e];omega
def pK:List V->Option V
 |[.agg [.x (.string s),.x (.int .i64 c),.x (.int .i64 r),.x (.string s'),.x (.int .i64 c'),.x (.int .i64 r')]]=>some (Ar s c r s' c' r')
 |_=>none
theorem Cy:cM 57 pK:=by
 refine aT (E:=ba [(43,dA)]) (k:=1) (bV _ ⟨nD,trivial⟩) A0a Tryz.func57 rfl (fun a w=>Tryz.call57 a w) Tryz.ntmps57 A0a A0c A0c ?_;intro us r hF hdat;unfold pK at hF;split at hF
 case h_2=>cases hF
 rename_i s c r s' c' r';cases hF;refine⟨rfl,?_⟩;cases hR:cG s c r
 . rw[gx (Sl hR)];simp +decide (maxDischargeDepth:=200) only[go_sem,dA,hR]
 . cases hR':cG s' c' r'
   . rw[gx (Sm hR')];simp +decide (maxDischargeDepth:=200) only[go_sem,dA,hR,hR']
   . by_cases hs:s=s'
     . obtain⟨_,b1,b2,b3,b4⟩:=g8.1 hR;obtain⟨_,b1',b2',b3',b4'⟩:=g8.1 hR';have ds:=Yz hs;have w1:aw .i64 (c'-c)=c'-c:=ak A0h;have w2:aw .i64 (c'-c+1)=c'-c+1:=ak A0h;have w3:aw .i64 (r'-r)=r'-r:=ak A0h;have w4:aw .i64 (r'-r+1)=r'-r+1:=ak A0h;by_cases hc:c<=c'
       . by_cases hr:r<=r'
         . have ha:=As b1 b2' b3 b4' hc hr;have w5:aw .i64 ((c'-c+1)*(r'-r+1))=dT c r c' r':=ak (by show inR (dT c r c' r');unfold inR;omega);rw[pJ (ri.2 ⟨hR,hR',hs,hc,hr⟩)];have d1:decide (c'<c)=false:=YA A0b;have d2:decide (r'<r)=false:=YA A0b;simp +decide (maxDischargeDepth:=200) only[go_sem,dA,hR,hR',ds,w1,w2,w3,w4,w5,d1,d2]
         . have d1:decide (c'<c)=false:=YA A0b;have d2:decide (r'<r)=true:=Yz A0b;rw[gx (Sp hr)];simp +decide (maxDischargeDepth:=200) only[go_sem,dA,hR,hR',ds,d1,d2]
       . have d1:decide (c'<c)=true:=Yz A0b;rw[gx (So hc)];simp +decide (maxDischargeDepth:=200) only[go_sem,dA,hR,hR',ds,d1]
     . have ds:=YA hs;rw[gx (Sn hs)];simp +decide (maxDischargeDepth:=200) only[go_sem,dA,hR,hR',ds]
def gr (b:UInt8):Bool:=decide (65<=b.toNat)&&decide (b.toNat<=90)
theorem Gd (h:eH s=true):s.size<=8:=by simp only[eH,YH,Zh] at h;exact h.1.1.2
end Go.Proofs.YtmfojhkjbkombaaGreat
