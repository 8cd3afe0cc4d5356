/- strconv.Itoa, as a function of plain data. -/
import Derived.Test.YtmfojhkjbkombaaGreatMPO
import Derived.Test.YtmfojhkjbkombaaGreatShelf
import Derived.Test.YtmfojhkjbkombaaGreatBase
import Derived.Lib.ItoaLen
import Derived.Deep.RegionHeld3
import Derived.Test.YtmfojhkjbkombaaGreatMAd
import Derived.Lib.Small
namespace Go.Proofs.YtmfojhkjbkombaaGreat
set_option linter.unusedSimpArgs false
set_option maxHeartbeats 4000000
set_option maxRecDepth 100000
open Go Go.RowKit
attribute [go_sem] Tryz.results42 Tryz.results44 Tryz.results60 Tryz.results61 Tryz.results74 Tryz.results75 Tryz.results102
def dJ (s:ByteArray) (c r:Int) (s':ByteArray) (c' r':Int):Bool:=if s=s' then (if r=r' then decide (c<c') else decide (r<r')) else Op.bytesLess s.toList s'.toList
def bh:List V->Option V
 |[.agg [.x (.string s),.x (.int .i64 c),.x (.int .i64 r)],.agg [.x (.string s'),.x (.int .i64 c'),.x (.int .i64 r')]]=>some (.x (.bool (dJ s c r s' c' r')))
 |_=>none
def CK:List V->Option V
 |[.x (.string _)]=>some (.x (.bool false))
 |_=>none
theorem Ky:cM 102 CK:=by
 refine aT (E:=ba []) (k:=1) (bV _ trivial) A0a Tryz.func102 rfl (fun a w=>Tryz.call102 a w) Tryz.ntmps102 A0a A0c A0c ?_;intro us r hF hdat;unfold CK at hF;split at hF
 case h_2=>cases hF
 rename_i s;cases hF;refine⟨rfl,?_⟩;have d0:decide (s=s)=true:=Yz rfl;simp +decide (maxDischargeDepth:=200) only[go_sem,d0]
def kV (a b:ByteArray):Int:=if Op.bytesLess a.toList b.toList=true then-1 else if a=b then 0 else 1
def At:List V->Option V
 |[.x (.string a),.x (.string b)]=>some (.x (.int .i64 (kV a b)))
 |_=>none
theorem Gj:cM 75 At:=by
 refine aT (E:=ba [(102,CK)]) (k:=2) (bV _ ⟨Ky,trivial⟩) A0a Tryz.func75 rfl (fun a w=>Tryz.call75 a w) Tryz.ntmps75 A0a A0c A0c ?_;intro us r hF hdat;unfold At at hF;split at hF
 case h_2=>cases hF
 rename_i a b;cases hF;refine⟨rfl,?_⟩;cases hl:Op.bytesLess a.toList b.toList
 . by_cases he:a=b
   . have e:kV a b=0:=by subst he;simp[kV,hl]
     have d0:=Yz he;simp +decide (maxDischargeDepth:=200) only[go_sem,CK,hl,d0,e]
   . have e:kV a b=1:=by simp[kV,hl,he]
     have d0:=YA he;simp +decide (maxDischargeDepth:=200) only[go_sem,CK,hl,d0,e]
 . have e:kV a b= -1:=by simp[kV,hl]
   simp +decide (maxDischargeDepth:=200) only[go_sem,CK,hl,e]
def Au:List V->Option V
 |[.x (.int .i64 a),.x (.int .i64 b)]=>some (.x (.int .i64 (Lib.compareInt a b)))
 |_=>none
theorem Gk:cM 76 Au:=by
 refine⟨fun a w=>Tryz.call76 a w,fun m w vs us r hF hd hr hj hg=>?_⟩;unfold Au at hF;split at hF
 case h_2=>cases hF
 rename_i a b;cases hF;obtain rfl:=Ao (xs:=[.int .i64 a,.int .i64 b]) hr rfl;refine(Tryz.cmp_Compare_int a b w).mono ?_;rintro e w' ⟨rfl,rfl⟩;exact⟨_,m,rfl,.x _,Below.refl _ _,fun _ _=>rfl⟩
def nK:List V->Option (List Int)
 |[]=>some []
 | .x (.int .i64 n)::l=>match nK l with
   |some r=>some (n::r)
   |none=>none
 |_=>none
def Av (n:Int):V:= .x (.int .i64 n)
theorem pO:∀{es:List V} {l:List Int},nK es=some l->es=l.map Av
 |[],l,h=>by cases h;rfl
 | e ::es,l,h=>by
   unfold nK at h;split at h
   . cases ‹e::es=[]›
   . rename_i n l' he;cases he;split at h
     . rename_i r hr;cases h;rw[pO hr];rfl
     . cases h
   . cases h
def IK:List Int->Int
 |[]=>0
 |n::l=>if n=0 then IK l else n
theorem Gl:∀{l:List Int} {i:Nat} {n:Int},(∀(j:Nat) (k:Int),j<i->l[j]?=some k->k=0)->l[i]?=some n-> ¬n=0->IK l=n
 |[],i,n,_,h,_=>by simp at h
 |a::l,0,n,_,h,hn=>by simp at h;subst h;simp[IK,hn]
 |a::l,i+1,n,h0,h,hn=>by have ha:a=0:=h0 0 a A0b rfl;simp only[IK,ha,YX];exact Gl (i:=i) (fun j k hj hk=>h0 (j+1) k A0b A1f) (by simpa using h) hn
theorem t6:∀{l:List Int},(∀(j:Nat) (k:Int),l[j]?=some k->k=0)->IK l=0
 |[],_=>rfl
 |a::l,h=>by have ha:a=0:=h 0 a rfl;simp only[IK,ha,YX];exact t6 (fun j k hk=>h (j+1) k A1f)
def Ty:List V->Option V
 | [.sl _ 1 es none]=>match nK es with
   |some l=>if l.length<=1000000 then some (.x (.int .i64 (IK l))) else none
   |none=>none
 |_=>none
theorem Nw:cM 74 Ty:=by
 refine aT (E:=ba []) (k:=1) (bV _ trivial) A0a Tryz.func74 rfl (fun a w=>Tryz.call74 a w) Tryz.ntmps74 A0a A0c A0c ?_;intro us r hF hdat;unfold Ty at hF;split at hF
 case h_2=>cases hF
 rename_i nl es;split at hF
 case h_2=>cases hF
 rename_i l hl;split at hF
 case isFalse=>cases hF
 rename_i hle;cases hF;refine⟨rfl,?_⟩;obtain rfl:=pO hl;clear hl;have hsz:(((l.map Av).length:Nat):Int)=(l.length:Int):=by rw[eq]
 simp +decide (maxDischargeDepth:=200) only[go_sem];refine bc (X:={i:Nat//i<=l.length∧∀(j:Nat) (k:Int),j<i->l[j]?=some k->k=0}) (fun i=>[(3,.x (.int .i64 0)),(6,.sl nl 1 (l.map Av) none),(7,.x (.int .i64 (l.length:Int))),(8,.x (.int .i64 i.1))]) (fun _=>[]) (fun i=>l.length-i.1) ⟨0,A0b,fun j k hj=>by omega⟩ (by simp +decide only[go_sem,hsz];rfl) trivial (fun⟨i,hi,hz⟩=>?_);by_cases hil:i<l.length
 . have hb:l[i]?=some l[i]:=io hil;generalize l[i]=n at hb;have d0:decide ((i:Int)<(l.length:Int))=true:=Yz A0b;have c2:(0:Int)<=(i:Int):=A0b
   have c4:=aD (i:=i) A0b;have c5:(l.map Av)[((i:Int)).toNat]?=some (.x (.int .i64 n)):=by rw[tl,Io,hb];rfl
   by_cases hn:n=0
   . have d1:=Yz hn;simp +decide (maxDischargeDepth:=200) only[go_sem,d0,c2,c4,c5,d1];refine⟨⟨i+1,A0b,fun j k hj hk=>?_⟩,?_,trivial,by simp only;omega⟩
     . by_cases hji:j=i
       . subst hji;rw[hb] at hk;cases hk;exact hn
       . exact hz j k A0b hk
     . simp +decide only[go_sem]
   . have d1:=YA hn;have e:=Gl hz hb hn;simp +decide (maxDischargeDepth:=200) only[go_sem,d0,c2,c4,c5,d1,e]
 . have d0:decide ((i:Int)<(l.length:Int))=false:=YA A0b;have e:=t6 (l:=l) (fun j k hk=>hz j k (by have:=(iO.1 hk).1;omega) hk);simp +decide (maxDischargeDepth:=200) only[go_sem,d0,e]
theorem kq (a:ByteArray):Op.bytesLess a.toList a.toList=false:=by
 generalize a.toList=l
 induction l with
 |nil=>rfl
 |cons b l ih=>simp[Op.bytesLess,ih]
theorem Kz (s:ByteArray) (c r:Int) (s':ByteArray) (c' r':Int):decide (IK [kV s s',Lib.compareInt r r',Lib.compareInt c c']<0)=dJ s c r s' c' r':=by
 unfold dJ;by_cases hs:s=s'
 . subst hs;have e:kV s s=0:=by simp[kV,kq]
   rw[e,YG rfl];simp only[IK,YX,Lib.compareInt];rw[aaw];simp only[Zh];by_cases hr:r=r'
   . subst hr;simp only[Int.lt_irrefl,YU,YX,Zh];split
     . split at* <;>(try split at*)<;>omega
     . split at* <;>(try split at*)<;>omega
   . rw[YL hr];simp only[Zh];split<;>(try split)<;>(try split)<;>(try split)<;>omega
 . rw[YL hs];have e:kV s s'≠0:=by unfold kV;split<;>(try split)<;>simp_all
   simp only[IK,YL e];unfold kV;cases h:Op.bytesLess s.toList s'.toList
   . simp[hs]
   . simp
theorem Gm:cM 60 bh:=by
 refine aT (E:=ba [(75,At),(76,Au),(74,Ty)]) (k:=2) (bV _ ⟨Gj,Gk,Nw,trivial⟩) A0a Tryz.func60 rfl (fun a w=>Tryz.call60 a w) Tryz.ntmps60 A0a A0c A0c ?_;intro us r hF hdat;unfold bh at hF;split at hF
 case h_2=>cases hF
 rename_i s c r s' c' r';cases hF;refine⟨rfl,?_⟩;have e:=Kz s c r s' c' r';simp +decide (maxDischargeDepth:=200) only[go_sem,At,Au,Ty,nK,e]
theorem pP:cM 42 bh:=by
 refine aT (E:=ba []) (k:=2) (bV _ trivial) A0a Tryz.func42 rfl (fun a w=>Tryz.call42 a w) Tryz.ntmps42 A0a A0c A0c ?_;intro us r hF hdat;unfold bh at hF;split at hF
 case h_2=>cases hF
 rename_i s c r s' c' r';cases hF;refine⟨rfl,?_⟩;by_cases hs:s=s'
 . have ds:=Yz hs;by_cases hr:r=r'
   . have dr:=Yz hr;have e:dJ s c r s' c' r'=decide (c<c'):=by unfold dJ;rw[YG hs,YG hr]
     simp +decide (maxDischargeDepth:=200) only[go_sem,ds,dr,e]
   . have dr:=YA hr;have e:dJ s c r s' c' r'=decide (r<r'):=by unfold dJ;rw[YG hs,YL hr]
     simp +decide (maxDischargeDepth:=200) only[go_sem,ds,dr,e]
 . have ds:=YA hs;have e:dJ s c r s' c' r'=Op.bytesLess s.toList s'.toList:=by unfold dJ;rw[YL hs]
   simp +decide (maxDischargeDepth:=200) only[go_sem,ds,e]
def bY:List V->Option V
 |[.x (.string s)]=>if s.size<=281474976710656 then some (.x (.string s)) else none
 |_=>none
theorem xV:cM 77 bY:=by
 refine⟨fun a w=>Tryz.call77 a w,fun m w vs us r hF hd hr hj hg=>?_⟩;unfold bY at hF;split at hF
 case h_2=>cases hF
 rename_i s;split at hF
 . rename_i h;cases hF;obtain rfl:=Ao (xs:=[.string s]) hr rfl;refine(Tryz.stringslite_Clone s w h).mono ?_;rintro e w' ⟨rfl,hb⟩;exact⟨_,m,rfl,.x _,hb,fun _ _=>rfl⟩
 . cases hF
theorem pQ:cM 61 bY:=by
 refine aT (E:=ba [(77,bY)]) (k:=1) (bV _ ⟨xV,trivial⟩) A0a Tryz.func61 rfl (fun a w=>Tryz.call61 a w) Tryz.ntmps61 A0a A0c A0c ?_;intro us r hF hdat;unfold bY at hF;split at hF
 case h_2=>cases hF
 rename_i s;split at hF
 . rename_i h;cases hF;refine⟨rfl,?_⟩;simp +decide (maxDischargeDepth:=200) only[go_sem,bY,h]
 . cases hF
abbrev C3:=ByteArray×Int×Int
def aa (p:C3):V:= .agg [.x (.string p.1),.x (.int .i64 p.2.1),.x (.int .i64 p.2.2)]
def cellsOf:List V->Option (List C3)
 |[]=>some []
 | .agg [.x (.string s),.x (.int .i64 c),.x (.int .i64 r)]::l=>match cellsOf l with
   |some q=>some ((s,c,r)::q)
   |none=>none
 |_=>none
theorem jO:∀{es:List V} {l:List C3},cellsOf es=some l->es=l.map aa
 |[],l,h=>by cases h;rfl
 | e ::es,l,h=>by
   unfold cellsOf at h;split at h
   . cases ‹e::es=[]›
   . rename_i s c r l' he;cases he;split at h
     . rename_i q hq;cases h;rw[jO hq];rfl
     . cases h
   . cases h
theorem iT:∀l:List C3,cellsOf (l.map aa)=some l
 |[]=>rfl
 |(s,c,r)::l=>by show(match cellsOf (l.map aa) with|some q=>some ((s,c,r)::q)|none=>none)=_;rw[iT l]
def eI (p q:C3):Bool:=decide (p=q)
theorem Sr (s:ByteArray) (c r:Int) (s':ByteArray) (c' r':Int):(decide (s=s')&&(decide (c=c')&&decide (r=r')))=eI (s,c,r) (s',c',r'):=by unfold eI;rw[aaw];simp[Prod.mk.injEq]
variable {l:List C3}
theorem dB {i:Nat} {p:C3} (h:l[i]?=some p):(l.map aa)[((i:Int)).toNat]?=some (aa p):=by rw[tl,Io,h];rfl
theorem bJ (p:C3):aa p= .agg [.x (.string p.1),.x (.int .i64 p.2.1),.x (.int .i64 p.2.2)]:=rfl
theorem rk {i:Nat} (h:i<l.length):∃p,l[i]?=some p:=⟨_,io h⟩
def mi (s:ByteArray) (c r:Int) (k:Nat):List C3:=(List.range k).map fun(x:Nat)=>(s,c+(x:Int),r)
def dF (s:ByteArray) (c r:Int) (k:Nat):Nat->List C3
 |0=>[]
 |h+1=>dF s c r k h++mi s c (r+(h:Int)) k
theorem CL (s:ByteArray) (c r:Int) (k:Nat):mi s c r (k+1)=mi s c r k++[(s,c+(k:Int),r)]:=by simp[mi,aaC]
theorem t7 (s:ByteArray) (c r:Int) (k:Nat):(mi s c r k).length=k:=by simp[mi]
theorem ia (s:ByteArray) (c r:Int) (k:Nat):∀h,(dF s c r k h).length=h*k
 |0=>by simp[dF]
 |h+1=>by simp[dF,ia s c r k h,t7,ZC]
variable {L:List C3}
theorem CM (h:L.length<=1000000) (l:List (Nat×(List V->Option V))) (s:ByteArray) (c r:Int) (st:St) (d tok:Nat) (nl:Bool) (t':Option Nat):
 bq (ba l) st (some d) 37 (.sl false 3 (L.map aa) (some tok)) (.sl nl 3 [.agg [.x (.string s),.x (.int .i64 c),.x (.int .i64 r)]] t')=some ⟨upd (strip tok (strip d st.t)) d (.sl false 3 (L.map aa++[.agg [.x (.string s),.x (.int .i64 c),.x (.int .i64 r)]]) (some d)),st.b⟩:=by
 have e1:bm (ba l).P 37=some 3:=ns;have e2:bT (ba l).P 37=some 32:=nt;have e3:ay (ba l).P 37=some _:=nu;unfold bq;simp only[e1,e2,e3];rw[YG ⟨A0c,rfl,trivial,.inl trivial,rfl,by rw[eq];simp only[YI,Zd];omega,by rw[eq];simp only[YI,Zd];omega⟩];rfl
theorem nL (l:List (Nat×(List V->Option V))) (s:ByteArray) (c r:Int) (st:St) (d n:Nat) (tok:Option Nat) (nl:Bool) (t':Option Nat):
 bq (ba l) st (some d) 37 (.sl true n [] tok) (.sl nl 3 [.agg [.x (.string s),.x (.int .i64 c),.x (.int .i64 r)]] t')=some ⟨upd (kK tok (strip d st.t)) d (.sl false 3 [.agg [.x (.string s),.x (.int .i64 c),.x (.int .i64 r)]] (some d)),st.b⟩:=by
 have e1:bm (ba l).P 37=some 3:=ns;have e2:bT (ba l).P 37=some 32:=nt;have e3:ay (ba l).P 37=some _:=nu;unfold bq;simp only[e1,e2,e3];rw[YG ⟨A0c,rfl,.inl trivial,rfl,by simp only[YI,Zd];omega,by simp only[YI,Zd];omega⟩];cases tok<;>rfl
theorem jb (L:List C3) (s:ByteArray) (c r:Int):L.map aa++[.agg [.x (.string s),.x (.int .i64 c),.x (.int .i64 r)]]=(L++[(s,c,r)]).map aa:=by rw[Y4];rfl
def jP (s:ByteArray) (c r:Int) (s':ByteArray) (c' r':Int):Option (List C3):=
 if rh s c r s' c' r'=true∧dT c r c' r'<=400 then some (dF s c r (c'-c+1).toNat (r'-r+1).toNat) else none
def jQ:List V->Option V
 | [.agg [.x (.string s),.x (.int .i64 c),.x (.int .i64 r),.x (.string s'),.x (.int .i64 c'),.x (.int .i64 r')]]=>match jP s c r s' c' r' with
   |some l=>some (.sl false 3 (l.map aa) none)
   |none=>some (.sl true 0 [] none)
 |_=>none
def t8 (nil0:Bool) (tok:Nat) (L:List C3):V:=if nil0=true∧L=[] then .sl true 0 [] none else .sl false 3 (L.map aa) (some tok)
variable {nil0:Bool} {tok:Nat}
theorem KA (h:nil0=true):t8 nil0 tok []= .sl true 0 [] none:=by simp[t8,h]
theorem xW (h: ¬(nil0=true∧L=[])):t8 nil0 tok L= .sl false 3 (L.map aa) (some tok):=YL h
theorem ua (L:List C3) (p:C3):t8 nil0 tok (L++[p])= .sl false 3 ((L++[p]).map aa) (some tok):=xW A0j
theorem xX :cM 44 jQ:=by
 refine aT (E:=ba [(57,pK)]) (k:=1) (bV _ ⟨Cy,trivial⟩) A0a Tryz.func44 rfl (fun a w=>Tryz.call44 a w) Tryz.ntmps44 A0a A0c A0c ?_;intro us r hF hdat;unfold jQ at hF;split at hF
 case h_2=>cases hF
 rename_i s c r s' c' r';cases hok:rh s c r s' c' r'
 . have ha:=gx hok;have hc:jP s c r s' c' r'=none:=YL (by rw[hok];simp);rw[hc] at hF;cases hF;refine⟨rfl,?_⟩;simp +decide (maxDischargeDepth:=200) only[go_sem,pK,ha]
 . have ha :=pJ hok;by_cases h4:dT c r c' r'<=400
   . have hc:jP s c r s' c' r'=some (dF s c r (c'-c+1).toNat (r'-r+1).toNat):=YG ⟨hok,h4⟩;rw[hc] at hF;obtain⟨hR,hR',rfl,hcc,hrr⟩:=ri.1 hok;obtain⟨hn,b1,b2,b3,b4⟩:=g8.1 hR;obtain⟨_,b1',b2',b3',b4'⟩:=g8.1 hR';have hin:=As b1 b2' b3 b4' hcc hrr;have hsl:s.size<=281474976710656:=by have:=Gd hn;omega
     obtain⟨k,hk⟩:∃k,(c'-c+1).toNat=k:=⟨_,rfl⟩;obtain⟨h,hh⟩:∃h,(r'-r+1).toNat=h:=⟨_,rfl⟩;have hkh:h*k<=400:=by
      have e1:c'-c+1=(k:Int):=A0b
      have e2:r'-r+1=(h:Int):=A0b
      have:((h*k:Nat):Int)<=400:=by have h5:=h4;unfold dT at h5;rw[e1,e2] at h5;push_cast;rw[Int.mul_comm];exact h5
      omega
     rw[hk,hh] at hF;cases hF;refine⟨rfl,?_⟩;have d4:decide (400<dT c r c' r')=false:=YA A0b;have m1:(0:Int)<=dT c r c' r':=A0b
     have m2:(32:Int)*dT c r c' r'<=281474976710656:=A0b
     have m2':((32:Nat):Int)*dT c r c' r'<=281474976710656:=A0b
     have m3:dT c r c' r'<=9223372036854775807:=A0b
     simp +decide (maxDischargeDepth:=200) only[go_sem,pK,ha,d4,bY,hsl,m1,m2,m2',m3];refine bc (X:={p:Nat×Nat//p.1<=h∧(p.2=47∨p.2=47)}) (fun p=>[(1,.ptr 1 0),(2,.sl true 0 [] none),(5,t8 true p.1.2 (dF s c r k p.1.1)),(6,.x (.int .i64 (r+(p.1.1:Int))))]) (fun _=>[(1,[.x (.string s),.x (.int .i64 c),.x (.int .i64 r),.x (.string s),.x (.int .i64 c'),.x (.int .i64 r')])]) (fun p=>h-p.1.1) ⟨(0,47),A0j⟩ (by simp +decide only[go_sem,dF];simp[t8]) A06 (fun⟨⟨y,tk⟩,hy,htk⟩=>?_);simp only at hy htk;by_cases hyh:y<h
     . have e0:decide (r+(y:Int)<=r')=true:=Yz A0b;have e9:aw .i64 (r+(y:Int)+1)=r+((y+1:Nat):Int):=by rw[ak A0h];omega
       simp +decide (maxDischargeDepth:=200) only[go_sem,e0];refine bc (X:={p:Nat×Nat//p.1<=k∧(p.2=47∨p.2=47)}) (fun p=>[(1,.ptr 1 0),(2,.sl true 0 [] none),(5,t8 true p.1.2 (dF s c r k y++mi s c (r+(y:Int)) p.1.1)),(6,.x (.int .i64 (r+(y:Int)))),(7,.x (.int .i64 (c+(p.1.1:Int))))]) (fun _=>[(1,[.x (.string s),.x (.int .i64 c),.x (.int .i64 r),.x (.string s),.x (.int .i64 c'),.x (.int .i64 r')])]) (fun p=>k-p.1.1) ⟨(0,tk),by simpa using htk⟩ (by simp +decide only[go_sem];simp[mi]) A06 (fun⟨⟨x,tk⟩,hx,htk⟩=>?_);simp only at hx htk;by_cases hxk:x<k
       . have e1:decide (c+(x:Int)<=c')=true:=Yz A0b;have e3:aw .i64 (c+(x:Int)+1)=c+((x+1:Nat):Int):=by rw[ak A0h];omega
         have hlen:(dF s c r k y++mi s c (r+(y:Int)) x).length<=400:=by rw[YD,ia,t7];have:(y+1)*k<=h*k:=Zr _ A0b;rw[ZC,aaS] at this;omega
         have e6:(dF s c r k y++mi s c (r+(y:Int)) x)++[(s,c+(x:Int),r+(y:Int))]=dF s c r k y++mi s c (r+(y:Int)) (x+1):=by rw[CL,Zw]
         generalize hL:dF s c r k y++mi s c (r+(y:Int)) x=L at hlen e6;have g1:((L.map aa).length+1)*32<=140737488355328:=A0v
         have g2:(L.map aa).length+1<=9223372036854775807:=A0v
         by_cases hnil:true=true∧L=[]
         . obtain⟨hn0,rfl⟩:=hnil;have a0:=KA (tok:=tk) hn0;simp +decide (maxDischargeDepth:=200) only[go_sem,a0,e1,e3,nL,jb];refine⟨⟨(x+1,47),A0y⟩,?_,?_,by simp only;omega⟩
           . simp +decide only[go_sem,<-e6,ua,jb];simp[t8,aa]
           . simp +decide only[go_sem]
         . have a0:=xW (tok:=tk) hnil;simp +decide (maxDischargeDepth:=200) only[go_sem,a0,e1,e3,CM (L:=L) A0b,nL,jb];refine⟨⟨(x+1,47),A0y⟩,?_,?_,by simp only;omega⟩
           . simp +decide only[go_sem,<-e6,ua,jb]
           . simp +decide only[go_sem]
       . have e1:decide (c+(x:Int)<=c')=false:=YA A0b;have hxe:x=k:=A0b
         subst hxe;simp +decide (maxDischargeDepth:=200) only[go_sem,e1,e9];refine⟨⟨(y+1,tk),by simp only;omega,by simp only;exact htk⟩,?_,?_,by simp only;omega⟩
         . simp +decide only[go_sem,dF]
         . simp +decide only[go_sem]
     . have e0:decide (r+(y:Int)<=r')=false:=YA A0b;have hye:y=h:=A0b
       subst hye;have hne: ¬(true=true∧dF s c r k y=[]):=by rintro⟨_,hh0⟩;have:=ia s c r k y;rw[hh0] at this;have hp:0<y*k:=Nat.mul_pos A0b A0b;simp at this;omega
       have a0:=xW (tok:=tk) hne;simp +decide (maxDischargeDepth:=200) only[go_sem,e0,a0]
   . have hc:jP s c r s' c' r'=none:=YL (fun hh=>h4 hh.2);rw[hc] at hF;cases hF;refine⟨rfl,?_⟩;have d4:decide (400<dT c r c' r')=true:=Yz A0b;simp +decide (maxDischargeDepth:=200) only[go_sem,pK,ha,d4]
end Go.Proofs.YtmfojhkjbkombaaGreat
