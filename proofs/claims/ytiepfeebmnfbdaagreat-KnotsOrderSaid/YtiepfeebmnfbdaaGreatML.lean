/- ML -/
import Derived.Test.YtiepfeebmnfbdaaGreatShelf
import Derived.Lib.ItoaLen
import Derived.Deep.RegionHeld3
import Derived.Test.YtiepfeebmnfbdaaGreatMAd
import Derived.Lib.Small
namespace Go.Proofs.YtiepfeebmnfbdaaGreat
open Tryz
set_option linter.unusedSimpArgs false
set_option maxHeartbeats 4000000
set_option maxRecDepth 100000
open Go Go.RowKit
attribute [go_sem] results27 results29 results57 results58 results60 results69 results70 results71 results97 results98
theorem Z7{P:Prop}(h:P:=by have hc:dT s c r s' c' r'=none:=adq (fun hh=>h4 hh.2);rw[hc] at hF;cases hF;refine⟨rfl,?_⟩;have d4:decide (400<cE c r c' r')=true:=ac0 A0b;simp +decide only[go_sem,eR,ha,d4]):P:=h
theorem Z8{P:Prop}(h:P:=by have ha:=cU hok;have hc:dT s c r s' c' r'=none:=adq (by rw[hok];simp);rw[hc] at hF;cases hF;refine⟨rfl,?_⟩;simp +decide only[go_sem,eR,ha]):P:=h
theorem Z9{P:Prop}(h:P:=by rename_i s;cases hF;refine⟨rfl,?_⟩;have d0:decide (s=s)=true:=ac0 rfl;simp +decide only[go_sem,d0]):P:=h
theorem Xz{P:Prop}(h:P:=by simp +decide only[go_sem]):P:=h
def sM:U->Option V
 |[.x (.int .i64 _)]=>some (.bool false)
 |_=>none
theorem J8:cg 98 sM:=by
 refine aE (E:=aI []) (k:=1) (aU _ trivial) A0a func98 rfl (fun a w=>call98 a w) ntmps98 A0a A0c A0c ?_;intro us r hF hdat;unfold sM at hF;split at hF
 case h_2=>cases hF
 exact Z9
def DN:U->Option V
 |[.x (.int .i64 a),.x (.int .i64 b)]=>some (.i (Lib.compareInt a b))
 |_=>none
theorem J9:cg 71 DN:=by
 refine aE (E:=aI [(98,sM)]) (k:=2) (aU _ ⟨J8,trivial⟩) A0a func71 rfl (fun a w=>call71 a w) ntmps71 A0a A0c A0c ?_;intro us r hF hdat;unfold DN at hF;split at hF
 case h_2=>cases hF
 rename_i a b;cases hF;refine⟨rfl,?_⟩;by_cases h:a<b
 . have d0:=ac0 h;have e:Lib.compareInt a b= -1:=adl h;simp +decide only[go_sem,sM,d0,e]
 . have d0:=Io h;by_cases h':b<a
   . have d1:=ac0 h';have e:Lib.compareInt a b=1:=by unfold Lib.compareInt;rw[adq h];split<;>first|rfl|omega
     simp +decide only[go_sem,sM,d0,d1,e]
   . have d1:=Io h';have e:Lib.compareInt a b=0:=by unfold Lib.compareInt;rw[adq h];split<;>first|rfl|omega
     simp +decide only[go_sem,sM,d0,d1,e]
def pZ:U->Option (List Int)
 |[]=>some []
 | .x (.int .i64 n)::l=>match pZ l with
   |some r=>some (n::r)
   |none=>none
 |_=>none
def DO(n:Int):V:= .i n
theorem sN:∀{es:U} {l:List Int},pZ es=some l->es=l.map DO
 |[],l,h=>by cases h;rfl
 | e ::es,l,h=>by
   unfold pZ at h;split at h
   . cases ‹e::es=[]›
   . rename_i n l' he;cases he;split at h
     . rename_i r hr;cases h;rw[sN hr];rfl
     . cases h
   . cases h
def MR:List Int->Int
 |[]=>0
 |n::l=>if n=0 then MR l else n
theorem Ka:∀{l:List Int} {i:Nat} {n:Int},(∀(j:Nat) (k:Int),j<i->l[j]?=some k->k=0)->l[i]?=some n-> ¬n=0->MR l=n
 |[],i,n,_,h,_=>by simp at h
 |a::l,0,n,_,h,hn=>by simp at h;subst h;simp[MR,hn]
 |a::l,i+1,n,h0,h,hn=>by have ha:a=0:=h0 0 a A0b rfl;simp only[MR,ha,adB];exact Ka (i:=i) (fun j k hj hk=>h0 (j+1) k A0b A1h) (by simpa using h) hn
theorem xp:∀{l:List Int},(∀(j:Nat) (k:Int),l[j]?=some k->k=0)->MR l=0
 |[],_=>rfl
 |a::l,h=>by have ha:a=0:=h 0 a rfl;simp only[MR,ha,adB];exact xp (fun j k hk=>h (j+1) k A1h)
def Y5:U->Option V
 | [.sl _ 1 es none]=>match pZ es with
   |some l=>if l.length<=1000000 then some (.i (MR l)) else none
   |none=>none
 |_=>none
theorem Sx:cg 69 Y5:=by
 refine aE (E:=aI []) (k:=1) (aU _ trivial) A0a func69 rfl (fun a w=>call69 a w) ntmps69 A0a A0c A0c ?_;intro us r hF hdat;unfold Y5 at hF;split at hF
 case h_2=>cases hF
 rename_i nl es;split at hF
 case h_2=>cases hF
 rename_i l hl;split at hF
 case isFalse=>cases hF
 rename_i hle;cases hF;refine⟨rfl,?_⟩;obtain rfl:=sN hl;have hsz:(((l.map DO).length:Nat):Int)=(l.length:Int):=by rw[eq]
 simp +decide only[go_sem];refine aT (X:={i:Nat//i<=l.length∧∀(j:Nat) (k:Int),j<i->l[j]?=some k->k=0}) (fun i=>[(3,.i 0),(6,.sl nl 1 (l.map DO) none),(7,.i l.length),(8,.i i.1)]) (fun _=>[]) (fun i=>l.length-i.1) ⟨0,A0b,fun j k hj=>by omega⟩ (by simp +decide only[go_sem,hsz];rfl) trivial (fun⟨i,hi,hz⟩=>?_);by_cases hil:i<l.length
 . have hb:l[i]?=some l[i]:=io hil;generalize l[i]=n at hb;have d0:decide ((i:Int)<l.length)=true:=ac0 A0b;have c2:(0:Int)<=(i:Int):=A0b
   have c4:=ax (i:=i) A0b;have c5:(l.map DO)[((i:Int)).toNat]?=some (.i n):=by rw[tl,ac9,hb];rfl
   by_cases hn:n=0
   . have d1:=ac0 hn;simp +decide only[go_sem,d0,c2,c4,c5,d1];refine⟨⟨i+1,A0b,fun j k hj hk=>?_⟩,?_,trivial,by simp only;omega⟩
     . by_cases hji:j=i
       . subst hji;rw[hb] at hk;cases hk;exact hn
       . exact hz j k A0b hk
     . exact Xz
   . have d1:=Io hn;have e:=Ka hz hb hn;simp +decide only[go_sem,d0,c2,c4,c5,d1,e]
 . have d0:decide ((i:Int)<l.length)=false:=Io A0b;have e:=xp (l:=l) (fun j k hk=>hz j k (by have:=(iO.1 hk).1;omega) hk);simp +decide only[go_sem,d0,e]
def Y6(s:ByteArray)(c r:Int)(s':ByteArray)(c' r':Int)(s0:ByteArray)(c0 r0:Int):Bool:=lV s c r s' c' r'&&(decide (s0=s)&&(decide (c<=c0)&&(decide (c0<=c')&&(decide (r<=r0)&&decide (r0<=r')))))
def eF(s:ByteArray)(c r:Int)(s':ByteArray)(c' r':Int):Bool:=if s=s' then (if r=r' then decide (c<c') else decide (r<r')) else Op.bytesLess s.toList s'.toList
def bp:U->Option V
 |[.agg [.x (.string s),.x (.int .i64 c),.x (.int .i64 r)],.agg [.x (.string s'),.x (.int .i64 c'),.x (.int .i64 r')]]=>some (.bool (eF s c r s' c' r'))
 |_=>none
def Gk:U->Option V
 |[.x (.string _)]=>some (.bool false)
 |_=>none
theorem OV:cg 97 Gk:=by
 refine aE (E:=aI []) (k:=1) (aU _ trivial) A0a func97 rfl (fun a w=>call97 a w) ntmps97 A0a A0c A0c ?_;intro us r hF hdat;unfold Gk at hF;split at hF
 case h_2=>cases hF
 exact Z9
def nF(a b:ByteArray):Int:=if Op.bytesLess a.toList b.toList=true then-1 else if a=b then 0 else 1
def DQ:U->Option V
 |[.x (.string a),.x (.string b)]=>some (.i (nF a b))
 |_=>none
theorem Kb:cg 70 DQ:=by
 refine aE (E:=aI [(97,Gk)]) (k:=2) (aU _ ⟨OV,trivial⟩) A0a func70 rfl (fun a w=>call70 a w) ntmps70 A0a A0c A0c ?_;intro us r hF hdat;unfold DQ at hF;split at hF
 case h_2=>cases hF
 rename_i a b;cases hF;refine⟨rfl,?_⟩;cases hl:Op.bytesLess a.toList b.toList
 . by_cases he:a=b
   . have e:nF a b=0:=by subst he;simp[nF,hl]
     have d0:=ac0 he;simp +decide only[go_sem,Gk,hl,d0,e]
   . have e:nF a b=1:=by simp[nF,hl,he]
     have d0:=Io he;simp +decide only[go_sem,Gk,hl,d0,e]
 . have e:nF a b= -1:=by simp[nF,hl]
   simp +decide only[go_sem,Gk,hl,e]
theorem mM(a:ByteArray):Op.bytesLess a.toList a.toList=false:=by
 generalize a.toList=l
 induction l with
 |nil=>rfl
 |cons b l ih=>simp[Op.bytesLess,ih]
theorem OW(s:ByteArray)(c r:Int)(s':ByteArray)(c' r':Int):decide (MR [nF s s',Lib.compareInt r r',Lib.compareInt c c']<0)=eF s c r s' c' r':=by
 unfold eF;by_cases hs:s=s'
 . subst hs;have e:nF s s=0:=by simp[nF,mM]
   rw[e,adl rfl];simp only[MR,adB,Lib.compareInt];rw[ae3];simp only[adS];by_cases hr:r=r'
   . subst hr;simp only[Int.lt_irrefl,adw,adB,adS];split
     . split at* <;>(try split at*)<;>omega
     . split at* <;>(try split at*)<;>omega
   . rw[adq hr];simp only[adS];split<;>(try split)<;>(try split)<;>(try split)<;>omega
 . rw[adq hs];have e:nF s s'≠0:=by unfold nF;split<;>(try split)<;>simp_all
   simp only[MR,adq e];unfold nF;cases h:Op.bytesLess s.toList s'.toList
   . simp[hs]
   . simp
theorem xq:cg 57 bp:=by
 refine aE (E:=aI [(70,DQ),(71,DN),(69,Y5)]) (k:=2) (aU _ ⟨Kb,J9,Sx,trivial⟩) A0a func57 rfl (fun a w=>call57 a w) ntmps57 A0a A0c A0c ?_;intro us r hF hdat;unfold bp at hF;split at hF
 case h_2=>cases hF
 rename_i s c r s' c' r';cases hF;refine⟨rfl,?_⟩;have e:=OW s c r s' c' r';simp +decide (maxDischargeDepth:=200) only[go_sem,DQ,DN,Y5,pZ,e]
theorem sO:cg 27 bp:=by
 refine aE (E:=aI []) (k:=2) (aU _ trivial) A0a func27 rfl (fun a w=>call27 a w) ntmps27 A0a A0c A0c ?_;intro us r hF hdat;unfold bp at hF;split at hF
 case h_2=>cases hF
 rename_i s c r s' c' r';cases hF;refine⟨rfl,?_⟩;by_cases hs:s=s'
 . have ds:=ac0 hs;by_cases hr:r=r'
   . have dr:=ac0 hr;have e:eF s c r s' c' r'=decide (c<c'):=by unfold eF;rw[adl hs,adl hr]
     simp +decide (maxDischargeDepth:=200) only[go_sem,ds,dr,e]
   . have dr:=Io hr;have e:eF s c r s' c' r'=decide (r<r'):=by unfold eF;rw[adl hs,adq hr]
     simp +decide (maxDischargeDepth:=200) only[go_sem,ds,dr,e]
 . have ds:=Io hs;have e:eF s c r s' c' r'=Op.bytesLess s.toList s'.toList:=by unfold eF;rw[adq hs]
   simp +decide (maxDischargeDepth:=200) only[go_sem,ds,e]
def cw:U->Option V
 |[.x (.string s)]=>if s.size<=281474976710656 then some (.x (.string s)) else none
 |_=>none
theorem Br:cg 72 cw:=by
 refine⟨fun a w=>call72 a w,fun m w vs us r hF hd hr hj hg=>?_⟩;unfold cw at hF;split at hF
 case h_2=>cases hF
 rename_i s;split at hF
 . rename_i h;cases hF;obtain rfl:=N3 (xs:=[.string s]) hr rfl;refine(stringslite_Clone s w h).mono ?_;rintro e w' ⟨rfl,hb⟩;exact⟨_,m,rfl,.x _,hb,fun _ _=>rfl⟩
 . cases hF
theorem nG:cg 58 cw:=by
 refine aE (E:=aI [(72,cw)]) (k:=1) (aU _ ⟨Br,trivial⟩) A0a func58 rfl (fun a w=>call58 a w) ntmps58 A0a A0c A0c ?_;intro us r hF hdat;unfold cw at hF;split at hF
 case h_2=>cases hF
 rename_i s;split at hF
 . rename_i h;cases hF;refine⟨rfl,?_⟩;simp +decide only[go_sem,cw,h]
 . cases hF
abbrev C3:=ByteArray×Int×Int
def aa(p:C3):V:= .agg [.x (.string p.1),.i p.2.1,.i p.2.2]
def cellsOf:U->Option (List C3)
 |[]=>some []
 | .agg [.x (.string s),.x (.int .i64 c),.x (.int .i64 r)]::l=>match cellsOf l with
   |some q=>some ((s,c,r)::q)
   |none=>none
 |_=>none
theorem lX:∀{es:U} {l:List C3},cellsOf es=some l->es=l.map aa
 |[],l,h=>by cases h;rfl
 | e ::es,l,h=>by
   unfold cellsOf at h;split at h
   . cases ‹e::es=[]›
   . rename_i s c r l' he;cases he;split at h
     . rename_i q hq;cases h;rw[lX hq];rfl
     . cases h
   . cases h
theorem iu:∀l:List C3,cellsOf (l.map aa)=some l
 |[]=>rfl
 |(s,c,r)::l=>by show(match cellsOf (l.map aa) with|some q=>some ((s,c,r)::q)|none=>none)=_;rw[iu l]
def eE(p q:C3):Bool:=decide (p=q)
theorem Sy(s:ByteArray)(c r:Int)(s':ByteArray)(c' r':Int):(decide (s=s')&&(decide (c=c')&&decide (r=r')))=eE (s,c,r) (s',c',r'):=by unfold eE;rw[ae3];simp[Prod.mk.injEq]
variable{l:List C3}
theorem cY{i:Nat}{p:C3}(h:l[i]?=some p):(l.map aa)[((i:Int)).toNat]?=some (aa p):=by rw[tl,ac9,h];rfl
theorem bw(p:C3):aa p= .agg [.x (.string p.1),.i p.2.1,.i p.2.2]:=rfl
theorem uu{i:Nat}(h:i<l.length):∃p,l[i]?=some p:=⟨_,io h⟩
def iY(s:ByteArray)(c r:Int)(k:Nat):List C3:=(List.range k).map fun(x:Nat)=>(s,c+(x:Int),r)
def cx(s:ByteArray)(c r:Int)(k:Nat):Nat->List C3
 |0=>[]
 |h+1=>cx s c r k h++iY s c (r+(h:Int)) k
theorem sP(s:ByteArray)(c r:Int)(k:Nat):iY s c r (k+1)=iY s c r k++[(s,c+(k:Int),r)]:=by simp[iY,afs]
theorem qa(s:ByteArray)(c r:Int)(k:Nat):(iY s c r k).length=k:=by simp[iY]
theorem dD(s:ByteArray)(c r:Int)(k:Nat):∀h,(cx s c r k h).length=h*k
 |0=>by simp[cx]
 |h+1=>by simp[cx,dD s c r k h,qa,aek]
variable{L:List C3}
abbrev AV(s c r):=([.agg [.x (.string s),.i c,.i r]]:List V)
theorem sQ(h:L.length<=1000000)(l:List (Nat×(U->Option V)))(s:ByteArray)(c r:Int)(st:St)(d tok:Nat)(nl:Bool)(t':Option Nat):
 bt (aI l) st (some d) 33 (.sl false 3 (L.map aa) (some tok)) (.sl nl 3 (AV s c r) t')=some ⟨upd (strip tok (strip d st.t)) d (.sl false 3 (L.map aa++(AV s c r)) (some d)),st.b⟩:=by
 have e1:bo (aI l).P 33=some 3:=mH;have e2:bY (aI l).P 33=some 32:=mI;have e3:aB (aI l).P 33=some _:=mJ;unfold bt;simp only[e1,e2,e3];rw[adl ⟨A0c,rfl,trivial,.inl trivial,rfl,by rw[eq];simp only[adm,adT];omega,by rw[eq];simp only[adm,adT];omega⟩];rfl
theorem lY(l:List (Nat×(U->Option V)))(s:ByteArray)(c r:Int)(st:St)(d n:Nat)(tok:Option Nat)(nl:Bool)(t':Option Nat):
 bt (aI l) st (some d) 33 (.sl true n [] tok) (.sl nl 3 (AV s c r) t')=some ⟨upd (nn tok (strip d st.t)) d (.sl false 3 (AV s c r) (some d)),st.b⟩:=by
 have e1:bo (aI l).P 33=some 3:=mH;have e2:bY (aI l).P 33=some 32:=mI;have e3:aB (aI l).P 33=some _:=mJ;unfold bt;simp only[e1,e2,e3];rw[adl ⟨A0c,rfl,.inl trivial,rfl,by simp only[adm,adT];omega,by simp only[adm,adT];omega⟩];cases tok<;>rfl
theorem gz(L:List C3)(s:ByteArray)(c r:Int):L.map aa++(AV s c r)=(L++[(s,c,r)]).map aa:=by rw[adK];rfl
def dT(s:ByteArray)(c r:Int)(s':ByteArray)(c' r':Int):Option (List C3):=
 if lV s c r s' c' r'=true∧cE c r c' r'<=400 then some (cx s c r (c'-c+1).toNat (r'-r+1).toNat) else none
def dU:U->Option V
 | [.agg [.x (.string s),.x (.int .i64 c),.x (.int .i64 r),.x (.string s'),.x (.int .i64 c'),.x (.int .i64 r')]]=>match dT s c r s' c' r' with
   |some l=>some (.l 3 (l.map aa))
   |none=>some (.sl true 0 [] none)
 |_=>none
def qb(nil0:Bool)(tok:Nat)(L:List C3):V:=if nil0=true∧L=[] then .sl true 0 [] none else .sl false 3 (L.map aa) (some tok)
variable{nil0:Bool}{tok:Nat}
theorem OX(h:nil0=true):qb nil0 tok []= .sl true 0 [] none:=by simp[qb,h]
theorem qc(h: ¬(nil0=true∧L=[])):qb nil0 tok L= .sl false 3 (L.map aa) (some tok):=adq h
theorem qd(L:List C3)(p:C3):qb nil0 tok (L++[p])= .sl false 3 ((L++[p]).map aa) (some tok):=qc A0k
abbrev ut(s c r c' r'):=((1,[.x (.string s),.i c,.i r,.x (.string s),.i c',.i r']):Nat×List V)
theorem Gl :cg 60 dU:=by
 refine aE (E:=aI [(75,eR),(58,cw)]) (k:=1) (aU _ ⟨xd,nG,trivial⟩) A0a func60 rfl (fun a w=>call60 a w) ntmps60 A0a A0c A0c ?_;intro us r hF hdat;unfold dU at hF;split at hF
 case h_2=>cases hF
 rename_i s c r s' c' r';cases hok:lV s c r s' c' r'
 . exact Z8
 . have ha :=gy hok;by_cases h4:cE c r c' r'<=400
   . have hc:dT s c r s' c' r'=some (cx s c r (c'-c+1).toNat (r'-r+1).toNat):=adl ⟨hok,h4⟩;rw[hc] at hF;obtain⟨hR,hR',rfl,hcc,hrr⟩:=jB.1 hok;obtain⟨hn,b1,b2,b3,b4⟩:=eg.1 hR;obtain⟨_,b1',b2',b3',b4'⟩:=eg.1 hR';have hin:=oR b1 b2' b3 b4' hcc hrr;have hsl:s.size<=281474976710656:=by have:=xe hn;omega
     obtain⟨k,hk⟩:∃k,(c'-c+1).toNat=k:=⟨_,rfl⟩;obtain⟨h,hh⟩:∃h,(r'-r+1).toNat=h:=⟨_,rfl⟩;have hkh:h*k<=400:=by
      have e1:c'-c+1=(k:Int):=A0b
      have e2:r'-r+1=(h:Int):=A0b
      have:((h*k:Nat):Int)<=400:=by have h5:=h4;unfold cE at h5;rw[e1,e2] at h5;push_cast;rw[Int.mul_comm];exact h5
      omega
     rw[hk,hh] at hF;cases hF;refine⟨rfl,?_⟩;have d4:decide (400<cE c r c' r')=false:=Io A0b;have m1:(0:Int)<=cE c r c' r':=A0b
     have m2:(32:Int)*cE c r c' r'<=281474976710656:=A0b
     have m2':((32:Nat):Int)*cE c r c' r'<=281474976710656:=A0b
     have m3:cE c r c' r'<=9223372036854775807:=A0b
     simp +decide only[go_sem,eR,ha,d4,cw,hsl,m1,m2,m2',m3];refine aT (X:={p:Nat×Nat//p.1<=h∧(p.2=25∨p.2=52)}) (fun p=>[(1,.ptr 1 0),(2,.sl true 0 [] none),(5,.x (.string s)),(6,qb false p.1.2 (cx s c r k p.1.1)),(7,.i (r+(p.1.1:Int)))]) (fun _=>[(ut s c r c' r')]) (fun p=>h-p.1.1) ⟨(0,25),A0k⟩ (by simp +decide only[go_sem,cx];simp[qb]) A02 (fun⟨⟨y,tk⟩,hy,htk⟩=>?_);simp only at hy htk;by_cases hyh:y<h
     . have e0:decide (r+(y:Int)<=r')=true:=ac0 A0b;have e9:az .i64 (r+(y:Int)+1)=r+((y+1:Nat):Int):=by rw[ak A0j];omega
       simp +decide only[go_sem,e0];refine aT (X:={p:Nat×Nat//p.1<=k∧(p.2=25∨p.2=52)}) (fun p=>[(1,.ptr 1 0),(2,.sl true 0 [] none),(5,.x (.string s)),(6,qb false p.1.2 (cx s c r k y++iY s c (r+(y:Int)) p.1.1)),(7,.i (r+(y:Int))),(8,.i (c+(p.1.1:Int)))]) (fun _=>[(ut s c r c' r')]) (fun p=>k-p.1.1) ⟨(0,tk),by simpa using htk⟩ (by simp +decide only[go_sem];simp[iY]) A02 (fun⟨⟨x,tk⟩,hx,htk⟩=>?_);simp only at hx htk;by_cases hxk:x<k
       . have e1:decide (c+(x:Int)<=c')=true:=ac0 A0b;have e3:az .i64 (c+(x:Int)+1)=c+((x+1:Nat):Int):=by rw[ak A0j];omega
         have hlen:(cx s c r k y++iY s c (r+(y:Int)) x).length<=400:=by rw[adh,dD,qa];have:(y+1)*k<=h*k:=ad9 _ A0b;rw[aek,afu] at this;omega
         have e6:(cx s c r k y++iY s c (r+(y:Int)) x)++[(s,c+(x:Int),r+(y:Int))]=cx s c r k y++iY s c (r+(y:Int)) (x+1):=by rw[sP,aef]
         generalize hL:cx s c r k y++iY s c (r+(y:Int)) x=L at hlen e6;have g1:((L.map aa).length+1)*32<=140737488355328:=A0w
         have g2:(L.map aa).length+1<=9223372036854775807:=A0w
         by_cases hnil:false=true∧L=[]
         . obtain⟨hn0,rfl⟩:=hnil;cases hn0
         . have a0:=qc (tok:=tk) hnil;simp +decide only[go_sem,a0,e1,e3,sQ (L:=L) A0b,lY,gz];refine⟨⟨(x+1,52),A0F⟩,?_,?_,by simp only;omega⟩
           . simp +decide only[go_sem,<-e6,qd,gz]
           . exact Xz
       . have e1:decide (c+(x:Int)<=c')=false:=Io A0b;have hxe:x=k:=A0b
         subst hxe;simp +decide only[go_sem,e1,e9];refine⟨⟨(y+1,tk),by simp only;omega,by simp only;exact htk⟩,?_,?_,by simp only;omega⟩
         . simp +decide only[go_sem,cx]
         . exact Xz
     . have e0:decide (r+(y:Int)<=r')=false:=Io A0b;have hye:y=h:=A0b
       subst hye;have hne: ¬(false=true∧cx s c r k y=[]):=by rintro⟨_,hh0⟩;have:=dD s c r k y;rw[hh0] at this;have hp:0<y*k:=Nat.mul_pos A0b A0b;simp at this;omega
       have a0:=qc (tok:=tk) hne;simp +decide only[go_sem,e0,a0]
   . exact Z7
theorem Bt :cg 29 dU:=by
 refine aE (E:=aI [(41,eR)]) (k:=1) (aU _ ⟨Ga,trivial⟩) A0a func29 rfl (fun a w=>call29 a w) ntmps29 A0a A0c A0c ?_;intro us r hF hdat;unfold dU at hF;split at hF
 case h_2=>cases hF
 rename_i s c r s' c' r';cases hok:lV s c r s' c' r'
 . exact Z8
 . have ha :=gy hok;by_cases h4:cE c r c' r'<=400
   . have hc:dT s c r s' c' r'=some (cx s c r (c'-c+1).toNat (r'-r+1).toNat):=adl ⟨hok,h4⟩;rw[hc] at hF;obtain⟨hR,hR',rfl,hcc,hrr⟩:=jB.1 hok;obtain⟨hn,b1,b2,b3,b4⟩:=eg.1 hR;obtain⟨_,b1',b2',b3',b4'⟩:=eg.1 hR';have hin:=oR b1 b2' b3 b4' hcc hrr;have hsl:s.size<=281474976710656:=by have:=xe hn;omega
     obtain⟨k,hk⟩:∃k,(c'-c+1).toNat=k:=⟨_,rfl⟩;obtain⟨h,hh⟩:∃h,(r'-r+1).toNat=h:=⟨_,rfl⟩;have hkh:h*k<=400:=by
      have e1:c'-c+1=(k:Int):=A0b
      have e2:r'-r+1=(h:Int):=A0b
      have:((h*k:Nat):Int)<=400:=by have h5:=h4;unfold cE at h5;rw[e1,e2] at h5;push_cast;rw[Int.mul_comm];exact h5
      omega
     rw[hk,hh] at hF;cases hF;refine⟨rfl,?_⟩;have d4:decide (400<cE c r c' r')=false:=Io A0b;have m1:(0:Int)<=cE c r c' r':=A0b
     have m2:(32:Int)*cE c r c' r'<=281474976710656:=A0b
     have m2':((32:Nat):Int)*cE c r c' r'<=281474976710656:=A0b
     have m3:cE c r c' r'<=9223372036854775807:=A0b
     simp +decide only[go_sem,eR,ha,d4,cw,hsl,m1,m2,m2',m3];refine aT (X:={p:Nat×Nat//p.1<=h∧(p.2=47∨p.2=47)}) (fun p=>[(1,.ptr 1 0),(2,.sl true 0 [] none),(5,qb true p.1.2 (cx s c r k p.1.1)),(6,.i (r+(p.1.1:Int)))]) (fun _=>[(ut s c r c' r')]) (fun p=>h-p.1.1) ⟨(0,47),A0k⟩ (by simp +decide only[go_sem,cx];simp[qb]) A02 (fun⟨⟨y,tk⟩,hy,htk⟩=>?_);simp only at hy htk;by_cases hyh:y<h
     . have e0:decide (r+(y:Int)<=r')=true:=ac0 A0b;have e9:az .i64 (r+(y:Int)+1)=r+((y+1:Nat):Int):=by rw[ak A0j];omega
       simp +decide only[go_sem,e0];refine aT (X:={p:Nat×Nat//p.1<=k∧(p.2=47∨p.2=47)}) (fun p=>[(1,.ptr 1 0),(2,.sl true 0 [] none),(5,qb true p.1.2 (cx s c r k y++iY s c (r+(y:Int)) p.1.1)),(6,.i (r+(y:Int))),(7,.i (c+(p.1.1:Int)))]) (fun _=>[(ut s c r c' r')]) (fun p=>k-p.1.1) ⟨(0,tk),by simpa using htk⟩ (by simp +decide only[go_sem];simp[iY]) A02 (fun⟨⟨x,tk⟩,hx,htk⟩=>?_);simp only at hx htk;by_cases hxk:x<k
       . have e1:decide (c+(x:Int)<=c')=true:=ac0 A0b;have e3:az .i64 (c+(x:Int)+1)=c+((x+1:Nat):Int):=by rw[ak A0j];omega
         have hlen:(cx s c r k y++iY s c (r+(y:Int)) x).length<=400:=by rw[adh,dD,qa];have:(y+1)*k<=h*k:=ad9 _ A0b;rw[aek,afu] at this;omega
         have e6:(cx s c r k y++iY s c (r+(y:Int)) x)++[(s,c+(x:Int),r+(y:Int))]=cx s c r k y++iY s c (r+(y:Int)) (x+1):=by rw[sP,aef]
         generalize hL:cx s c r k y++iY s c (r+(y:Int)) x=L at hlen e6;have g1:((L.map aa).length+1)*32<=140737488355328:=A0w
         have g2:(L.map aa).length+1<=9223372036854775807:=A0w
         by_cases hnil:true=true∧L=[]
         . obtain⟨hn0,rfl⟩:=hnil;have a0:=OX (tok:=tk) hn0;simp +decide only[go_sem,a0,e1,e3,lY,gz];refine⟨⟨(x+1,47),A0F⟩,?_,?_,by simp only;omega⟩
           . simp +decide only[go_sem,<-e6,qd,gz];simp[qb,aa]
           . exact Xz
         . have a0:=qc (tok:=tk) hnil;simp +decide only[go_sem,a0,e1,e3,sQ (L:=L) A0b,lY,gz];refine⟨⟨(x+1,47),A0F⟩,?_,?_,by simp only;omega⟩
           . simp +decide only[go_sem,<-e6,qd,gz]
           . exact Xz
       . have e1:decide (c+(x:Int)<=c')=false:=Io A0b;have hxe:x=k:=A0b
         subst hxe;simp +decide only[go_sem,e1,e9];refine⟨⟨(y+1,tk),by simp only;omega,by simp only;exact htk⟩,?_,?_,by simp only;omega⟩
         . simp +decide only[go_sem,cx]
         . exact Xz
     . have e0:decide (r+(y:Int)<=r')=false:=Io A0b;have hye:y=h:=A0b
       subst hye;have hne: ¬(true=true∧cx s c r k y=[]):=by rintro⟨_,hh0⟩;have:=dD s c r k y;rw[hh0] at this;have hp:0<y*k:=Nat.mul_pos A0b A0b;simp at this;omega
       have a0:=qc (tok:=tk) hne;simp +decide only[go_sem,e0,a0]
   . exact Z7
