/- strconv.Itoa, as a function of plain data. -/
import Derived.Test.YtalkmhjanlljhaaGreatMPO
import Derived.Test.YtalkmhjanlljhaaGreatShelf
import Derived.Test.YtalkmhjanlljhaaGreatBase
import Derived.Lib.ItoaLen
import Derived.Deep.RegionHeld3
import Derived.Test.YtalkmhjanlljhaaGreatMAd
import Derived.Lib.Small
namespace Go.Proofs.YtalkmhjanlljhaaGreat
set_option linter.unusedSimpArgs false
set_option maxHeartbeats 4000000
set_option maxRecDepth 100000
open Go Go.RowKit
attribute [go_sem] Tryz.results50 Tryz.results51 Tryz.results53 Tryz.results57 Tryz.results59 Tryz.results75 Tryz.results76 Tryz.results111
def QM (s:ByteArray) (c r:Int) (s':ByteArray) (c' r':Int) (s0:ByteArray) (c0 r0:Int):Bool:=kq s c r s' c' r'&&(decide (s0=s)&&(decide (c<=c0)&&(decide (c0<=c')&&(decide (r<=r0)&&decide (r0<=r')))))
def dG (s:ByteArray) (c r:Int) (s':ByteArray) (c' r':Int):Bool:=if s=s' then (if r=r' then decide (c<c') else decide (r<r')) else Op.bytesLess s.toList s'.toList
def bd:List V->Option V
 |[.agg [.x (.string s),.x (.int .i64 c),.x (.int .i64 r)],.agg [.x (.string s'),.x (.int .i64 c'),.x (.int .i64 r')]]=>some (.x (.bool (dG s c r s' c' r')))
 |_=>none
def Bo:List V->Option V
 |[.x (.string _)]=>some (.x (.bool false))
 |_=>none
theorem HT:bM 111 Bo:=by
 refine av (E:=au []) (k:=1) (aM _ trivial) (by kernel_rfl) Tryz.func111 rfl (fun a w=>Tryz.call111 a w) Tryz.ntmps111 (by kernel_rfl) (by decide) (by decide) ?_;intro us r hF hdat;unfold Bo at hF;split at hF
 case h_2=>cases hF
 rename_i s;cases hF;refine⟨rfl,?_⟩;have d0:decide (s=s)=true:=iO rfl;simp +decide (maxDischargeDepth:=200) only[go_sem,d0]
def lA (a b:ByteArray):Int:=if Op.bytesLess a.toList b.toList=true then-1 else if a=b then 0 else 1
def yU:List V->Option V
 |[.x (.string a),.x (.string b)]=>some (.x (.int .i64 (lA a b)))
 |_=>none
theorem Ex:bM 76 yU:=by
 refine av (E:=au [(111,Bo)]) (k:=2) (aM _ ⟨HT,trivial⟩) (by kernel_rfl) Tryz.func76 rfl (fun a w=>Tryz.call76 a w) Tryz.ntmps76 (by kernel_rfl) (by decide) (by decide) ?_;intro us r hF hdat;unfold yU at hF;split at hF
 case h_2=>cases hF
 rename_i a b;cases hF;refine⟨rfl,?_⟩;cases hl:Op.bytesLess a.toList b.toList
 . by_cases he:a=b
   . have e:lA a b=0:=by subst he;simp[lA,hl]
     have d0:=iO he;simp +decide (maxDischargeDepth:=200) only[go_sem,Bo,hl,d0,e]
   . have e:lA a b=1:=by simp[lA,hl,he]
     have d0:=tl he;simp +decide (maxDischargeDepth:=200) only[go_sem,Bo,hl,d0,e]
 . have e:lA a b= -1:=by simp[lA,hl]
   simp +decide (maxDischargeDepth:=200) only[go_sem,Bo,hl,e]
def yV:List V->Option V
 |[.x (.int .i64 a),.x (.int .i64 b)]=>some (.x (.int .i64 (Lib.compareInt a b)))
 |_=>none
theorem Ey:bM 77 yV:=by
 refine⟨fun a w=>Tryz.call77 a w,fun m w vs us r hF hd hr hj hg=>?_⟩;unfold yV at hF;split at hF
 case h_2=>cases hF
 rename_i a b;cases hF;obtain rfl:=yR (xs:=[.int .i64 a,.int .i64 b]) hr rfl;refine(Tryz.cmp_Compare_int a b w).mono ?_;rintro e w' ⟨rfl,rfl⟩;exact⟨_,m,rfl,.x _,Below.refl _ _,fun _ _=>rfl⟩
def nJ:List V->Option (List Int)
 |[]=>some []
 | .x (.int .i64 n)::l=>match nJ l with
   |some r=>some (n::r)
   |none=>none
 |_=>none
def yW (n:Int):V:= .x (.int .i64 n)
theorem py:∀{es:List V} {l:List Int},nJ es=some l->es=l.map yW
 |[],l,h=>by cases h;rfl
 | e ::es,l,h=>by
   unfold nJ at h;split at h
   . cases ‹e::es=[]›
   . rename_i n l' he;cases he;split at h
     . rename_i r hr;cases h;rw[py hr];rfl
     . cases h
   . cases h
def F4:List Int->Int
 |[]=>0
 |n::l=>if n=0 then F4 l else n
theorem Ez:∀{l:List Int} {i:Nat} {n:Int},(∀(j:Nat) (k:Int),j<i->l[j]?=some k->k=0)->l[i]?=some n-> ¬n=0->F4 l=n
 |[],i,n,_,h,_=>by simp at h
 |a::l,0,n,_,h,hn=>by simp at h;subst h;simp[F4,hn]
 |a::l,i+1,n,h0,h,hn=>by have ha:a=0:=h0 0 a (by omega) rfl;simp only[F4,ha,Vi];exact Ez (i:=i) (fun j k hj hk=>h0 (j+1) k (by omega) (by simpa using hk)) (by simpa using h) hn
theorem tq:∀{l:List Int},(∀(j:Nat) (k:Int),l[j]?=some k->k=0)->F4 l=0
 |[],_=>rfl
 |a::l,h=>by have ha:a=0:=h 0 a rfl;simp only[F4,ha,Vi];exact tq (fun j k hk=>h (j+1) k (by simpa using hk))
def QN:List V->Option V
 | [.sl _ 1 es none]=>match nJ es with
   |some l=>if l.length<=1000000 then some (.x (.int .i64 (F4 l))) else none
   |none=>none
 |_=>none
theorem KJ:bM 75 QN:=by
 refine av (E:=au []) (k:=1) (aM _ trivial) (by kernel_rfl) Tryz.func75 rfl (fun a w=>Tryz.call75 a w) Tryz.ntmps75 (by kernel_rfl) (by decide) (by decide) ?_;intro us r hF hdat;unfold QN at hF;split at hF
 case h_2=>cases hF
 rename_i nl es;split at hF
 case h_2=>cases hF
 rename_i l hl;split at hF
 case isFalse=>cases hF
 rename_i hle;cases hF;refine⟨rfl,?_⟩;obtain rfl:=py hl;clear hl;have hsz:(((l.map yW).length:Nat):Int)=(l.length:Int):=by rw[eq]
 simp +decide (maxDischargeDepth:=200) only[go_sem];refine aI (X:={i:Nat//i<=l.length∧∀(j:Nat) (k:Int),j<i->l[j]?=some k->k=0}) (fun i=>[(3,.x (.int .i64 0)),(6,.sl nl 1 (l.map yW) none),(7,.x (.int .i64 (l.length:Int))),(8,.x (.int .i64 i.1))]) (fun _=>[]) (fun i=>l.length-i.1) ⟨0,by omega,fun j k hj=>by omega⟩ (by simp +decide only[go_sem,hsz];rfl) trivial (fun⟨i,hi,hz⟩=>?_);by_cases hil:i<l.length
 . have hb:l[i]?=some l[i]:=io hil;generalize l[i]=n at hb;have d0:decide ((i:Int)<(l.length:Int))=true:=iO (by omega);have c2:(0:Int)<=(i:Int):=by omega
   have c4:=aF (i:=i) (by omega);have c5:(l.map yW)[((i:Int)).toNat]?=some (.x (.int .i64 n)):=by rw[U2,U5,hb];rfl
   by_cases hn:n=0
   . have d1:=iO hn;simp +decide (maxDischargeDepth:=200) only[go_sem,d0,c2,c4,c5,d1];refine⟨⟨i+1,by omega,fun j k hj hk=>?_⟩,?_,trivial,by simp only;omega⟩
     . by_cases hji:j=i
       . subst hji;rw[hb] at hk;cases hk;exact hn
       . exact hz j k (by omega) hk
     . simp +decide only[go_sem]
   . have d1:=tl hn;have e:=Ez hz hb hn;simp +decide (maxDischargeDepth:=200) only[go_sem,d0,c2,c4,c5,d1,e]
 . have d0:decide ((i:Int)<(l.length:Int))=false:=tl (by omega);have e:=tq (l:=l) (fun j k hk=>hz j k (by have:=(Io.1 hk).1;omega) hk);simp +decide (maxDischargeDepth:=200) only[go_sem,d0,e]
theorem kP (a:ByteArray):Op.bytesLess a.toList a.toList=false:=by
 generalize a.toList=l
 induction l with
 |nil=>rfl
 |cons b l ih=>simp[Op.bytesLess,ih]
theorem HU (s:ByteArray) (c r:Int) (s':ByteArray) (c' r':Int):decide (F4 [lA s s',Lib.compareInt r r',Lib.compareInt c c']<0)=dG s c r s' c' r':=by
 unfold dG;by_cases hs:s=s'
 . subst hs;have e:lA s s=0:=by simp[lA,kP]
   rw[e,Va rfl];simp only[F4,Vi,Lib.compareInt];rw[WG];simp only[Vz];by_cases hr:r=r'
   . subst hr;simp only[Int.lt_irrefl,Vc,Vi,Vz];split
     . split at* <;>(try split at*)<;>omega
     . split at* <;>(try split at*)<;>omega
   . rw[Vh hr];simp only[Vz];split<;>(try split)<;>(try split)<;>(try split)<;>omega
 . rw[Vh hs];have e:lA s s'≠0:=by unfold lA;split<;>(try split)<;>simp_all
   simp only[F4,Vh e];unfold lA;cases h:Op.bytesLess s.toList s'.toList
   . simp[hs]
   . simp
theorem tt:bM 50 bd:=by
 refine av (E:=au [(76,yU),(77,yV),(75,QN)]) (k:=2) (aM _ ⟨Ex,Ey,KJ,trivial⟩) (by kernel_rfl) Tryz.func50 rfl (fun a w=>Tryz.call50 a w) Tryz.ntmps50 (by kernel_rfl) (by decide) (by decide) ?_;intro us r hF hdat;unfold bd at hF;split at hF
 case h_2=>cases hF
 rename_i s c r s' c' r';cases hF;refine⟨rfl,?_⟩;have e:=HU s c r s' c' r';simp +decide (maxDischargeDepth:=200) only[go_sem,yU,yV,QN,nJ,e]
theorem pz:bM 57 bd:=by
 refine av (E:=au []) (k:=2) (aM _ trivial) (by kernel_rfl) Tryz.func57 rfl (fun a w=>Tryz.call57 a w) Tryz.ntmps57 (by kernel_rfl) (by decide) (by decide) ?_;intro us r hF hdat;unfold bd at hF;split at hF
 case h_2=>cases hF
 rename_i s c r s' c' r';cases hF;refine⟨rfl,?_⟩;by_cases hs:s=s'
 . have ds:=iO hs;by_cases hr:r=r'
   . have dr:=iO hr;have e:dG s c r s' c' r'=decide (c<c'):=by unfold dG;rw[Va hs,Va hr]
     simp +decide (maxDischargeDepth:=200) only[go_sem,ds,dr,e]
   . have dr:=tl hr;have e:dG s c r s' c' r'=decide (r<r'):=by unfold dG;rw[Va hs,Vh hr]
     simp +decide (maxDischargeDepth:=200) only[go_sem,ds,dr,e]
 . have ds:=tl hs;have e:dG s c r s' c' r'=Op.bytesLess s.toList s'.toList:=by unfold dG;rw[Vh hs]
   simp +decide (maxDischargeDepth:=200) only[go_sem,ds,e]
def bP:List V->Option V
 |[.x (.string s)]=>if s.size<=281474976710656 then some (.x (.string s)) else none
 |_=>none
theorem wR:bM 78 bP:=by
 refine⟨fun a w=>Tryz.call78 a w,fun m w vs us r hF hd hr hj hg=>?_⟩;unfold bP at hF;split at hF
 case h_2=>cases hF
 rename_i s;split at hF
 . rename_i h;cases hF;obtain rfl:=yR (xs:=[.string s]) hr rfl;refine(Tryz.stringslite_Clone s w h).mono ?_;rintro e w' ⟨rfl,hb⟩;exact⟨_,m,rfl,.x _,hb,fun _ _=>rfl⟩
 . cases hF
theorem lB:bM 51 bP:=by
 refine av (E:=au [(78,bP)]) (k:=1) (aM _ ⟨wR,trivial⟩) (by kernel_rfl) Tryz.func51 rfl (fun a w=>Tryz.call51 a w) Tryz.ntmps51 (by kernel_rfl) (by decide) (by decide) ?_;intro us r hF hdat;unfold bP at hF;split at hF
 case h_2=>cases hF
 rename_i s;split at hF
 . rename_i h;cases hF;refine⟨rfl,?_⟩;simp +decide (maxDischargeDepth:=200) only[go_sem,bP,h]
 . cases hF
abbrev C3:=ByteArray×Int×Int
def aa (p:C3):V:= .agg [.x (.string p.1),.x (.int .i64 p.2.1),.x (.int .i64 p.2.2)]
def cellsOf:List V->Option (List C3)
 |[]=>some []
 | .agg [.x (.string s),.x (.int .i64 c),.x (.int .i64 r)]::l=>match cellsOf l with
   |some q=>some ((s,c,r)::q)
   |none=>none
 |_=>none
theorem fL:∀{es:List V} {l:List C3},cellsOf es=some l->es=l.map aa
 |[],l,h=>by cases h;rfl
 | e ::es,l,h=>by
   unfold cellsOf at h;split at h
   . cases ‹e::es=[]›
   . rename_i s c r l' he;cases he;split at h
     . rename_i q hq;cases h;rw[fL hq];rfl
     . cases h
   . cases h
theorem eR:∀l:List C3,cellsOf (l.map aa)=some l
 |[]=>rfl
 |(s,c,r)::l=>by show(match cellsOf (l.map aa) with|some q=>some ((s,c,r)::q)|none=>none)=_;rw[eR l]
def dD (p q:C3):Bool:=decide (p=q)
theorem HV (s:ByteArray) (c r:Int) (s':ByteArray) (c' r':Int):(decide (s=s')&&(decide (c=c')&&decide (r=r')))=dD (s,c,r) (s',c',r'):=by unfold dD;rw[WG];simp[Prod.mk.injEq]
variable {l:List C3} {i:Nat}
theorem ca {p:C3} (h:l[i]?=some p):(l.map aa)[((i:Int)).toNat]?=some (aa p):=by rw[U2,U5,h];rfl
theorem bg (p:C3):aa p= .agg [.x (.string p.1),.x (.int .i64 p.2.1),.x (.int .i64 p.2.2)]:=rfl
theorem nK (h:i<l.length):∃p,l[i]?=some p:=⟨_,io h⟩
def iU:List V->Option V
 | [.sl _ sz es none,.sl _ sz' es' none]=>match cellsOf es,cellsOf es' with
   |some l,some l'=>if l.length<=1000000∧(l=[]∨sz=3)∧(l'=[]∨sz'=3) then some (.x (.bool (decide (l=l')))) else none
   |_,_=>none
 |_=>none
def gF (s:ByteArray) (c r:Int) (k:Nat):List C3:=(List.range k).map fun(x:Nat)=>(s,c+(x:Int),r)
def bQ (s:ByteArray) (c r:Int) (k:Nat):Nat->List C3
 |0=>[]
 |h+1=>bQ s c r k h++gF s c (r+(h:Int)) k
theorem pA (s:ByteArray) (c r:Int) (k:Nat):gF s c r (k+1)=gF s c r k++[(s,c+(k:Int),r)]:=by simp[gF,List.range_succ]
theorem nL (s:ByteArray) (c r:Int) (k:Nat):(gF s c r k).length=k:=by simp[gF]
theorem cR (s:ByteArray) (c r:Int) (k:Nat):∀h,(bQ s c r k h).length=h*k
 |0=>by simp[bQ]
 |h+1=>by simp[bQ,cR s c r k h,nL,VP]
variable {L:List C3}
theorem pB (h:L.length<=1000000) (l:List (Nat×(List V->Option V))) (s:ByteArray) (c r:Int) (st:St) (d tok:Nat) (nl:Bool) (t':Option Nat):
 bi (au l) st (some d) 24 (.sl false 3 (L.map aa) (some tok)) (.sl nl 3 [.agg [.x (.string s),.x (.int .i64 c),.x (.int .i64 r)]] t')=some ⟨aD (strip tok (strip d st.t)) d (.sl false 3 (L.map aa++[.agg [.x (.string s),.x (.int .i64 c),.x (.int .i64 r)]]) (some d)),st.b⟩:=by
 have e1:bq (au l).P 24=some 3:=kL;have e2:bV (au l).P 24=some 32:=kM;have e3:ay (au l).P 24=some _:=kN;unfold bi;simp only[e1,e2,e3];rw[Va ⟨by decide,rfl,trivial,.inl trivial,rfl,by rw[eq];simp only[U3,VB];omega,by rw[eq];simp only[U3,VB];omega⟩];rfl
theorem kf (l:List (Nat×(List V->Option V))) (s:ByteArray) (c r:Int) (st:St) (d n:Nat) (tok:Option Nat) (nl:Bool) (t':Option Nat):
 bi (au l) st (some d) 24 (.sl true n [] tok) (.sl nl 3 [.agg [.x (.string s),.x (.int .i64 c),.x (.int .i64 r)]] t')=some ⟨aD (lh tok (strip d st.t)) d (.sl false 3 [.agg [.x (.string s),.x (.int .i64 c),.x (.int .i64 r)]] (some d)),st.b⟩:=by
 have e1:bq (au l).P 24=some 3:=kL;have e2:bV (au l).P 24=some 32:=kM;have e3:ay (au l).P 24=some _:=kN;unfold bi;simp only[e1,e2,e3];rw[Va ⟨by decide,rfl,.inl trivial,rfl,by simp only[U3,VB];omega,by simp only[U3,VB];omega⟩];cases tok<;>rfl
theorem fB (L:List C3) (s:ByteArray) (c r:Int):L.map aa++[.agg [.x (.string s),.x (.int .i64 c),.x (.int .i64 r)]]=(L++[(s,c,r)]).map aa:=by rw[Vy];rfl
def da (s:ByteArray) (c r:Int) (s':ByteArray) (c' r':Int):Option (List C3):=
 if kq s c r s' c' r'=true∧b9 c r c' r'<=400 then some (bQ s c r (c'-c+1).toNat (r'-r+1).toNat) else none
def db:List V->Option V
 | [.agg [.x (.string s),.x (.int .i64 c),.x (.int .i64 r),.x (.string s'),.x (.int .i64 c'),.x (.int .i64 r')]]=>match da s c r s' c' r' with
   |some l=>some (.sl false 3 (l.map aa) none)
   |none=>some (.sl true 0 [] none)
 |_=>none
def nM (nil0:Bool) (tok:Nat) (L:List C3):V:=if nil0=true∧L=[] then .sl true 0 [] none else .sl false 3 (L.map aa) (some tok)
variable {nil0:Bool} {tok:Nat}
theorem HW (h:nil0=true):nM nil0 tok []= .sl true 0 [] none:=by simp[nM,h]
theorem nN (h: ¬(nil0=true∧L=[])):nM nil0 tok L= .sl false 3 (L.map aa) (some tok):=Vh h
theorem nO (L:List C3) (p:C3):nM nil0 tok (L++[p])= .sl false 3 ((L++[p]).map aa) (some tok):=nN (by simp)
theorem Bp :bM 53 db:=by
 refine av (E:=au [(81,dW),(51,bP)]) (k:=1) (aM _ ⟨td,lB,trivial⟩) (by kernel_rfl) Tryz.func53 rfl (fun a w=>Tryz.call53 a w) Tryz.ntmps53 (by kernel_rfl) (by decide) (by decide) ?_;intro us r hF hdat;unfold db at hF;split at hF
 case h_2=>cases hF
 rename_i s c r s' c' r';cases hok:kq s c r s' c' r'
 . have ha:=cx hok;have hc:da s c r s' c' r'=none:=Vh (by rw[hok];simp);rw[hc] at hF;cases hF;refine⟨rfl,?_⟩;simp +decide (maxDischargeDepth:=200) only[go_sem,dW,ha]
 . have ha :=fA hok;by_cases h4:b9 c r c' r'<=400
   . have hc:da s c r s' c' r'=some (bQ s c r (c'-c+1).toNat (r'-r+1).toNat):=Va ⟨hok,h4⟩;rw[hc] at hF;obtain⟨hR,hR',rfl,hcc,hrr⟩:=ij.1 hok;obtain⟨hn,b1,b2,b3,b4⟩:=dp.1 hR;obtain⟨_,b1',b2',b3',b4'⟩:=dp.1 hR';have hin:=mC b1 b2' b3 b4' hcc hrr;have hsl:s.size<=281474976710656:=by have:=tf hn;omega
     obtain⟨k,hk⟩:∃k,(c'-c+1).toNat=k:=⟨_,rfl⟩;obtain⟨h,hh⟩:∃h,(r'-r+1).toNat=h:=⟨_,rfl⟩;have hkh:h*k<=400:=by
      have e1:c'-c+1=(k:Int):=by omega
      have e2:r'-r+1=(h:Int):=by omega
      have:((h*k:Nat):Int)<=400:=by have h5:=h4;unfold b9 at h5;rw[e1,e2] at h5;push_cast;rw[Int.mul_comm];exact h5
      omega
     rw[hk,hh] at hF;cases hF;refine⟨rfl,?_⟩;have d4:decide (400<b9 c r c' r')=false:=tl (by omega);have m1:(0:Int)<=b9 c r c' r':=by omega
     have m2:(32:Int)*b9 c r c' r'<=281474976710656:=by omega
     have m2':((32:Nat):Int)*b9 c r c' r'<=281474976710656:=by omega
     have m3:b9 c r c' r'<=9223372036854775807:=by omega
     simp +decide (maxDischargeDepth:=200) only[go_sem,dW,ha,d4,bP,hsl,m1,m2,m2',m3];refine aI (X:={p:Nat×Nat//p.1<=h∧(p.2=25∨p.2=52)}) (fun p=>[(1,.ptr 1 0),(2,.sl true 0 [] none),(5,.x (.string s)),(6,nM false p.1.2 (bQ s c r k p.1.1)),(7,.x (.int .i64 (r+(p.1.1:Int))))]) (fun _=>[(1,[.x (.string s),.x (.int .i64 c),.x (.int .i64 r),.x (.string s),.x (.int .i64 c'),.x (.int .i64 r')])]) (fun p=>h-p.1.1) ⟨(0,25),by simp⟩ (by simp +decide only[go_sem,bQ];simp[nM]) (by simp +decide only[go_sem]) (fun⟨⟨y,tk⟩,hy,htk⟩=>?_);simp only at hy htk;by_cases hyh:y<h
     . have e0:decide (r+(y:Int)<=r')=true:=iO (by omega);have e9:ax .i64 (r+(y:Int)+1)=r+((y+1:Nat):Int):=by rw[ak (by unfold co;omega)];omega
       simp +decide (maxDischargeDepth:=200) only[go_sem,e0];refine aI (X:={p:Nat×Nat//p.1<=k∧(p.2=25∨p.2=52)}) (fun p=>[(1,.ptr 1 0),(2,.sl true 0 [] none),(5,.x (.string s)),(6,nM false p.1.2 (bQ s c r k y++gF s c (r+(y:Int)) p.1.1)),(7,.x (.int .i64 (r+(y:Int)))),(8,.x (.int .i64 (c+(p.1.1:Int))))]) (fun _=>[(1,[.x (.string s),.x (.int .i64 c),.x (.int .i64 r),.x (.string s),.x (.int .i64 c'),.x (.int .i64 r')])]) (fun p=>k-p.1.1) ⟨(0,tk),by simpa using htk⟩ (by simp +decide only[go_sem];simp[gF]) (by simp +decide only[go_sem]) (fun⟨⟨x,tk⟩,hx,htk⟩=>?_);simp only at hx htk;by_cases hxk:x<k
       . have e1:decide (c+(x:Int)<=c')=true:=iO (by omega);have e3:ax .i64 (c+(x:Int)+1)=c+((x+1:Nat):Int):=by rw[ak (by unfold co;omega)];omega
         have hlen:(bQ s c r k y++gF s c (r+(y:Int)) x).length<=400:=by rw[U4,cR,nL];have:(y+1)*k<=h*k:=VK _ (by omega);rw[VP,WW] at this;omega
         have e6:(bQ s c r k y++gF s c (r+(y:Int)) x)++[(s,c+(x:Int),r+(y:Int))]=bQ s c r k y++gF s c (r+(y:Int)) (x+1):=by rw[pA,WC]
         generalize hL:bQ s c r k y++gF s c (r+(y:Int)) x=L at hlen e6;have g1:((L.map aa).length+1)*32<=140737488355328:=by rw[eq];omega
         have g2:(L.map aa).length+1<=9223372036854775807:=by rw[eq];omega
         by_cases hnil:false=true∧L=[]
         . obtain⟨hn0,rfl⟩:=hnil;cases hn0
         . have a0:=nN (tok:=tk) hnil;simp +decide (maxDischargeDepth:=200) only[go_sem,a0,e1,e3,pB (L:=L) (by omega),kf,fB];refine⟨⟨(x+1,52),by simp;omega⟩,?_,?_,by simp only;omega⟩
           . simp +decide only[go_sem,<-e6,nO,fB]
           . simp +decide only[go_sem]
       . have e1:decide (c+(x:Int)<=c')=false:=tl (by omega);have hxe:x=k:=by omega
         subst hxe;simp +decide (maxDischargeDepth:=200) only[go_sem,e1,e9];refine⟨⟨(y+1,tk),by simp only;omega,by simp only;exact htk⟩,?_,?_,by simp only;omega⟩
         . simp +decide only[go_sem,bQ]
         . simp +decide only[go_sem]
     . have e0:decide (r+(y:Int)<=r')=false:=tl (by omega);have hye:y=h:=by omega
       subst hye;have hne: ¬(false=true∧bQ s c r k y=[]):=by rintro⟨_,hh0⟩;have:=cR s c r k y;rw[hh0] at this;have hp:0<y*k:=Nat.mul_pos (by omega) (by omega);simp at this;omega
       have a0:=nN (tok:=tk) hne;simp +decide (maxDischargeDepth:=200) only[go_sem,e0,a0]
   . have hc:da s c r s' c' r'=none:=Vh (fun hh=>h4 hh.2);rw[hc] at hF;cases hF;refine⟨rfl,?_⟩;have d4:decide (400<b9 c r c' r')=true:=iO (by omega);simp +decide (maxDischargeDepth:=200) only[go_sem,dW,ha,d4]
theorem wS :bM 59 db:=by
 refine av (E:=au [(85,dW)]) (k:=1) (aM _ ⟨Bb,trivial⟩) (by kernel_rfl) Tryz.func59 rfl (fun a w=>Tryz.call59 a w) Tryz.ntmps59 (by kernel_rfl) (by decide) (by decide) ?_;intro us r hF hdat;unfold db at hF;split at hF
 case h_2=>cases hF
 rename_i s c r s' c' r';cases hok:kq s c r s' c' r'
 . have ha:=cx hok;have hc:da s c r s' c' r'=none:=Vh (by rw[hok];simp);rw[hc] at hF;cases hF;refine⟨rfl,?_⟩;simp +decide (maxDischargeDepth:=200) only[go_sem,dW,ha]
 . have ha :=fA hok;by_cases h4:b9 c r c' r'<=400
   . have hc:da s c r s' c' r'=some (bQ s c r (c'-c+1).toNat (r'-r+1).toNat):=Va ⟨hok,h4⟩;rw[hc] at hF;obtain⟨hR,hR',rfl,hcc,hrr⟩:=ij.1 hok;obtain⟨hn,b1,b2,b3,b4⟩:=dp.1 hR;obtain⟨_,b1',b2',b3',b4'⟩:=dp.1 hR';have hin:=mC b1 b2' b3 b4' hcc hrr;have hsl:s.size<=281474976710656:=by have:=tf hn;omega
     obtain⟨k,hk⟩:∃k,(c'-c+1).toNat=k:=⟨_,rfl⟩;obtain⟨h,hh⟩:∃h,(r'-r+1).toNat=h:=⟨_,rfl⟩;have hkh:h*k<=400:=by
      have e1:c'-c+1=(k:Int):=by omega
      have e2:r'-r+1=(h:Int):=by omega
      have:((h*k:Nat):Int)<=400:=by have h5:=h4;unfold b9 at h5;rw[e1,e2] at h5;push_cast;rw[Int.mul_comm];exact h5
      omega
     rw[hk,hh] at hF;cases hF;refine⟨rfl,?_⟩;have d4:decide (400<b9 c r c' r')=false:=tl (by omega);have m1:(0:Int)<=b9 c r c' r':=by omega
     have m2:(32:Int)*b9 c r c' r'<=281474976710656:=by omega
     have m2':((32:Nat):Int)*b9 c r c' r'<=281474976710656:=by omega
     have m3:b9 c r c' r'<=9223372036854775807:=by omega
     simp +decide (maxDischargeDepth:=200) only[go_sem,dW,ha,d4,bP,hsl,m1,m2,m2',m3];refine aI (X:={p:Nat×Nat//p.1<=h∧(p.2=47∨p.2=47)}) (fun p=>[(1,.ptr 1 0),(2,.sl true 0 [] none),(5,nM true p.1.2 (bQ s c r k p.1.1)),(6,.x (.int .i64 (r+(p.1.1:Int))))]) (fun _=>[(1,[.x (.string s),.x (.int .i64 c),.x (.int .i64 r),.x (.string s),.x (.int .i64 c'),.x (.int .i64 r')])]) (fun p=>h-p.1.1) ⟨(0,47),by simp⟩ (by simp +decide only[go_sem,bQ];simp[nM]) (by simp +decide only[go_sem]) (fun⟨⟨y,tk⟩,hy,htk⟩=>?_);simp only at hy htk;by_cases hyh:y<h
     . have e0:decide (r+(y:Int)<=r')=true:=iO (by omega);have e9:ax .i64 (r+(y:Int)+1)=r+((y+1:Nat):Int):=by rw[ak (by unfold co;omega)];omega
       simp +decide (maxDischargeDepth:=200) only[go_sem,e0];refine aI (X:={p:Nat×Nat//p.1<=k∧(p.2=47∨p.2=47)}) (fun p=>[(1,.ptr 1 0),(2,.sl true 0 [] none),(5,nM true p.1.2 (bQ s c r k y++gF s c (r+(y:Int)) p.1.1)),(6,.x (.int .i64 (r+(y:Int)))),(7,.x (.int .i64 (c+(p.1.1:Int))))]) (fun _=>[(1,[.x (.string s),.x (.int .i64 c),.x (.int .i64 r),.x (.string s),.x (.int .i64 c'),.x (.int .i64 r')])]) (fun p=>k-p.1.1) ⟨(0,tk),by simpa using htk⟩ (by simp +decide only[go_sem];simp[gF]) (by simp +decide only[go_sem]) (fun⟨⟨x,tk⟩,hx,htk⟩=>?_);simp only at hx htk;by_cases hxk:x<k
       . have e1:decide (c+(x:Int)<=c')=true:=iO (by omega);have e3:ax .i64 (c+(x:Int)+1)=c+((x+1:Nat):Int):=by rw[ak (by unfold co;omega)];omega
         have hlen:(bQ s c r k y++gF s c (r+(y:Int)) x).length<=400:=by rw[U4,cR,nL];have:(y+1)*k<=h*k:=VK _ (by omega);rw[VP,WW] at this;omega
         have e6:(bQ s c r k y++gF s c (r+(y:Int)) x)++[(s,c+(x:Int),r+(y:Int))]=bQ s c r k y++gF s c (r+(y:Int)) (x+1):=by rw[pA,WC]
         generalize hL:bQ s c r k y++gF s c (r+(y:Int)) x=L at hlen e6;have g1:((L.map aa).length+1)*32<=140737488355328:=by rw[eq];omega
         have g2:(L.map aa).length+1<=9223372036854775807:=by rw[eq];omega
         by_cases hnil:true=true∧L=[]
         . obtain⟨hn0,rfl⟩:=hnil;have a0:=HW (tok:=tk) hn0;simp +decide (maxDischargeDepth:=200) only[go_sem,a0,e1,e3,kf,fB];refine⟨⟨(x+1,47),by simp;omega⟩,?_,?_,by simp only;omega⟩
           . simp +decide only[go_sem,<-e6,nO,fB];simp[nM,aa]
           . simp +decide only[go_sem]
         . have a0:=nN (tok:=tk) hnil;simp +decide (maxDischargeDepth:=200) only[go_sem,a0,e1,e3,pB (L:=L) (by omega),kf,fB];refine⟨⟨(x+1,47),by simp;omega⟩,?_,?_,by simp only;omega⟩
           . simp +decide only[go_sem,<-e6,nO,fB]
           . simp +decide only[go_sem]
       . have e1:decide (c+(x:Int)<=c')=false:=tl (by omega);have hxe:x=k:=by omega
         subst hxe;simp +decide (maxDischargeDepth:=200) only[go_sem,e1,e9];refine⟨⟨(y+1,tk),by simp only;omega,by simp only;exact htk⟩,?_,?_,by simp only;omega⟩
         . simp +decide only[go_sem,bQ]
         . simp +decide only[go_sem]
     . have e0:decide (r+(y:Int)<=r')=false:=tl (by omega);have hye:y=h:=by omega
       subst hye;have hne: ¬(true=true∧bQ s c r k y=[]):=by rintro⟨_,hh0⟩;have:=cR s c r k y;rw[hh0] at this;have hp:0<y*k:=Nat.mul_pos (by omega) (by omega);simp at this;omega
       have a0:=nN (tok:=tk) hne;simp +decide (maxDischargeDepth:=200) only[go_sem,e0,a0]
   . have hc:da s c r s' c' r'=none:=Vh (fun hh=>h4 hh.2);rw[hc] at hF;cases hF;refine⟨rfl,?_⟩;have d4:decide (400<b9 c r c' r')=true:=iO (by omega);simp +decide (maxDischargeDepth:=200) only[go_sem,dW,ha,d4]
end Go.Proofs.YtalkmhjanlljhaaGreat
