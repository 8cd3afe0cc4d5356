/- strconv.Itoa, as a function of plain data. -/
import Derived.Test.YtmfojhkjbkombaaMPO
import Derived.Test.YtmfojhkjbkombaaShelf
import Derived.Test.YtmfojhkjbkombaaBase
import Derived.Lib.ItoaLen
import Derived.Deep.RegionHeld3
import Derived.Test.YtmfojhkjbkombaaMAd
import Derived.Lib.Small
namespace Go.Proofs.Ytmfojhkjbkombaa
set_option linter.unusedSimpArgs false
set_option maxHeartbeats 4000000
set_option maxRecDepth 100000
open Go Go.RowKit
attribute [go_sem] Try.results38 Try.results39 Try.results41 Try.results50 Try.results51 Try.results78
def T5 (s:ByteArray) (c r:Int) (s':ByteArray) (c' r':Int) (s0:ByteArray) (c0 r0:Int):Bool:=j7 s c r s' c' r'&&(decide (s0=s)&&(decide (c<=c0)&&(decide (c0<=c')&&(decide (r<=r0)&&decide (r0<=r')))))
def gC (s:ByteArray) (c r:Int) (s':ByteArray) (c' r':Int):Bool:=if s=s' then (if r=r' then decide (c<c') else decide (r<r')) else Op.bytesLess s.toList s'.toList
def pV:List V->Option V
 |[.agg [.x (.string s),.x (.int .i64 c),.x (.int .i64 r)],.agg [.x (.string s'),.x (.int .i64 c'),.x (.int .i64 r')]]=>some (.x (.bool (gC s c r s' c' r')))
 |_=>none
def Dc:List V->Option V
 |[.x (.string _)]=>some (.x (.bool false))
 |_=>none
theorem KR:dA 78 Dc:=by
 refine aV (E:=aF []) (k:=1) (bO _ trivial) A0a Try.func78 rfl (fun a w=>Try.call78 a w) Try.ntmps78 A0a A0b A0b ?_;intro us r hF hdat;unfold Dc at hF;split at hF
 case h_2=>cases hF
 rename_i s;cases hF;refine⟨rfl,?_⟩;have d0:decide (s=s)=true:=Zk rfl;simp +decide (maxDischargeDepth:=200) only[go_sem,d0]
def lc (a b:ByteArray):Int:=if Op.bytesLess a.toList b.toList=true then-1 else if a=b then 0 else 1
def AL:List V->Option V
 |[.x (.string a),.x (.string b)]=>some (.x (.int .i64 (lc a b)))
 |_=>none
theorem GB:dA 51 AL:=by
 refine aV (E:=aF [(78,Dc)]) (k:=2) (bO _ ⟨KR,trivial⟩) A0a Try.func51 rfl (fun a w=>Try.call51 a w) Try.ntmps51 A0a A0b A0b ?_;intro us r hF hdat;unfold AL at hF;split at hF
 case h_2=>cases hF
 rename_i a b;cases hF;refine⟨rfl,?_⟩;cases hl:Op.bytesLess a.toList b.toList
 . by_cases he:a=b
   . have e:lc a b=0:=by subst he;simp[lc,hl]
     have d0:=Zk he;simp +decide (maxDischargeDepth:=200) only[go_sem,Dc,hl,d0,e]
   . have e:lc a b=1:=by simp[lc,hl,he]
     have d0:=Zl he;simp +decide (maxDischargeDepth:=200) only[go_sem,Dc,hl,d0,e]
 . have e:lc a b= -1:=by simp[lc,hl]
   simp +decide (maxDischargeDepth:=200) only[go_sem,Dc,hl,e]
def AM:List V->Option V
 |[.x (.int .i64 a),.x (.int .i64 b)]=>some (.x (.int .i64 (Lib.compareInt a b)))
 |_=>none
theorem GC:dA 52 AM:=by
 refine⟨fun a w=>Try.call52 a w,fun m w vs us r hF hd hr hj hg=>?_⟩;unfold AM at hF;split at hF
 case h_2=>cases hF
 rename_i a b;cases hF;obtain rfl:=AD (xs:=[.int .i64 a,.int .i64 b]) hr rfl;refine(Try.cmp_Compare_int a b w).mono ?_;rintro e w' ⟨rfl,rfl⟩;exact⟨_,m,rfl,.x _,Below.refl _ _,fun _ _=>rfl⟩
def nN:List V->Option (List Int)
 |[]=>some []
 | .x (.int .i64 n)::l=>match nN l with
   |some r=>some (n::r)
   |none=>none
 |_=>none
def AN (n:Int):V:= .x (.int .i64 n)
theorem pW:∀{es:List V} {l:List Int},nN es=some l->es=l.map AN
 |[],l,h=>by cases h;rfl
 | e ::es,l,h=>by
   unfold nN at h;split at h
   . cases ‹e::es=[]›
   . rename_i n l' he;cases he;split at h
     . rename_i r hr;cases h;rw[pW hr];rfl
     . cases h
   . cases h
def I5:List Int->Int
 |[]=>0
 |n::l=>if n=0 then I5 l else n
theorem GD:∀{l:List Int} {i:Nat} {n:Int},(∀(j:Nat) (k:Int),j<i->l[j]?=some k->k=0)->l[i]?=some n-> ¬n=0->I5 l=n
 |[],i,n,_,h,_=>by simp at h
 |a::l,0,n,_,h,hn=>by simp at h;subst h;simp[I5,hn]
 |a::l,i+1,n,h0,h,hn=>by have ha:a=0:=h0 0 a A0c rfl;simp only[I5,ha,ZD];exact GD (i:=i) (fun j k hj hk=>h0 (j+1) k A0c A05) (by simpa using h) hn
theorem uk:∀{l:List Int},(∀(j:Nat) (k:Int),l[j]?=some k->k=0)->I5 l=0
 |[],_=>rfl
 |a::l,h=>by have ha:a=0:=h 0 a rfl;simp only[I5,ha,ZD];exact uk (fun j k hk=>h (j+1) k A05)
def T6:List V->Option V
 | [.sl _ 1 es none]=>match nN es with
   |some l=>if l.length<=1000000 then some (.x (.int .i64 (I5 l))) else none
   |none=>none
 |_=>none
theorem NT:dA 50 T6:=by
 refine aV (E:=aF []) (k:=1) (bO _ trivial) A0a Try.func50 rfl (fun a w=>Try.call50 a w) Try.ntmps50 A0a A0b A0b ?_;intro us r hF hdat;unfold T6 at hF;split at hF
 case h_2=>cases hF
 rename_i nl es;split at hF
 case h_2=>cases hF
 rename_i l hl;split at hF
 case isFalse=>cases hF
 rename_i hle;cases hF;refine⟨rfl,?_⟩;obtain rfl:=pW hl;clear hl;have hsz:(((l.map AN).length:Nat):Int)=(l.length:Int):=by rw[io]
 simp +decide (maxDischargeDepth:=200) only[go_sem];refine dt (X:={i:Nat//i<=l.length∧∀(j:Nat) (k:Int),j<i->l[j]?=some k->k=0}) (fun i=>[(3,.x (.int .i64 0)),(6,.sl nl 1 (l.map AN) none),(7,.x (.int .i64 (l.length:Int))),(8,.x (.int .i64 i.1))]) (fun _=>[]) (fun i=>l.length-i.1) ⟨0,A0c,fun j k hj=>by omega⟩ (by simp +decide only[go_sem,hsz];rfl) trivial (fun⟨i,hi,hz⟩=>?_);by_cases hil:i<l.length
 . have hb:l[i]?=some l[i]:=eq hil;generalize l[i]=n at hb;have d0:decide ((i:Int)<(l.length:Int))=true:=Zk A0c;have c2:(0:Int)<=(i:Int):=A0c
   have c4:=aQ (i:=i) A0c;have c5:(l.map AN)[((i:Int)).toNat]?=some (.x (.int .i64 n)):=by rw[iO,Io,hb];rfl
   by_cases hn:n=0
   . have d1:=Zk hn;simp +decide (maxDischargeDepth:=200) only[go_sem,d0,c2,c4,c5,d1];refine⟨⟨i+1,A0c,fun j k hj hk=>?_⟩,?_,trivial,by simp only;omega⟩
     . by_cases hji:j=i
       . subst hji;rw[hb] at hk;cases hk;exact hn
       . exact hz j k A0c hk
     . simp +decide only[go_sem]
   . have d1:=Zl hn;have e:=GD hz hb hn;simp +decide (maxDischargeDepth:=200) only[go_sem,d0,c2,c4,c5,d1,e]
 . have d0:decide ((i:Int)<(l.length:Int))=false:=Zl A0c;have e:=uk (l:=l) (fun j k hk=>hz j k (by have:=(tl.1 hk).1;omega) hk);simp +decide (maxDischargeDepth:=200) only[go_sem,d0,e]
theorem kw (a:ByteArray):Op.bytesLess a.toList a.toList=false:=by
 generalize a.toList=l
 induction l with
 |nil=>rfl
 |cons b l ih=>simp[Op.bytesLess,ih]
theorem KS (s:ByteArray) (c r:Int) (s':ByteArray) (c' r':Int):decide (I5 [lc s s',Lib.compareInt r r',Lib.compareInt c c']<0)=gC s c r s' c' r':=by
 unfold gC;by_cases hs:s=s'
 . subst hs;have e:lc s s=0:=by simp[lc,kw]
   rw[e,Zp rfl];simp only[I5,ZD,Lib.compareInt];rw[abc];simp only[ZV];by_cases hr:r=r'
   . subst hr;simp only[Int.lt_irrefl,Zz,ZD,ZV];split
     . split at* <;>(try split at*)<;>omega
     . split at* <;>(try split at*)<;>omega
   . rw[Zs hr];simp only[ZV];split<;>(try split)<;>(try split)<;>(try split)<;>omega
 . rw[Zs hs];have e:lc s s'≠0:=by unfold lc;split<;>(try split)<;>simp_all
   simp only[I5,Zs e];unfold lc;cases h:Op.bytesLess s.toList s'.toList
   . simp[hs]
   . simp
theorem ul:dA 38 pV:=by
 refine aV (E:=aF [(51,AL),(52,AM),(50,T6)]) (k:=2) (bO _ ⟨GB,GC,NT,trivial⟩) A0a Try.func38 rfl (fun a w=>Try.call38 a w) Try.ntmps38 A0a A0b A0b ?_;intro us r hF hdat;unfold pV at hF;split at hF
 case h_2=>cases hF
 rename_i s c r s' c' r';cases hF;refine⟨rfl,?_⟩;have e:=KS s c r s' c' r';simp +decide (maxDischargeDepth:=200) only[go_sem,AL,AM,T6,nN,e]
def bS:List V->Option V
 |[.x (.string s)]=>if s.size<=281474976710656 then some (.x (.string s)) else none
 |_=>none
theorem yz:dA 53 bS:=by
 refine⟨fun a w=>Try.call53 a w,fun m w vs us r hF hd hr hj hg=>?_⟩;unfold bS at hF;split at hF
 case h_2=>cases hF
 rename_i s;split at hF
 . rename_i h;cases hF;obtain rfl:=AD (xs:=[.string s]) hr rfl;refine(Try.stringslite_Clone s w h).mono ?_;rintro e w' ⟨rfl,hb⟩;exact⟨_,m,rfl,.x _,hb,fun _ _=>rfl⟩
 . cases hF
theorem lf:dA 39 bS:=by
 refine aV (E:=aF [(53,bS)]) (k:=1) (bO _ ⟨yz,trivial⟩) A0a Try.func39 rfl (fun a w=>Try.call39 a w) Try.ntmps39 A0a A0b A0b ?_;intro us r hF hdat;unfold bS at hF;split at hF
 case h_2=>cases hF
 rename_i s;split at hF
 . rename_i h;cases hF;refine⟨rfl,?_⟩;simp +decide (maxDischargeDepth:=200) only[go_sem,bS,h]
 . cases hF
abbrev C3:=ByteArray×Int×Int
def aa (p:C3):V:= .agg [.x (.string p.1),.x (.int .i64 p.2.1),.x (.int .i64 p.2.2)]
def gq (p q:C3):Bool:=decide (p=q)
theorem Zj (s:ByteArray) (c r:Int) (s':ByteArray) (c' r':Int):(decide (s=s')&&(decide (c=c')&&decide (r=r')))=gq (s,c,r) (s',c',r'):=by unfold gq;rw[abc];simp[Prod.mk.injEq]
theorem jj {l:List C3} {i:Nat} {p:C3} (h:l[i]?=some p):(l.map aa)[((i:Int)).toNat]?=some (aa p):=by rw[iO,Io,h];rfl
theorem iU (p:C3):aa p= .agg [.x (.string p.1),.x (.int .i64 p.2.1),.x (.int .i64 p.2.2)]:=rfl
def kx (s:ByteArray) (c r:Int) (k:Nat):List C3:=(List.range k).map fun(x:Nat)=>(s,c+(x:Int),r)
def c9 (s:ByteArray) (c r:Int) (k:Nat):Nat->List C3
 |0=>[]
 |h+1=>c9 s c r k h++kx s c (r+(h:Int)) k
theorem Dd (s:ByteArray) (c r:Int) (k:Nat):kx s c r (k+1)=kx s c r k++[(s,c+(k:Int),r)]:=by simp[kx,abg]
theorem um (s:ByteArray) (c r:Int) (k:Nat):(kx s c r k).length=k:=by simp[kx]
theorem dI (s:ByteArray) (c r:Int) (k:Nat):∀h,(c9 s c r k h).length=h*k
 |0=>by simp[c9]
 |h+1=>by simp[c9,dI s c r k h,um,aau]
variable {L:List C3}
theorem De (h:L.length<=1000000) (l:List (Nat×(List V->Option V))) (s:ByteArray) (c r:Int) (st:St) (d tok:Nat) (nl:Bool) (t':Option Nat):
 cS (aF l) st (some d) 25 (.sl false 3 (L.map aa) (some tok)) (.sl nl 3 [.agg [.x (.string s),.x (.int .i64 c),.x (.int .i64 r)]] t')=some ⟨upd (strip tok (strip d st.t)) d (.sl false 3 (L.map aa++[.agg [.x (.string s),.x (.int .i64 c),.x (.int .i64 r)]]) (some d)),st.b⟩:=by
 have e1:aY (aF l).P 25=some 3:=Cf;have e2:bN (aF l).P 25=some 32:=Cg;have e3:az (aF l).P 25=some _:=Ch;unfold cS;simp only[e1,e2,e3];rw[Zp ⟨A0b,rfl,trivial,.inl trivial,rfl,by rw[io];simp only[ZB,Z5];omega,by rw[io];simp only[ZB,Z5];omega⟩];rfl
theorem yA (l:List (Nat×(List V->Option V))) (s:ByteArray) (c r:Int) (st:St) (d n:Nat) (tok:Option Nat) (nl:Bool) (t':Option Nat):
 cS (aF l) st (some d) 25 (.sl true n [] tok) (.sl nl 3 [.agg [.x (.string s),.x (.int .i64 c),.x (.int .i64 r)]] t')=some ⟨upd (kO tok (strip d st.t)) d (.sl false 3 [.agg [.x (.string s),.x (.int .i64 c),.x (.int .i64 r)]] (some d)),st.b⟩:=by
 have e1:aY (aF l).P 25=some 3:=Cf;have e2:bN (aF l).P 25=some 32:=Cg;have e3:az (aF l).P 25=some _:=Ch;unfold cS;simp only[e1,e2,e3];rw[Zp ⟨A0b,rfl,.inl trivial,rfl,by simp only[ZB,Z5];omega,by simp only[ZB,Z5];omega⟩];cases tok<;>rfl
theorem pX (L:List C3) (s:ByteArray) (c r:Int):L.map aa++[.agg [.x (.string s),.x (.int .i64 c),.x (.int .i64 r)]]=(L++[(s,c,r)]).map aa:=by rw[ZY];rfl
def dR (s:ByteArray) (c r:Int) (s':ByteArray) (c' r':Int):Option (List C3):=
 if j7 s c r s' c' r'=true∧cV c r c' r'<=400 then some (c9 s c r (c'-c+1).toNat (r'-r+1).toNat) else none
def fw:List V->Option V
 | [.agg [.x (.string s),.x (.int .i64 c),.x (.int .i64 r),.x (.string s'),.x (.int .i64 c'),.x (.int .i64 r')]]=>match dR s c r s' c' r' with
   |some l=>some (.sl false 3 (l.map aa) none)
   |none=>some (.sl true 0 [] none)
 |_=>none
def GE (nil0:Bool) (tok:Nat) (L:List C3):V:=if nil0=true∧L=[] then .sl true 0 [] none else .sl false 3 (L.map aa) (some tok)
variable {nil0:Bool} {tok:Nat}
theorem yB (h: ¬(nil0=true∧L=[])):GE nil0 tok L= .sl false 3 (L.map aa) (some tok):=Zs h
theorem GF (L:List C3) (p:C3):GE nil0 tok (L++[p])= .sl false 3 ((L++[p]).map aa) (some tok):=yB A0l
theorem Df :dA 41 fw:=by
 refine aV (E:=aF [(56,fY),(39,bS)]) (k:=1) (bO _ ⟨ue,lf,trivial⟩) A0a Try.func41 rfl (fun a w=>Try.call41 a w) Try.ntmps41 A0a A0b A0b ?_;intro us r hF hdat;unfold fw at hF;split at hF
 case h_2=>cases hF
 rename_i s c r s' c' r';cases hok:j7 s c r s' c' r'
 . have ha:=dQ hok;have hc:dR s c r s' c' r'=none:=Zs (by rw[hok];simp);rw[hc] at hF;cases hF;refine⟨rfl,?_⟩;simp +decide (maxDischargeDepth:=200) only[go_sem,fY,ha]
 . have ha :=ji hok;by_cases h4:cV c r c' r'<=400
   . have hc:dR s c r s' c' r'=some (c9 s c r (c'-c+1).toNat (r'-r+1).toNat):=Zp ⟨hok,h4⟩;rw[hc] at hF;obtain⟨hR,hR',rfl,hcc,hrr⟩:=ku.1 hok;obtain⟨hn,b1,b2,b3,b4⟩:=fv.1 hR;obtain⟨_,b1',b2',b3',b4'⟩:=fv.1 hR';have hin:=AK b1 b2' b3 b4' hcc hrr;have hsl:s.size<=281474976710656:=by have:=Gy hn;omega
     obtain⟨k,hk⟩:∃k,(c'-c+1).toNat=k:=⟨_,rfl⟩;obtain⟨h,hh⟩:∃h,(r'-r+1).toNat=h:=⟨_,rfl⟩;have hkh:h*k<=400:=by
      have e1:c'-c+1=(k:Int):=A0c
      have e2:r'-r+1=(h:Int):=A0c
      have:((h*k:Nat):Int)<=400:=by have h5:=h4;unfold cV at h5;rw[e1,e2] at h5;push_cast;rw[Int.mul_comm];exact h5
      omega
     rw[hk,hh] at hF;cases hF;refine⟨rfl,?_⟩;have d4:decide (400<cV c r c' r')=false:=Zl A0c;have m1:(0:Int)<=cV c r c' r':=A0c
     have m2:(32:Int)*cV c r c' r'<=281474976710656:=A0c
     have m2':((32:Nat):Int)*cV c r c' r'<=281474976710656:=A0c
     have m3:cV c r c' r'<=9223372036854775807:=A0c
     simp +decide (maxDischargeDepth:=200) only[go_sem,fY,ha,d4,bS,hsl,m1,m2,m2',m3];refine dt (X:={p:Nat×Nat//p.1<=h∧(p.2=25∨p.2=52)}) (fun p=>[(1,.ptr 1 0),(2,.sl true 0 [] none),(5,.x (.string s)),(6,GE false p.1.2 (c9 s c r k p.1.1)),(7,.x (.int .i64 (r+(p.1.1:Int))))]) (fun _=>[(1,[.x (.string s),.x (.int .i64 c),.x (.int .i64 r),.x (.string s),.x (.int .i64 c'),.x (.int .i64 r')])]) (fun p=>h-p.1.1) ⟨(0,25),A0l⟩ (by simp +decide only[go_sem,c9];simp[GE]) (by simp +decide only[go_sem]) (fun⟨⟨y,tk⟩,hy,htk⟩=>?_);simp only at hy htk;by_cases hyh:y<h
     . have e0:decide (r+(y:Int)<=r')=true:=Zk A0c;have e9:aw .i64 (r+(y:Int)+1)=r+((y+1:Nat):Int):=by rw[aj A0j];omega
       simp +decide (maxDischargeDepth:=200) only[go_sem,e0];refine dt (X:={p:Nat×Nat//p.1<=k∧(p.2=25∨p.2=52)}) (fun p=>[(1,.ptr 1 0),(2,.sl true 0 [] none),(5,.x (.string s)),(6,GE false p.1.2 (c9 s c r k y++kx s c (r+(y:Int)) p.1.1)),(7,.x (.int .i64 (r+(y:Int)))),(8,.x (.int .i64 (c+(p.1.1:Int))))]) (fun _=>[(1,[.x (.string s),.x (.int .i64 c),.x (.int .i64 r),.x (.string s),.x (.int .i64 c'),.x (.int .i64 r')])]) (fun p=>k-p.1.1) ⟨(0,tk),by simpa using htk⟩ (by simp +decide only[go_sem];simp[kx]) (by simp +decide only[go_sem]) (fun⟨⟨x,tk⟩,hx,htk⟩=>?_);simp only at hx htk;by_cases hxk:x<k
       . have e1:decide (c+(x:Int)<=c')=true:=Zk A0c;have e3:aw .i64 (c+(x:Int)+1)=c+((x+1:Nat):Int):=by rw[aj A0j];omega
         have hlen:(c9 s c r k y++kx s c (r+(y:Int)) x).length<=400:=by rw[Zr,dI,um];have:(y+1)*k<=h*k:=aaA _ A0c;rw[aau,abE] at this;omega
         have e6:(c9 s c r k y++kx s c (r+(y:Int)) x)++[(s,c+(x:Int),r+(y:Int))]=c9 s c r k y++kx s c (r+(y:Int)) (x+1):=by rw[Dd,aam]
         generalize hL:c9 s c r k y++kx s c (r+(y:Int)) x=L at hlen e6;have g1:((L.map aa).length+1)*32<=140737488355328:=A0z
         have g2:(L.map aa).length+1<=9223372036854775807:=A0z
         by_cases hnil:false=true∧L=[]
         . obtain⟨hn0,rfl⟩:=hnil;cases hn0
         . have a0:=yB (tok:=tk) hnil;simp +decide (maxDischargeDepth:=200) only[go_sem,a0,e1,e3,De (L:=L) A0c,yA,pX];refine⟨⟨(x+1,52),A0C⟩,?_,?_,by simp only;omega⟩
           . simp +decide only[go_sem,<-e6,GF,pX]
           . simp +decide only[go_sem]
       . have e1:decide (c+(x:Int)<=c')=false:=Zl A0c;have hxe:x=k:=A0c
         subst hxe;simp +decide (maxDischargeDepth:=200) only[go_sem,e1,e9];refine⟨⟨(y+1,tk),by simp only;omega,by simp only;exact htk⟩,?_,?_,by simp only;omega⟩
         . simp +decide only[go_sem,c9]
         . simp +decide only[go_sem]
     . have e0:decide (r+(y:Int)<=r')=false:=Zl A0c;have hye:y=h:=A0c
       subst hye;have hne: ¬(false=true∧c9 s c r k y=[]):=by rintro⟨_,hh0⟩;have:=dI s c r k y;rw[hh0] at this;have hp:0<y*k:=Nat.mul_pos A0c A0c;simp at this;omega
       have a0:=yB (tok:=tk) hne;simp +decide (maxDischargeDepth:=200) only[go_sem,e0,a0]
   . have hc:dR s c r s' c' r'=none:=Zs (fun hh=>h4 hh.2);rw[hc] at hF;cases hF;refine⟨rfl,?_⟩;have d4:decide (400<cV c r c' r')=true:=Zk A0c;simp +decide (maxDischargeDepth:=200) only[go_sem,fY,ha,d4]
end Go.Proofs.Ytmfojhkjbkombaa
